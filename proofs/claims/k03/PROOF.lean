import PyProof.Rows.All
import Wide.All
import OpenK.AllK
import Wide.FinOn
import KE.KStateDown
import HandS.ForExc
import HandS.More
import HandS.Defaults
import HandS.Head0
import KE.HD3
import HandS.Head1
import HandS.Head2
import HandS.HeadEnd
import HandS.HeadHook1
import HandS.HeadHook2
import HandS.HeadWalk
import HandS.HeadNt
import HandS.Property
import HandS.Gcd
import HandS.Wide
import HandS.MakeKw
import HandS.Comp
import HandS.Text
import HandS.FStr
import HandS.StrMore
import HandS.Flow
import HandS.IsInst
import HandS.EndBits
import HandS.RaiseMore
import HandS.SlotsOwn
import HandS.OwnEq
import HandS.ClsMeth
import HandS.CallRecv
import HandS.MakeKwOnly
import HandS.TupLe
import KE.KCallOwn
import KE.KOpsOwn
import HandS.ExcInit
import HandS.ExcField
import HandS.ExcOwn
import HandS.ExcIs
import HandS.TryMany
import KE.KExcIs
import HandS.HotCalls
import HandS.Iter
import HandS.ExcCtx
import HandS.ExcInitHot
import HandS.Codes
import KE.IntTextLaws
import KE.IntTextText
import PyProof.Rows.ReprOcc
import PyProof.Rows.SortStrRead
import HandS.NoneIn
import HandS.Walk
import HandS.Style
import PySem.Challenge.RW_delaynets_k03_whole_number_texts
set_option Elab.async false
set_option linter.all false
set_option maxRecDepth 100000
set_option maxHeartbeats 0
/-! A head's facts by names: every fact a test of the written part, every def by its own path. -/
namespace Hk
open PySem PySem.Spec PyProof.Rows L2
abbrev Fr := PySem.W.Frag
abbrev Tst := Fr → Bool
/-- a def of the text: the path to its function object, its text, its defaults -/
structure Dx where
  ad : Fr → Addr
  nm : Str
  ql : Str
  st : Stmt
  df : List He.Dv := []
abbrev Seen : Type := Option (Str × Str × Arguments × FuncBody × Scope × Addr × List (Str × Addr) × Addr)
def seenAt (K : Fr) (a : Addr) : Seen :=
  match K.lookup a with
  | some ⟨_, _, .func g, _⟩ => some (g.name, g.qualname, g.params, g.body, g.scope, g.globals, g.closure, g.builtins)
  | _ => none
def Dx.due (d : Dx) : Seen := some (d.nm, d.ql, defArgs d.st, .stmts (defBody d.st), defScope d.st, mainGlobals, [], builtinsNs)
def Dx.vs (K : Fr) (d : Dx) : List V := d.df.map (He.Dv.v K)
def Dx.okb (K : Fr) (d : Dx) : Bool :=
  PySem.W.keepIn K (.ref (d.ad K)) &&
    (match K.lookup (d.ad K) with
    | some ⟨_, _, .func g, _⟩ => PySem.W.codeIn K g.code d.ql && He.dflB K g.defaults (d.vs K)
    | _ => false)
/-- the def d stands at its address as fd -/
abbrev DAt (K : Fr) (d : Dx) (fd : FuncData) : Prop := FunD K d.nm d.ql (defArgs d.st) (defBody d.st) (defScope d.st) (d.vs K) [] (d.ad K) fd
theorem Dx.at_of {K : Fr} {d : Dx} (e : seenAt K (d.ad K) = d.due) (c : d.okb K = true) : ∃ fd, DAt K d fd := by
  obtain ⟨kp, c2⟩ := He.ba c
  unfold seenAt at e
  cases q : K.lookup (d.ad K) with
  | none =>
    rw [q] at c2
    exact nomatch c2
  | some ob =>
    obtain ⟨oc, od, dt, osl⟩ := ob
    rw [q] at c2 e
    cases dt with
    | func g =>
      obtain ⟨m1, m2, m3, m4, m5, m6, m7, m8, m9, m10, m11, m12, m13, m14, m15⟩ := g
      have e2 : (some (m1, m2, m3, m4, m5, m6, m7, m15) : Seen) = some (d.nm, d.ql, defArgs d.st, .stmts (defBody d.st), defScope d.st, mainGlobals, [], builtinsNs) := e
      simp only [Option.some.injEq, Prod.mk.injEq] at e2
      obtain ⟨u1, u2, u3, u4, u5, u6, u7, u8⟩ := e2
      subst u1 u2 u3 u4 u5 u6 u7 u8
      obtain ⟨v1, v2⟩ := He.ba (show (PySem.W.codeIn K m13 d.ql && He.dflB K m8 (d.vs K)) = true from c2)
      exact ⟨_, ⟨oc, od, m8, m9, m10, m11, m12, m13, m14, osl, rfl, q, v1, He.dflB_ok v2, .inl rfl⟩, kp⟩
    | _ => exact nomatch c2
abbrev Al2 : Type := Bool × List Seen
def look (fa : List Tst) (fn : List Dx) (K : Fr) : Al2 := ((fa.all fun f => f K) && fn.all fun d => d.okb K, fn.map fun d => seenAt K (d.ad K))
def due (fn : List Dx) : Al2 := (true, fn.map Dx.due)
def Says (fa : List Tst) (fn : List Dx) (K : Fr) : Prop := look fa fn K = due fn
def lookG (n : Nat) (fa : List Tst) (fn : List Dx) (g : Addr → Option Obj) : Al2 := look fa fn (He.frG g (cStatics :: He.asD g n))
def hook (n : Nat) (fa : List Tst) (fn : List Dx) : PySem.W.Hook where
  α := Al2
  obs := fun s => lookG n fa fn s.heap.get?
  val := fun _ => due fn
  says := fun _ h => ∃ K : Fr, K.In h ∧ Says fa fn K
  of := fun _ _ e => ⟨_, He.frG_in, e⟩
  keeps := fun _ _ _ ⟨K, hK, c⟩ k => ⟨K, PySem.W.Frag.In.keeps hK k, c⟩
theorem lookG_eq {n : Nat} {fa : List Tst} {fn : List Dx} {g : Addr → Option Obj} {s : Shared} (h : ∀ a, g a = s.heap.get? a) : lookG n fa fn g = (hook n fa fn).obs s := by
  have e : g = s.heap.get? := funext h
  subst e
  rfl
section
variable {fa : List Tst} {fn : List Dx} {K : Fr}
theorem Says.tst (c : Says fa fn K) (i : Nat) {f : Tst} (h : fa[i]? = some f := by rfl) : f K = true := by
  have c0 := congrArg Prod.fst c
  have c1 := (He.ba (show ((fa.all fun f => f K) && fn.all fun d => d.okb K) = true from c0)).1
  exact List.all_eq_true.mp c1 f (List.mem_of_getElem? h)
theorem Says.dat (c : Says fa fn K) (i : Nat) {d : Dx} (h : fn[i]? = some d := by rfl) : ∃ fd, DAt K d fd := by
  have c0 := congrArg Prod.fst c
  have c2 := (He.ba (show ((fa.all fun f => f K) && fn.all fun d => d.okb K) = true from c0)).2
  have e : (fn.map fun d => seenAt K (d.ad K)) = fn.map Dx.due := congrArg Prod.snd c
  have e2 : (fn.map fun d => seenAt K (d.ad K))[i]? = (fn.map Dx.due)[i]? := by rw [e]
  rw [List.getElem?_map, List.getElem?_map, h] at e2
  exact Dx.at_of (Option.some.inj e2) (List.all_eq_true.mp c2 d (List.mem_of_getElem? h))
end
/-! ### tests -/
def tGlo (x : Str) : Tst := (He.Fa.glo x).ok
def tFree (x : Str) : Tst := (He.Fa.free x).ok
def tInt (x : Str) (i : Int) : Tst := (He.Fa.int x i).ok
def tStr (x z : Str) : Tst := (He.Fa.str x z).ok
def tCls (x : Str) : Tst := (He.Fa.cls x).ok
def tNoat (x f : Str) : Tst := (He.Fa.noat x f).ok
def tMeth (x m : Str) : Tst := (He.Fa.meth x m).ok
def tMkr (x : Str) : Tst := (He.Fa.mkr x).ok
/-- the name is a built-in function (brought in from a module) -/
def tBlt (x : Str) (id : String) : Tst := fun K => He.eqO (PySem.W.nsIn K mainGlobals x) (some (some (.builtin id)))
/-- the getter of the property f of the class x -/
def getAd (x f : Str) (K : Fr) : Addr := match PySem.W.recIn K (He.ma K (He.ga K x) f) "property" with
  | some (.ref g :: _) => g
  | _ => 0
def tProp (x f : Str) : Tst := fun K =>
  He.eqO (PySem.W.findIn K (.ref (He.ga K x)) f) (some (some (.ref (He.ma K (He.ga K x) f)))) &&
  (He.eqO (PySem.W.specialIn K (.ref (He.ma K (He.ga K x) f)) "__get__") (some (some (.builtin "property.__get__"))) &&
  (decide (PySem.W.takesIn K (.ref (He.ma K (He.ga K x) f)) = some true) &&
  (match PySem.W.recIn K (He.ma K (He.ga K x) f) "property" with
  | some (.ref _ :: _) => true
  | _ => false)))
theorem prop_ok {K : Fr} {x f : Str} (c : tProp x f K = true) : PropOf K (He.ga K x) f (He.ma K (He.ga K x) f) (getAd x f K) := by
  obtain ⟨c1, c⟩ := He.ba c
  obtain ⟨c2, c⟩ := He.ba c
  obtain ⟨c3, c4⟩ := He.ba c
  refine ⟨He.eqO_ok c1, He.eqO_ok c2, of_decide_eq_true c3, ?_⟩
  unfold getAd
  cases e : PySem.W.recIn K (He.ma K (He.ga K x) f) "property" with
  | none =>
    rw [e] at c4
    exact nomatch c4
  | some l =>
    rw [e] at c4
    cases l with
    | nil => exact nomatch c4
    | cons v r =>
      cases v with
      | ref g => exact ⟨r, rfl⟩
      | _ => exact nomatch c4
theorem blt_ok {K : Fr} {h : Heap} {mg : Str → Option Value} (X : K.In h) (G : h.Ns mainGlobals mg) {x : Str} {id : String} (c : tBlt x id K = true) : mg x = some (.builtin id) := PySem.W.mg_of X G (He.eqO_ok c)
/-- where a global def stands; a class's method -/
def gAd (x : Str) (K : Fr) : Addr := He.ga K x
def mAd (x m : Str) (K : Fr) : Addr := He.ma K (He.ga K x) m
end Hk
namespace Hk
open PySem PySem.Spec PyProof.Rows L2
/-- the function inside the static method m of the class x -/
def statAd (x m : Str) (K : Fr) : Addr := He5.wf K (He.ga K x) "staticmethod" m
def tStat (x m : Str) : Tst := fun K => He5.wrapB K (He.ga K x) "staticmethod" "staticmethod.__get__" m &&
  (PySem.W.readsIn K (He.ga K x) (.type "type") && (He.eqO (PySem.W.specialIn K (.ref (He.ga K x)) "__getattribute__") (some (some (.builtin "type.__getattribute__"))) && PySem.W.keepIn K (.ref (statAd x m K))))
/-- == is the class's own, != object's -/
def tNe (x : Str) : Tst := fun K => He.eqO (PySem.W.findIn K (.ref (He.ga K x)) "__ne__") (some (some (.builtin "object.__ne__"))) && decide (PySem.W.subIn K (.ref (He.ga K x)) (.type "object") = some true)
/-- what isinstance asks of an instance of the class x -/
def tIns (x : Str) : Tst := fun K => He.eqO (PySem.W.findIn K (.ref (He.ga K x)) "__class__") (some (some (.builtin "object.__class__"))) &&
  (He.eqO (PySem.W.specialIn K (.builtin "object.__class__") "__get__") (some (some (.builtin "getset_descriptor.__get__"))) && (decide (PySem.W.takesIn K (.builtin "object.__class__") = some true) && decide (PySem.W.mroIn K (He.ga K x) (.type "object") = some true)))
/-- isinstance of the built-in type t against the class x; of the class y against x -/
def tKit (t : String) (x : Str) (b : Bool) : Tst := fun K => decide (PySem.W.kitOne K (.type t) (.ref (He.ga K x)) = some b)
def tKitO (y x : Str) (b : Bool) : Tst := fun K => decide (PySem.W.kitOne K (.ref (He.ga K y)) (.ref (He.ga K x)) = some b)
def tKitB (y : Str) (t : String) (b : Bool) : Tst := fun K => decide (PySem.W.kitOne K (.ref (He.ga K y)) (.type t) = some b)
/-- a comparison of an instance of x with a value of the type t begins with the instance -/
def tFst (x : Str) (t : String) : Tst := fun K => PySem.W.notFirst K (He.ga K x) (.type t)
def tFstO (x : Str) : Tst := fun K => PySem.W.notFirst K (He.ga K x) (.ref (He.ga K x))
theorem ins_ok {K : Fr} {x : Str} (c : tIns x K = true) {H : Hp} {a dx : Addr} {fs : List (Str × V)} (e : H a = some (.ins (He.ga K x) dx fs)) (cl : Cls K (He.ga K x)) : TyOf K H (.ref a) (.ref (He.ga K x)) := by
  obtain ⟨c1, c⟩ := He.ba c
  obtain ⟨c2, c⟩ := He.ba c
  obtain ⟨c3, c4⟩ := He.ba c
  exact .ins e cl (He.eqO_ok c1) (He.eqO_ok c2) (of_decide_eq_true c3) (of_decide_eq_true c4)
def clsMk (x : Str) : Tst := fun K => tCls x K && tMkr x K
end Hk
namespace Hk
open PySem PySem.Spec PyProof.Rows L2
section
variable {P : Program} {w : World} {K : Fr} {mg : Str → Option Value} {base : Heap}
/-- the global name x stands for a def at ad that keeps the promise sp (nothing is raised), at level k -/
def Cal (P : Program) (w : World) (K : Fr) (mg : Str → Option Value) (base : Heap) (k : Nat) (x : Str) (ad : Addr) (ps : List Str) (sp : Sp) : Prop :=
  ∃ fd : FuncData, FnOk P w K mg base CX0 k ad fd ps sp ∧ Binds K fd ps [] ∧ PySem.W.keepIn K (.ref ad) = true ∧ mg x = some (.ref ad)
theorem Cal.mono {j k : Nat} {x : Str} {ad : Addr} {ps : List Str} {sp : Sp} (c : Cal P w K mg base j x ad ps sp) (h : j ≤ k) : Cal P w K mg base k x ad ps sp := by
  obtain ⟨fd, F, r⟩ := c
  exact ⟨fd, F.mono h, r⟩
theorem Cal.imp {k : Nat} {x : Str} {ad : Addr} {ps : List Str} {sp sp' : Sp} (c : Cal P w K mg base k x ad ps sp) (h : ∀ vs H Q E, sp' vs H Q E → sp vs H Q E) : Cal P w K mg base k x ad ps sp' := by
  obtain ⟨fd, F, r⟩ := c
  exact ⟨fd, F.imp h, r⟩
theorem pe_c {X : Cx} {k : Nat} {x : Str} {ad : Addr} {ps : List Str} {sp : Sp} {e : Expr} {es : List Expr} {t : TA} {p pos : Pos} (c : Cal X.prog X.w X.K X.mg X.base k x ad ps sp) (hr : Room k X.A) (ha : PA X (e :: es) t) (hg : Gl X x := by rfl)
    (hdb : (x == ("__debug__" : Str)) = false := by decide) (he : starEach (e :: es) X.env = (false, eval e X.env) :: starEach es X.env := by rfl) (hpl : (backTo pos (starEach es X.env)).any (·.1) = false := by rfl) :
    PE X (.Call (.Name x p) (e :: es) [] pos) (tCall sp [] E0 t) := by
  obtain ⟨fd, F, b, kp, m⟩ := c
  exact pe_call F hr hg m kp b .nil pass0 ha hdb he hpl
/-- the body of a def: its reading -/
abbrev Body (P : Program) (w : World) (K : Fr) (mg : Str → Option Value) (base : Heap) (k : Nat) (d : Dx) (N ps : List Str) (sp : Sp) : Prop :=
  ∀ (cdv : Value) (A : Around) (outer : List Env) (s : Shared) (H : Hp) (vs : List V) (Q : VK) (E : XK), Room k (A.deeper (envOfC d.ql (defScope d.st) s.heap.objs.size (d.ad K) cdv)) → sp vs H Q E →
      ∃ t, PSs (cxOf CX0 P w K mg base N d.ql (defScope d.st) (d.ad K) cdv A outer s H E).nox (defBody d.st) t ∧ t { nx := fun _ H' => Q .non H', rt := Q } (start N vs) H
theorem ok_of {k : Nat} {d : Dx} {N ps : List Str} {sp : Sp} {fd : FuncData} (D : DAt K d fd) (S : FnScope N ps (defScope d.st)) (len : ∀ vs H Q E, sp vs H Q E → vs.length = ps.length) (hb : Body P w K mg base k d N ps sp) :
    FnOk P w K mg base CX0 (k + 1) (d.ad K) fd ps sp := by
  refine FunD.ok D S len fun cdv A outer s H vs Q E hr h => ?_
  obtain ⟨t, h1, h2⟩ := hb cdv A outer s H vs Q E hr h
  exact ⟨t, h1.nox, h2⟩
theorem cal_of {k : Nat} {d : Dx} {N ps : List Str} {sp : Sp} {x : Str} (D : ∃ fd, DAt K d fd) (hv : d.df = []) (S : FnScope N ps (defScope d.st)) (hm : mg x = some (.ref (d.ad K)))
    (hbi : ∀ (kV doc pm : Value) (an : Option Addr) (cdv ct : Value) (us : List Value), us.length = ps.length → bindArgs (PySem.W.fnOf d.nm d.ql (defArgs d.st) (defBody d.st) (defScope d.st) .none kV doc pm an cdv ct) ⟨us, []⟩ = pure (ps.zip us))
    (len : ∀ vs H Q E, sp vs H Q E → vs.length = ps.length) (hb : Body P w K mg base k d N ps sp) : Cal P w K mg base (k + 1) x (d.ad K) ps sp := by
  obtain ⟨fd, D⟩ := D
  have e : d.vs K = [] := by
    unfold Dx.vs
    rw [hv]
    rfl
  have D' : FunD K d.nm d.ql (defArgs d.st) (defBody d.st) (defScope d.st) [] [] (d.ad K) fd := by
    rw [← e]
    exact D
  exact ⟨fd, ok_of D S len hb, FunD.bindsN D' hbi, D.kp, hm⟩
end
end Hk
namespace Hk
open PySem PySem.Spec PyProof.Rows L2
theorem bo_int : bootBuiltins "int" = some (.type "int") := by decide +kernel
theorem bo_str : bootBuiltins "str" = some (.type "str") := by decide +kernel
theorem bo_len : bootBuiltins "len" = some (.builtin "len") := by decide +kernel
theorem bo_min : bootBuiltins "min" = some (.builtin "min") := by decide +kernel
theorem bo_max : bootBuiltins "max" = some (.builtin "max") := by decide +kernel
theorem bo_abs : bootBuiltins "abs" = some (.builtin "abs") := by decide +kernel
theorem bo_repr : bootBuiltins "repr" = some (.builtin "repr") := by decide +kernel
theorem bo_isinstance : bootBuiltins "isinstance" = some (.builtin "isinstance") := by decide +kernel
theorem bo_all : bootBuiltins "all" = some (.builtin "all") := by decide +kernel
theorem bo_any : bootBuiltins "any" = some (.builtin "any") := by decide +kernel
theorem bo_range : bootBuiltins "range" = some (.type "range") := by decide +kernel
theorem bo_bool : bootBuiltins "bool" = some (.type "bool") := by decide +kernel
end Hk

/-! Defs below which nothing is being shown (no repr runs around them): so repr of made data has its rule. -/
namespace Hk
open PySem PySem.Spec PyProof.Rows L2
abbrev Calm (A : Around) : Prop := A.guards = some []
/-- a def's promise where no repr runs around the call; nothing is raised -/
structure FnG (P : Program) (w : World) (K : Fr) (mg : Str → Option Value) (base : Heap) (k : Nat) (f : Addr) (fd : FuncData) (ps : List Str) (sp : Sp) : Prop where
  len : ∀ vs H Q E, sp vs H Q E → vs.length = ps.length
  run : ∀ (A : Around) (out : List Env) (s : Shared) (H : Hp) (args : Args) (us : List Value) (vs : List V) (Q : VK), Room k A → Calm A → Env0 P w K mg base A out s H → BindsTo s fd args (ps.zip us) → Vals vs us → sp vs H Q E0 →
    codeAny (model P w) A (.call (.ref f) args) (CR CX0 out P w H s Q E0) s
section
variable {P : Program} {w : World} {K : Fr} {mg : Str → Option Value} {base : Heap}
theorem FnG.mono {j k : Nat} {f : Addr} {fd : FuncData} {ps : List Str} {sp : Sp} (F : FnG P w K mg base j f fd ps sp) (h : j ≤ k) : FnG P w K mg base k f fd ps sp :=
  ⟨F.len, fun A out s H args us vs Q r => F.run A out s H args us vs Q (r.mono h)⟩
theorem FnG.of {k : Nat} {f : Addr} {fd : FuncData} {ps : List Str} {sp : Sp} (F : FnOk P w K mg base CX0 k f fd ps sp) : FnG P w K mg base k f fd ps sp :=
  ⟨F.len, fun A out s H args us vs Q r _ e b v h => F.run A out s H args us vs Q E0 r e b v h⟩
theorem FnG.imp {k : Nat} {f : Addr} {fd : FuncData} {ps : List Str} {sp sp' : Sp} (F : FnG P w K mg base k f fd ps sp) (h : ∀ vs H Q E, sp' vs H Q E → sp vs H Q E) : FnG P w K mg base k f fd ps sp' :=
  ⟨fun vs H Q E q => F.len vs H Q E (h _ _ _ _ q), fun A out s H args us vs Q r g e b v q => F.run A out s H args us vs Q r g e b v (h _ _ _ _ q)⟩
/-- such a def is called from a body -/
theorem call_g {X : Cx} {pins : List (Addr × Obj)} {σ : L2.St} {H : Hp} {s : Shared} {Q : VK} {us : List Value} {vs : List V} {k : Nat} {f : Addr} {fd : FuncData} {ps : List Str} {sp : Sp} (F : FnG X.prog X.w X.K X.mg X.base k f fd ps sp)
    (hr : Room k X.A) (hc : Calm X.A) (hb : Binds X.K fd ps []) (I : Inv X pins σ H s) (r : Vals vs us) (h : sp vs H Q E0) : wpAny (model X.prog X.w) X.A (call (.ref f) us) (EP X pins σ Q) X.xe s := by
  have ln : us.length = ps.length := r.length.symm.trans (F.len _ _ _ _ h)
  have bd : BindsTo s fd ⟨us, []⟩ (ps.zip us) := by
    have := hb s us I.kIn (by rw [List.append_nil]; exact ln)
    rwa [List.append_nil] at this
  refine wpAny_call (codeAny_mono (F.run X.A X.stack s H ⟨us, []⟩ us vs Q hr hc I.env0 bd r h) fun z s' hq => ?_)
  rcases z with e | fl
  · exact (show False from hq).elim
  · cases fl with
    | ret u => exact I.after hq
    | _ => exact (show False from hq).elim
/-- the global name x: a def at ad that keeps sp -/
def CalG (P : Program) (w : World) (K : Fr) (mg : Str → Option Value) (base : Heap) (k : Nat) (x : Str) (ad : Addr) (ps : List Str) (sp : Sp) : Prop :=
  ∃ fd : FuncData, FnG P w K mg base k ad fd ps sp ∧ Binds K fd ps [] ∧ PySem.W.keepIn K (.ref ad) = true ∧ mg x = some (.ref ad)
theorem Cal.g {k : Nat} {x : Str} {ad : Addr} {ps : List Str} {sp : Sp} (c : Cal P w K mg base k x ad ps sp) : CalG P w K mg base k x ad ps sp := by
  obtain ⟨fd, F, r⟩ := c
  exact ⟨fd, .of F, r⟩
theorem CalG.mono {j k : Nat} {x : Str} {ad : Addr} {ps : List Str} {sp : Sp} (c : CalG P w K mg base j x ad ps sp) (h : j ≤ k) : CalG P w K mg base k x ad ps sp := by
  obtain ⟨fd, F, r⟩ := c
  exact ⟨fd, F.mono h, r⟩
/-- its reading -/
def tG (sp : Sp) (t : TA) : TE := fun σ H Q => t σ H fun vs H1 => sp vs H1 Q E0
theorem pe_g {X : Cx} {k : Nat} {x : Str} {ad : Addr} {ps : List Str} {sp : Sp} {e : Expr} {es : List Expr} {t : TA} {p pos : Pos} (c : CalG X.prog X.w X.K X.mg X.base k x ad ps sp) (hr : Room k X.A) (hc : Calm X.A) (ha : PA X (e :: es) t) (hg : Gl X x := by rfl)
    (hdb : (x == ("__debug__" : Str)) = false := by decide) (he : starEach (e :: es) X.env = (false, eval e X.env) :: starEach es X.env := by rfl) (hpl : (backTo pos (starEach es X.env)).any (·.1) = false := by rfl) :
    PE X (.Call (.Name x p) (e :: es) [] pos) (tG sp t) := by
  obtain ⟨fd, F, b, kp, m⟩ := c
  refine ⟨fun pins s σ H Q I h => wpAny_Call_Name_kw (ld_glob I hg m ?_ hdb)⟩
  refine PySem.W.callWith_K (h₀ := X.base) I.ok.mod.kin kp (thn (ha.run pos pins s σ H _ I h) fun us s1 ⟨vs, H1, J, r, q⟩ => ⟨J.kIn, ?_⟩) he hpl
  exact call_g F hr hc b J r q
abbrev BodyG (P : Program) (w : World) (K : Fr) (mg : Str → Option Value) (base : Heap) (k : Nat) (d : Dx) (N ps : List Str) (sp : Sp) : Prop :=
  ∀ (cdv : Value) (A : Around) (outer : List Env) (s : Shared) (H : Hp) (vs : List V) (Q : VK) (E : XK), Room k (A.deeper (envOfC d.ql (defScope d.st) s.heap.objs.size (d.ad K) cdv)) → Calm A → sp vs H Q E →
      ∃ t, PSs (cxOf CX0 P w K mg base N d.ql (defScope d.st) (d.ad K) cdv A outer s H E).nox (defBody d.st) t ∧ t { nx := fun _ H' => Q .non H', rt := Q } (start N vs) H
/-- such a def, by its body -/
theorem okg_of {k : Nat} {d : Dx} {N ps : List Str} {sp : Sp} {fd : FuncData} (D : DAt K d fd) (S : FnScope N ps (defScope d.st)) (len : ∀ vs H Q E, sp vs H Q E → vs.length = ps.length) (hb : BodyG P w K mg base k d N ps sp) :
    FnG P w K mg base (k + 1) (d.ad K) fd ps sp := by
  obtain ⟨oc, od, dV, kV, doc, pm, an, cdv, ct, osl, rfl, lk, hcd, _, _⟩ := D.ex
  refine ⟨len, fun A out s H args us vs Q hr hc e0 hbd r hsp => ?_⟩
  have old : ∀ b o, base.get? b = some o → s.heap.get? b = some o := fun b o z => (e0.bs b o z).1
  have KX : K.In s.heap := e0.mod.kin.keeps old
  have kd : ∀ y ∈ ps.zip us, (defScope d.st).names.lookup y.1 = some .local ∨ ((defScope d.st).names.lookup y.1 = some .cell ∧ ((cellsFrom (s.heap.objs.size + 1) (defScope d.st).names []).lookup y.1).isSome = true) := by
    rintro ⟨n, v⟩ hy
    have q := S.par n (List.of_mem_zip hy).1
    exact q.imp id fun q => ⟨q, PySem.W.cellsFrom_some _ _ _ (.inl q)⟩
  refine codeAny_call_function hr.depth (KX _ _ lk) rfl S.co S.gen rfl (PySem.W.codeRec_of KX hcd) (hbd _ _ _ _ ?_)
  refine wpAny_newFunctionEnv_cells S.kind kd fun env he s1 x => ?_
  subst he
  refine ⟨(e0.mod.nolimit.keeps old).keeps x.toInCall.keep, codeAny_func ?_⟩
  obtain ⟨t, ht, hq⟩ := hb cdv A out s H vs Q E0 (hr.deeper _) hc hsp
  have I : Inv (cxOf CX0 P w K mg base N d.ql (defScope d.st) (d.ad K) cdv A out s H E0) [] (start N vs) H s1 := inv_start S hr.hd e0 (len _ _ _ _ hsp) r x
  refine wpAny_mono (ht.nox.run [] s1 (start N vs) H _ I hq) (fun fl s' hs => ?_) fun e s' hs => hs
  cases fl with
  | next =>
    obtain ⟨σ', H', J, q⟩ := hs
    exact ⟨V.non, H', J.os, J.bare, J.base, J.hok, rfl, q⟩
  | ret u =>
    obtain ⟨v, σ', H', J, rv, q⟩ := hs
    exact ⟨v, H', J.os, J.bare, J.base, J.hok, rv, q⟩
  | brk =>
    obtain ⟨σ', H', J, q⟩ := hs
    exact False.elim q
  | cont =>
    obtain ⟨σ', H', J, q⟩ := hs
    exact False.elim q
theorem calg_of {k : Nat} {d : Dx} {N ps : List Str} {sp : Sp} {x : Str} (D : ∃ fd, DAt K d fd) (hv : d.df = []) (S : FnScope N ps (defScope d.st)) (hm : mg x = some (.ref (d.ad K)))
    (hbi : ∀ (kV doc pm : Value) (an : Option Addr) (cdv ct : Value) (us : List Value), us.length = ps.length → bindArgs (PySem.W.fnOf d.nm d.ql (defArgs d.st) (defBody d.st) (defScope d.st) .none kV doc pm an cdv ct) ⟨us, []⟩ = pure (ps.zip us))
    (len : ∀ vs H Q E, sp vs H Q E → vs.length = ps.length) (hb : BodyG P w K mg base k d N ps sp) : CalG P w K mg base (k + 1) x (d.ad K) ps sp := by
  obtain ⟨fd, D⟩ := D
  have e : d.vs K = [] := by
    unfold Dx.vs
    rw [hv]
    rfl
  have D' : FunD K d.nm d.ql (defArgs d.st) (defBody d.st) (defScope d.st) [] [] (d.ad K) fd := by
    rw [← e]
    exact D
  exact ⟨fd, okg_of D S len hb, FunD.bindsN D' hbi, D.kp, hm⟩
/-- the law's own end: such a def is called with the script -/
theorem end_g {l : PySem.W.OpenLaw} {q : Program} {loose : List Str} {XP : (Str → Option Value) → Heap → Prop} {YP : World → Heap → Prop} {d : DefRec} {k : Nat} {x : Str} (hn : l.most = some 63) (hdf : d.params.defaults = []) (hr : Room k callerA)
    (F : ∀ (w : World) (mg : Str → Option Value) (fa : Addr) (h : Heap), YP w h → h.Ns mainGlobals mg → mg d.name = some (.ref fa) →
      ∃ (K : Fr) (fd : FuncData) (sp : Sp), K.In h ∧ (∀ (s : Shared) (u : Value), BindsTo s fd ⟨[u], []⟩ [(x, u)]) ∧
        (∀ (H : Hp) (a : Addr) (ns : List Int), ns.length ≤ 63 → (∀ n ∈ ns, Builtin.Int.intBits n ≤ 1048576) → SqL K H a (ns.map V.int) → sp [.ref a] H (fun v _ => v = .bl true) E0) ∧
        ∀ base : Heap, K.In base → base.Ns mainGlobals mg → FnG l.prog w K mg base k fa fd [x] sp) :
    PySem.W.WalkO q loose XP YP l.row.toRowW d [] (fun f vs => PySem.call f vs) := by
  refine Att.attach_callB hn hdf fun w s₀ s₁ mg mb fa o pm cd doc a vs ns G Y ho hd hcd hmg hobj hints hlen hbits hg => ?_
  obtain ⟨K, fd, sp, KX, hbi, hsp, hF⟩ := F w mg fa _ Y G.T.g hmg
  have rv := vals_ints hints
  have sz : vs.length ≤ sizeLine := by
    have := hints.length
    have e : 63 ≤ sizeLine := by decide
    omega
  have szn : (ns.map V.int).length ≤ sizeLine := by
    rw [rv.length]
    exact sz
  -- an abstract heap in which the script alone may be tracked
  obtain ⟨H, hO, hS, hok, hA, hK⟩ : ∃ H : Hp, Only H ∧ SqL K H a (ns.map V.int) ∧ HOk l.prog w H s₁.heap ∧ (∀ b, H b ≠ none → b = a) ∧ (H a ≠ none → K.lookup a = none) := by
    cases hk : K.lookup a with
    | some ob =>
      have e := KX a ob hk
      rw [hobj] at e
      cases e
      refine ⟨fun _ => none, fun _ => .inl rfl, .inr ⟨_, vs.toArray, _, hk, rfl, rfl, rfl, ?_, ?_⟩, fun b u z => (nomatch z), fun b z => absurd rfl z, fun z => absurd rfl z⟩
      · rw [List.size_toArray]
        exact sz
      · simpa using rv
    | none =>
      have at_ : ∀ {b : Addr} {u : HO}, (if b = a then some (HO.frz { cls := .type "list", data := .seq vs.toArray } (.lst (ns.map V.int))) else none) = some u → b = a ∧ u = HO.frz { cls := .type "list", data := .seq vs.toArray } (.lst (ns.map V.int)) := fun {b u} z => by
        by_cases hb : b = a
        · rw [if_pos hb] at z
          exact ⟨hb, (Option.some.inj z).symm⟩
        · rw [if_neg hb] at z
          exact nomatch z
      refine ⟨fun b => if b = a then some (.frz { cls := .type "list", data := .seq vs.toArray } (.lst (ns.map V.int))) else none, fun b => ?_, .inl (.inr ⟨_, if_pos rfl⟩), fun b u z => ?_, fun b z => ?_, fun _ => rfl⟩
      · by_cases hb : b = a
        · exact .inr ⟨_, _, if_pos hb⟩
        · exact .inl (if_neg hb)
      · obtain ⟨e1, e2⟩ := at_ z
        subst e1 e2
        exact ⟨hobj, szn, vs, _, rv, hobj⟩
      · by_cases hb : b = a
        · exact hb
        · exact absurd (if_neg hb) z
  have old : ∀ {b : Addr} {ob : Obj}, s₁.heap.get? b = some ob → H b = none → (hidT s₁.heap H).get? b = some ob := fun e n => hidT_get e n
  have only_a : ∀ b, b ≠ a → H b = none := fun b hb => by
    cases z : H b with
    | none => rfl
    | some u => exact absurd (hA b (by rw [z]; exact fun y => nomatch y)) hb
  have dict_out : ∀ {b : Addr} {ob : Obj} {es : Array DictEntry} {ep : Nat}, s₁.heap.get? b = some ob → ob.data = .dict es ep → H b = none := fun {b ob es ep} e dd => only_a b fun z => by
    subst z
    rw [hobj] at e
    cases e
    exact nomatch dd
  have ns_ : ∀ {b : Addr} {m : Str → Option Value}, s₁.heap.Ns b m → (hidT s₁.heap H).Ns b m := fun {b m} ⟨ob, es, ep, e, dd, r⟩ => ⟨ob, es, ep, old e (dict_out e dd), dd, r⟩
  have K_ : K.In (hidT s₁.heap H) := fun b ob e => old (KX b ob e) (by
    cases z : H b with
    | none => rfl
    | some u =>
      have eb := hA b (by rw [z]; exact fun y => nomatch y)
      subst eb
      have := hK (by rw [z]; exact fun y => nomatch y)
      rw [this] at e
      exact nomatch e)
  obtain ⟨mc, l1, l2⟩ := G.T.nolimit
  have e0 : Env0 l.prog w K mg (hidT s₁.heap H) callerA [] s₁ H :=
    { frames := rfl, mod := ⟨K_, ns_ G.T.g, ⟨mb, ns_ G.T.b, G.T.builtins⟩, ⟨mc, ns_ l1, l2⟩⟩, bs := fun b ob e => of_hidT e, bsz := Nat.le_of_eq (hidT_size _ _), funs := trivial, frf := fun b hb => absurd hb (List.not_mem_nil), hok := hok, bare := .of_eq hg }
  refine codeAny_mono ((hF _ K_ (ns_ G.T.g)).run callerA [] s₁ H ⟨[.ref a], []⟩ [.ref a] [.ref a] (fun v _ => v = .bl true) hr rfl e0 (hbi s₁ (.ref a)) (.cons rfl .nil) (hsp H a ns hlen hbits hS)) fun r s' h => ?_
  cases r with
  | error e => exact (show False from h).elim
  | ok fl =>
    cases fl with
    | ret u =>
      obtain ⟨v, H', os, bare, un, hok', r', ev⟩ := h
      have ev' : v = .bl true := ev
      subst ev'
      cases r'
      refine ⟨rfl, OldK.of_keep fun b ob e => ?_, os, bare⟩
      rcases hO b with z | ⟨o1, xs, z⟩
      · exact un.keep b ob e z (List.not_mem_nil) (List.not_mem_nil)
      · obtain ⟨e1, _⟩ := hok b _ z
        obtain ⟨e2, _⟩ := hok' b _ (un.frzs b o1 _ z)
        rw [e] at e1
        cases e1
        exact e2
    | _ => exact (show False from h).elim
end
end Hk

/-! repr of data; str, repr, == of own instances by their own methods; static methods. -/
namespace Hk
open PySem PySem.Spec PyProof.Rows L2
mutual
theorem Dp.noDict {K : Fr} {H : Hp} : ∀ (d : PyData) (v : V), Dp K H v d → d.hasDict = false
  | .none, _, _ => by simp [PyData.hasDict]
  | .bool _, _, _ => by simp [PyData.hasDict]
  | .int _, _, _ => by simp [PyData.hasDict]
  | .str _, _, _ => by simp [PyData.hasDict]
  | .list ds, _, h => by
    cases h with
    | lst _ ha =>
      simp only [PyData.hasDict]
      exact Dp.noDictAll ds _ ha
  | .tuple ds, _, h => by
    cases h with
    | tup _ ha =>
      simp only [PyData.hasDict]
      exact Dp.noDictAll ds _ ha
  | .dict _, _, h => by cases h
theorem Dp.noDictAll {K : Fr} {H : Hp} : ∀ (ds : List PyData) (vs : List V), DpAll K H vs ds → PyData.hasDictAll ds = false
  | [], _, _ => by simp [PyData.hasDictAll]
  | d :: ds, _, h => by
    cases h with
    | cons h1 h2 =>
      simp only [PyData.hasDictAll, Bool.or_eq_false_iff]
      exact ⟨Dp.noDict d _ h1, Dp.noDictAll ds _ h2⟩
end
/-- repr(x), x data: none, a truth, an int, a text, lists and tuples of such -/
def rRepr (K : Fr) : List V → Hp → VK → Prop := fun xs H Q => ∃ x d, xs = [x] ∧ Dp K H x d ∧ d.showable = true ∧ d.depth ≤ 60 ∧ d.shown.length ≤ sizeLine ∧ Q (.str d.shown) H
section
variable {X : Cx}
theorem call_reprD {k : Nat} (hc : Calm X.A) (hr : Room k X.A) : CallR X (.builtin "repr") (rRepr X.K) := by
  intro pins s σ H xs us Q I r h
  obtain ⟨x, d, rfl, hd, hs, hdp, hz, q⟩ := h
  obtain ⟨u, rfl, ru⟩ := r.one
  cases hd with
  | non =>
    cases ru
    rw [PyData.shown_none] at q
    exact PySem.P.repr_of_none ⟨.str _, H, I.tok _, ⟨_, rfl⟩, q⟩
  | bl b =>
    cases ru
    rw [PyData.shown_bool] at q
    refine PySem.P.repr_of_bool ⟨.str _, H, I.tok _, ⟨_, rfl⟩, ?_⟩
    cases b <;> exact q
  | int i =>
    obtain ⟨t, rfl⟩ := ru
    rw [PyData.shown_int] at q
    refine PySem.P.repr_of_int ?_ ⟨.str _, H, I.tok _, ⟨_, rfl⟩, q⟩
    simpa [PyData.showable] using hs
  | str y =>
    obtain ⟨t, rfl⟩ := ru
    rw [PyData.shown_str] at q hz
    exact PySem.P.repr_of_str ⟨.str _, H, I.tok _, ⟨_, rfl⟩, q⟩ hz
  | @lst a ys ds h1 h2 =>
    have e : u = Value.ref a := ru
    subst e
    have nd := Dp.noDict _ _ (Dp.lst h1 h2)
    obtain ⟨as, hr'⟩ := Dp.reads I (.list ds) _ _ (Dp.lst h1 h2) rfl
    refine PySem.repr_of_reads' hr' hs (fun z => by rw [nd] at z; exact nomatch z) hc ?_ (fun b o z => z) (fun h' u tk kp => ⟨.str _, H, I.kept kp, ⟨_, rfl⟩, q⟩) hz
    have := hr.units
    omega
  | @tup a ys ds h1 h2 =>
    have e : u = Value.ref a := ru
    subst e
    have nd := Dp.noDict _ _ (Dp.tup h1 h2)
    obtain ⟨as, hr'⟩ := Dp.reads I (.tuple ds) _ _ (Dp.tup h1 h2) rfl
    refine PySem.repr_of_reads' hr' hs (fun z => by rw [nd] at z; exact nomatch z) hc ?_ (fun b o z => z) (fun h' u tk kp => ⟨.str _, H, I.kept kp, ⟨_, rfl⟩, q⟩) hz
    have := hr.units
    omega
/-! ### own methods that the interpreter calls -/
theorem own_run {A' : Around} {pins : List (Addr × Obj)} {σ : L2.St} {H : Hp} {s : Shared} {Q : VK} {E' : Value → Shared → Prop} {us : List Value} {vs : List V} {k : Nat} {f : Addr} {fd : FuncData} {ps : List Str} {sp : Sp} (F : FnOk X.prog X.w X.K X.mg X.base CX0 k f fd ps sp)
    (hr : Room k A') (e0 : Env0 X.prog X.w X.K X.mg X.base A' X.stack s H) (hb : Binds X.K fd ps []) (I : Inv X pins σ H s) (r : Vals vs us) (h : sp vs H Q E0) : wpAny (model X.prog X.w) A' (call (.ref f) us) (EP X pins σ Q) E' s := by
  have ln : us.length = ps.length := r.length.symm.trans (F.len _ _ _ _ h)
  have bd : BindsTo s fd ⟨us, []⟩ (ps.zip us) := by
    have := hb s us I.kIn (by rw [List.append_nil]; exact ln)
    rwa [List.append_nil] at this
  refine wpAny_call (codeAny_mono (F.run A' X.stack s H ⟨us, []⟩ us vs Q E0 hr e0 bd r h) fun z s' hq => ?_)
  rcases z with e | fl
  · exact (show False from hq).elim
  · cases fl with
    | ret u => exact I.after hq
    | _ => exact (show False from hq).elim
/-- the class at C has its own def at f for the name m -/
structure Own (K : Fr) (C : Addr) (m : Str) (f : Addr) : Prop where
  at_ : PySem.W.findIn K (.ref C) m = some (some (.ref f))
  fn : PySem.W.isFn K (.ref f) = true
def rText (C : Addr) (sp : Sp) : List V → Hp → VK → Prop := fun xs H Q => ∃ a dx fs, xs = [.ref a] ∧ H a = some (.ins C dx fs) ∧ sp [.ref a] H (fun z H' => ∃ y, z = .str y ∧ Q z H') E0
section
variable {k : Nat} {C f : Addr} {fd : FuncData} {ps : List Str} {sp : Sp}
theorem call_strO (O : Own X.K C "__str__" f) (F : FnOk X.prog X.w X.K X.mg X.base CX0 k f fd ps sp) (hb : Binds X.K fd ps []) (hr : Room (k + 2) X.A) : CallR X (.type "str") (rText C sp) := by
  intro pins s σ H xs us Q I r h
  obtain ⟨a, dx, fs, rfl, ha, q⟩ := h
  obtain ⟨u, rfl, ru⟩ := r.one
  cases (show u = Value.ref a from ru)
  obtain ⟨mA, M, _⟩ := ins_get I.hok ha
  obtain ⟨od, J, _⟩ := M.look
  have r2 : Room k X.A.in1.in1 := (show Room (k + 1) X.A.in1 from Room.in1 hr).in1
  refine PySem.W.kso_call r2.units0 I.kIn J O.at_ O.fn (wpAny_mono (own_run (vs := [.ref a]) F r2 I.env0.in1.in1 hb I (.cons rfl .nil) q) (fun v s' z => ?_) fun _ _ z => z)
  obtain ⟨z', H', I', rz, y, ey, qz⟩ := z
  subst ey
  obtain ⟨t, e⟩ := (show ∃ t, v = Value.str y t from rz)
  cases e
  exact ⟨.str y, H', I', ⟨t, rfl⟩, qz⟩
theorem call_reprO (O : Own X.K C "__repr__" f) (F : FnOk X.prog X.w X.K X.mg X.base CX0 k f fd ps sp) (hb : Binds X.K fd ps []) (hr : Room (k + 1) X.A) : CallR X (.builtin "repr") (rText C sp) := by
  intro pins s σ H xs us Q I r h
  obtain ⟨a, dx, fs, rfl, ha, q⟩ := h
  obtain ⟨u, rfl, ru⟩ := r.one
  cases (show u = Value.ref a from ru)
  obtain ⟨mA, M, _⟩ := ins_get I.hok ha
  obtain ⟨od, J, _⟩ := M.look
  have r2 : Room k X.A.in1 := Room.in1 hr
  obtain ⟨m, hF⟩ := I.fr
  refine PySem.W.repr_K r2.units0 hF I.ok.mod.kin J O.at_ O.fn (wpAny_mono (own_run (vs := [.ref a]) F r2 I.env0.in1 hb I (.cons rfl .nil) q) (fun v s' z => ?_) fun _ _ z => z)
  obtain ⟨z', H', I', rz, y, ey, qz⟩ := z
  subst ey
  obtain ⟨t, e⟩ := (show ∃ t, v = Value.str y t from rz)
  cases e
  exact ⟨.str y, H', I', ⟨t, rfl⟩, qz⟩
/-- the type of what is compared -/
inductive TyL (K : Fr) (H : Hp) : V → Value → Prop where
  | non : TyL K H .non (.type "NoneType")
  | bl (b : Bool) : TyL K H (.bl b) (.type "bool")
  | int (i : Int) : TyL K H (.int i) (.type "int")
  | str (y : Str) : TyL K H (.str y) (.type "str")
  | lst {a : Addr} {xs : List V} (h : H a = some (.lst xs)) : TyL K H (.ref a) (.type "list")
  | tup {a : Addr} {xs : List V} (h : H a = some (.tup xs)) : TyL K H (.ref a) (.type "tuple")
  | ins {a C dx : Addr} {fs : List (Str × V)} (h : H a = some (.ins C dx fs)) : TyL K H (.ref a) (.ref C)
theorem typeOf_obj {M : Model} {h : Heap} {a : Addr} {o : Obj} {t : Value} (e : h.get? a = some o) (c : o.cls = t) : PySem.W.Looks M h (typeOf (.ref a)) t := by
  intro A Q E s kp q
  refine wpAny_typeOf_ref (kp _ _ e) ?_
  rw [c]
  exact q
theorem TyL.looks {pins : List (Addr × Obj)} {σ : L2.St} {H : Hp} {s : Shared} {y : V} {u t : Value} {M : Model} (I : Inv X pins σ H s) (ry : RelV y u) (ty : TyL X.K H y t) : PySem.W.Looks M s.heap (typeOf u) t := by
  cases ty with
  | non => cases ry; exact PySem.W.Looks.of_pure rfl
  | bl b => cases ry; exact PySem.W.Looks.of_pure rfl
  | int i =>
    obtain ⟨t, rfl⟩ := ry
    exact PySem.W.Looks.of_pure rfl
  | str z =>
    obtain ⟨t, rfl⟩ := ry
    exact PySem.W.Looks.of_pure rfl
  | @lst a xs h =>
    cases (show u = Value.ref a from ry)
    obtain ⟨_, its, n, _, e⟩ := (show ObjOk X.prog X.w H s.heap a (.lst xs) from I.hok a _ h)
    exact typeOf_obj e rfl
  | @tup a xs h =>
    cases (show u = Value.ref a from ry)
    obtain ⟨_, its, _, o, e, c, _⟩ := (show ObjOk X.prog X.w H s.heap a (.tup xs) from I.hok a _ h)
    exact typeOf_obj e c
  | @ins a C dx fs h =>
    cases (show u = Value.ref a from ry)
    obtain ⟨mA, M, _⟩ := ins_get I.hok h
    obtain ⟨od, J, _⟩ := M.look
    exact J.type
def rEqO (K : Fr) (C : Addr) (sp : Sp) : R2 := fun x y H Q => ∃ a dx fs t, x = .ref a ∧ H a = some (.ins C dx fs) ∧ TyL K H y t ∧ PySem.W.notFirst K C t = true ∧ sp [x, y] H (fun z H' => ∃ b, z = .bl b ∧ Q z H') E0
theorem op_eqO (O : Own X.K C "__eq__" f) (F : FnOk X.prog X.w X.K X.mg X.base CX0 k f fd ps sp) (hb : Binds X.K fd ps []) (hr : Room k X.A) : OpR X (compareOp .Eq) (rEqO X.K C sp) := by
  intro pins s σ H x y v u Q I rx ry h
  obtain ⟨a, dx, fs, t, rfl, ha, ty, hn, q⟩ := h
  cases (show v = Value.ref a from rx)
  obtain ⟨mA, M, _⟩ := ins_get I.hok ha
  obtain ⟨od, J, _⟩ := M.look
  obtain ⟨m, hF⟩ := I.fr
  show wpAny _ _ (richCompare .Eq (.ref a) u) _ _ _
  refine PySem.W.cmp_K (op := .Eq) hr.units0 hF I.ok.mod.kin J (ty.looks I ry) hn O.at_ O.fn (wpAny_mono (own_run (vs := [.ref a, y]) F hr I.env0 hb I (.cons rfl (.cons ry .nil)) q) (fun w s' z => ?_) fun _ _ z => z)
  obtain ⟨z', H', I', rz, b, eb, qz⟩ := z
  subst eb
  cases rz
  exact ⟨.bl b, H', I', rfl, qz⟩
end
end
end Hk
namespace Hk
open PySem PySem.Spec PyProof.Rows L2
/-! ### != where the class has == alone -/
section
variable {prog : Program} {w : World} {A : Around} {E : Value → Shared → Prop} {s : Shared} {K : Fr} {x C f : Addr} {ox : Obj} {od : Option Obj}
theorem ne_dflt {b tb : Value} {Q : Value → Shared → Prop} (hu : A.units + 2 < cLine) (Y : K.In s.heap) (I : PySem.W.InstAt s.heap x ox C od) (hb : PySem.W.Looks (model prog w) s.heap (typeOf b) tb) (hn : PySem.W.notFirst K C tb = true)
    (hne : PySem.W.findIn K (.ref C) "__ne__" = some (some (.builtin "object.__ne__"))) (he : PySem.W.findIn K (.ref C) "__eq__" = some (some (.ref f))) (hf : PySem.W.isFn K (.ref f) = true) (hob : PySem.W.subIn K (.ref C) (.type "object") = some true)
    (h : wpAny (model prog w) A.in1 (call (.ref f) [.ref x, b]) (fun v s' => ∃ r, v = .bool r ∧ Q (.bool (!r)) s') E s) : wpAny (model prog w) A (richCompare .NotEq (.ref x) b) Q E s := by
  have slot := PySem.F.slot_object_ne
  have body : wpAny (model prog w) A.in1 (Builtin.«object.__ne__» ⟨[.ref x, b], []⟩) (fun fin s' => ∃ v, fin = .done (.ret v) ∧ v ≠ .notImplemented ∧ Q v s') E s := by
    unfold Builtin.«object.__ne__»
    repeat (first
      | with_reducible refine wpAny_cRoomFor (show A.units + 1 < cLine by omega) ?_
      | (refine wpAny_bind (m := callSpecialIfBound? (.ref x) (Str.ofString "__eq__") [b]) (PySem.W.ifBound_K Y I he hf (wpAny_mono h (fun r s' hr => ?_) fun _ _ e => e))
         obtain ⟨b, rfl, hq⟩ := hr)
      | exact ⟨_, rfl, (fun z => nomatch z), hq⟩
      | (refine wpAny_bind (m := truthy (.bool _)) (wpAny_truthy_bool ?_))
      | wp_step)
  have called : wpAny (model prog w) A (call (.builtin "object.__ne__") [.ref x, b]) (fun v s' => v ≠ .notImplemented ∧ Q v s') E s := by
    refine wpAny_call (codeAny_call_builtin slot.plain PySem.F.cmpEntry_ne (PySem.W.check_slot PySem.F.cmpKind_ne PySem.F.cmpSplit_ne (I.type.andThen (PySem.W.looks_subIn Y hob)) (PySem.F.cmpArgs_ne _ _) ?_))
    exact wpAny_mono body (fun fin s' hv => by obtain ⟨v, rfl, q⟩ := hv; exact q) fun _ _ z => z
  have one : wpAny (model prog w) A (tryCompare (.ref x) (cmpInfo .NotEq).2.1 b) (fun r s' => ∃ v, r = some v ∧ Q v s') E s := by
    unfold tryCompare
    refine wpAny_bind ?_
    simp only [callSpecialIfBound?, bindSpecialIfBound?]
    refine wpAny_holding (wpAny_bind (wpAny_bind (wpAny_bind (I.type.here ((PySem.W.looks_findIn Y hne).here ?_)))))
    simp only [slot.bind]
    refine wpAny_bind (wpAny_askSetting (wpAny_ite ?_))
    split
    · refine wpAny_bind (wpAny_pure (wpAny_pure ?_))
      refine wpAny_bind (wpAny_mono called (fun v s' hv => wpAny_pure ?_) fun _ _ z => z)
      obtain ⟨h1, h2⟩ := hv
      cases v <;> first | exact absurd rfl h1 | exact wpAny_pure ⟨_, rfl, h2⟩
    · refine wpAny_tryCatch (wpAny_bind (wpAny_pure (wpAny_pure ?_)))
      refine wpAny_bind (wpAny_mono called (fun v s' hv => wpAny_pure ?_) fun _ _ z => z)
      obtain ⟨h1, h2⟩ := hv
      cases v <;> first | exact absurd rfl h1 | exact wpAny_pure ⟨_, rfl, h2⟩
  unfold richCompare
  simp only [oneThing_ref]
  refine wpAny_holding (wpAny_bind (wpAny_cRoomFor (by omega) ?_))
  refine wpAny_bind (I.type.here (wpAny_bind (hb.here ?_)))
  have nosub : ((Value.ref C != tb) = true) → PySem.W.subIn K tb (.ref C) = some false := fun q => by
    rcases Bool.or_eq_true_iff.mp hn with e | e
    · rw [beq_iff_eq.mp e] at q
      simp at q
    · exact beq_iff_eq.mp e
  split
  · rename_i q
    refine wpAny_bind ((PySem.W.looks_subIn Y (nosub q)).here ?_)
    simp only [Bool.false_eq_true, if_false]
    refine wpAny_bind (wpAny_mono one (fun r s' z => ?_) fun _ _ e => e)
    obtain ⟨v, rfl, hv⟩ := z
    exact wpAny_pure hv
  · refine wpAny_bind (wpAny_pure ?_)
    simp only [Bool.false_eq_true, if_false]
    refine wpAny_bind (wpAny_mono one (fun r s' z => ?_) fun _ _ e => e)
    obtain ⟨v, rfl, hv⟩ := z
    exact wpAny_pure hv
end
section
variable {X : Cx} {k : Nat} {C f : Addr} {fd : FuncData} {ps : List Str} {sp : Sp}
/-- the class has its own ==, and != of object -/
structure NeOf (K : Fr) (C : Addr) : Prop where
  ne : PySem.W.findIn K (.ref C) "__ne__" = some (some (.builtin "object.__ne__"))
  ob : PySem.W.subIn K (.ref C) (.type "object") = some true
def rNeO (K : Fr) (C : Addr) (sp : Sp) : R2 := fun x y H Q => ∃ a dx fs t, x = .ref a ∧ H a = some (.ins C dx fs) ∧ TyL K H y t ∧ PySem.W.notFirst K C t = true ∧ sp [x, y] H (fun z H' => ∃ b, z = .bl b ∧ Q (.bl (!b)) H') E0
theorem op_neO (O : Own X.K C "__eq__" f) (N : NeOf X.K C) (F : FnOk X.prog X.w X.K X.mg X.base CX0 k f fd ps sp) (hb : Binds X.K fd ps []) (hr : Room (k + 1) X.A) : OpR X (compareOp .NotEq) (rNeO X.K C sp) := by
  intro pins s σ H x y v u Q I rx ry h
  obtain ⟨a, dx, fs, t, rfl, ha, ty, hn, q⟩ := h
  cases (show v = Value.ref a from rx)
  obtain ⟨mA, M, _⟩ := ins_get I.hok ha
  obtain ⟨od, J, _⟩ := M.look
  have r2 : Room k X.A.in1 := Room.in1 hr
  show wpAny _ _ (richCompare .NotEq (.ref a) u) _ _ _
  refine ne_dflt (by have := hr.units; omega) I.kIn J (ty.looks I ry) hn N.ne O.at_ O.fn N.ob (wpAny_mono (own_run (vs := [.ref a, y]) F r2 I.env0.in1 hb I (.cons rfl (.cons ry .nil)) q) (fun w s' z => ?_) fun _ _ z => z)
  obtain ⟨z', H', I', rz, b, eb, qz⟩ := z
  subst eb
  cases rz
  exact ⟨b, rfl, .bl (!b), H', I', rfl, qz⟩
end
/-! ### a static method, called off its class by one keyword or more -/
structure Stat (K : Fr) (C : Addr) (mc : Value) (m : Str) (p g : Addr) : Prop where
  rd : ClX.CRead K C mc
  at_ : PySem.W.findCls K (.ref C) mc m = some (.get (.builtin "staticmethod.__get__") (.ref p) .none (.ref C))
  rc : ∃ rest, PySem.W.recIn K p "staticmethod" = some (.ref g :: rest)
  kp : PySem.W.keepIn K (.ref g) = true
def tStatK (C : Addr) (sp : Sp) (ta : TE) (tk : TA) : TE := fun σ H Q => ta σ H fun x H1 => x = .ref C ∧ tk σ H1 fun vs H2 => sp vs H2 Q E0
section
variable {X : Cx} {k : Nat} {C p g : Addr} {mc : Value} {m : Str} {fd : FuncData} {ps : List Str} {sp : Sp} {o : Expr} {kws : List Keyword} {ta : TE} {tk : TA} {pos apos : Pos} {pl : Sem Bool}
theorem pe_statK (he : PE X o ta) (S : Stat X.K C mc m p g) (F : FnOk X.prog X.w X.K X.mg X.base CX0 k g fd ps sp) (hr : Room k X.A)
    (hbk : ∀ (s : Shared) (ws : List Value), X.K.In s.heap → ws.length = ps.length → BindsTo s fd ⟨[], ps.zip ws⟩ (ps.zip ws)) (hk : PK X kws tk)
    (hall : (backToKw pos (keywordEach kws X.env)).all (·.1.isSome) = true := by rfl) (hks : (backToKw pos (keywordEach kws X.env)).filterMap (·.1) = ps := by rfl)
    (hpl : ((backTo pos (starEach [] X.env)).any (·.1) || (backToKw pos (keywordEach kws X.env)).any (·.1.isNone)) = false := by rfl)
    (ht : eval (.Call (.Attribute o m apos) [] kws pos) X.env = (do
      let ov ← eval o X.env
      standAt apos.atName
      let (f, first) ← holding [ov] (getMethod ov m pl)
      callWith pos f first (backTo pos (starEach [] X.env)) (backToKw pos (keywordEach kws X.env))) := by rfl) :
    PE X (.Call (.Attribute o m apos) [] kws pos) (tStatK C sp ta tk) := by
  refine ⟨fun pins s σ H Q I h => PySem.W.methodCall_KW (pl := pl) (thn (he.run pins s σ H _ I h) fun u s1 hu => ?_) ht⟩
  obtain ⟨x, H1, I1, rx, ex, q⟩ := hu
  subst ex
  obtain rfl : u = Value.ref C := rx
  obtain ⟨rest, hp⟩ := S.rc
  refine PySem.W.method_cls I1.kIn S.rd.ga (PySem.W.cls_bind I1.kIn S.rd.rd S.at_ (wpAny_call (PySem.W.sm_get (s := { s1 with toks := s1.toks + 1 }) I1.kIn hp (PySem.W.handed_on rfl ?_))))
  refine PySem.W.callWith_KW0 (h₀ := X.base) I1.ok.mod.kin S.kp hall (thn (hk.run pos pins _ σ H1 _ (I1.tok _) q) fun ws s2 hw => ?_) hpl
  obtain ⟨vs, H2, I2, rv, q2⟩ := hw
  have ln : ws.length = ps.length := rv.length.symm.trans (F.len _ _ _ _ q2)
  refine ⟨I2.kIn, ?_⟩
  rw [hks]
  refine wpAny_call (codeAny_mono (F.run X.A X.stack s2 H2 ⟨[], ps.zip ws⟩ ws vs Q E0 hr I2.env0 (hbk s2 ws I2.kIn ln) rv q2) fun z s' hq => ?_)
  rcases z with e | fl
  · exact (show False from hq).elim
  · cases fl with
    | ret u => exact I2.after hq
    | _ => exact (show False from hq).elim
end
end Hk
namespace Hk
open PySem PySem.Spec PyProof.Rows L2
theorem ne_ok {K : Fr} {x : Str} (c : tNe x K = true) : NeOf K (He.ga K x) := by
  obtain ⟨c1, c2⟩ := He.ba c
  exact ⟨He.eqO_ok c1, of_decide_eq_true c2⟩
theorem own_ok {K : Fr} {x m : Str} (c : tMeth x m K = true) : Own K (He.ga K x) m (mAd x m K) := by
  have h := He.meth_ok c
  exact ⟨h.at_, h.fn⟩
theorem stat_ok {K : Fr} {x m : Str} (c : tStat x m K = true) : Stat K (He.ga K x) (.type "type") m (He.ma K (He.ga K x) m) (statAd x m K) := by
  obtain ⟨c1, c⟩ := He.ba c
  obtain ⟨c2, c⟩ := He.ba c
  obtain ⟨c3, c4⟩ := He.ba c
  obtain ⟨h1, h2⟩ := He5.wrapB_ok c1
  exact ⟨⟨c2, He.eqO_ok c3⟩, h1, h2, c4⟩
end Hk

/-! Operators of an own class: with its own, with an int on either side; neg, abs; += without an own one. -/
namespace Hk
open PySem PySem.Spec PyProof.Rows L2
section
variable {prog : Program} {w : World} {A : Around} {E : Value → Shared → Prop} {s : Shared} {K : Fr} {x C f g : Addr} {ox : Obj} {od : Option Obj}
/-- an int's own operator declines an instance -/
def Declines (id : String) : Prop := ∀ (prog : Program) (w : World) (A : Around) (E : Value → Shared → Prop) (s : Shared) (i : Int) (t : Tok) (x C dx : Addr) (Q : Value → Shared → Prop), s.heap.get? x = some (PySem.W.instObj C dx) → Q .notImplemented s →
  wpAny (model prog w) A (call (.builtin id) [.int i t, .ref x]) Q E s
theorem decl_add : Declines "int.__add__" := by
  intro prog w A E s i t x C dx Q ho q
  refine wpAny_call (codeAny_call_builtin F.slot_int_add.plain F.entry_int_add (F.slot_int_add.check _ _ _ _ _ _ _ _ (typeIs_int s i t) (F.args_int_add_2 _ _) ?_))
  unfold Builtin.«int.__add__» Builtin.Int.intBinary
  refine wpAny_bind (m := slotArgs "__add__" 1 _) (wpAny_pure ?_)
  refine wpAny_bind (m := Builtin.Int.intOfSelf _) (wpAny_pure ?_)
  refine wpAny_bind (m := asInt? _) (wpAny_bind (wpAny_load ho (wpAny_pure ?_)))
  refine wpAny_bind (wpAny_rule (wpAny_pure ?_))
  exact q
theorem decl_sub : Declines "int.__sub__" := by
  intro prog w A E s i t x C dx Q ho q
  refine wpAny_call (codeAny_call_builtin F.slot_int_sub.plain F.entry_int_sub (F.slot_int_sub.check _ _ _ _ _ _ _ _ (typeIs_int s i t) (F.args_int_sub_2 _ _) ?_))
  unfold Builtin.«int.__sub__» Builtin.Int.intBinary
  refine wpAny_bind (m := slotArgs "__sub__" 1 _) (wpAny_pure ?_)
  refine wpAny_bind (m := Builtin.Int.intOfSelf _) (wpAny_pure ?_)
  refine wpAny_bind (m := asInt? _) (wpAny_bind (wpAny_load ho (wpAny_pure ?_)))
  refine wpAny_bind (wpAny_rule (wpAny_pure ?_))
  exact q
theorem decl_mul : Declines "int.__mul__" := by
  intro prog w A E s i t x C dx Q ho q
  refine wpAny_call (codeAny_call_builtin F.slot_int_mul.plain F.entry_int_mul (F.slot_int_mul.check _ _ _ _ _ _ _ _ (typeIs_int s i t) (F.args_int_mul_2 _ _) ?_))
  unfold Builtin.«int.__mul__» Builtin.Int.intBinary
  refine wpAny_bind (m := slotArgs "__mul__" 1 _) (wpAny_pure ?_)
  refine wpAny_bind (m := Builtin.Int.intOfSelf _) (wpAny_pure ?_)
  refine wpAny_bind (m := asInt? _) (wpAny_bind (wpAny_load ho (wpAny_pure ?_)))
  refine wpAny_bind (wpAny_rule (wpAny_pure ?_))
  exact q
/-- int op instance: the class's reflected operator -/
theorem rbin_own {op : Operator} {id : String} {i : Int} {t : Tok} {dx : Addr} {Q : Value → Shared → Prop} (Y : K.In s.heap) (I : PySem.W.InstAt s.heap x (PySem.W.instObj C dx) C od) (hc : PySem.W.selfFirst K C = true)
    (fT : fillsNumberSlot (.type "int") op.info.2 = pure true) (slot : Slot "int" (PySem.dunder op.info.2) id) (dec : Declines id) (hs : PySem.W.findIn K (.ref C) (PySem.dunder op.info.2) = some (some (.ref f)))
    (hsub : PySem.W.subIn K (.ref C) (.type "int") = some false) (hr : PySem.W.findIn K (.ref C) (dunderR op.info.2) = some (some (.ref g))) (hg : PySem.W.isFn K (.ref g) = true)
    (h : wpAny (model prog w) A (call (.ref g) [.ref x, .int i t]) (PySem.W.CmpBack Q) E s) : wpAny (model prog w) A (binaryOp op (.int i t) (.ref x)) Q E s := by
  obtain ⟨cd, rest, hcd, hm⟩ := PySem.W.ksp_first hc
  rcases hi : op.info with ⟨sym, nm⟩
  rw [hi] at fT slot hs hr
  dsimp only at fT slot hs hr
  simp only [binaryOp, hi]
  refine wpAny_holding ?_
  simp only [binaryOp1]
  refine wpAny_bind (wpAny_bind (wpAny_typeOf (typeIs_int s i t) ?_))
  refine wpAny_bind (I.type.here (wpAny_bind (wpAny_of_eq fT ?_)))
  have hne : (Value.type "int" == Value.ref C) = false := Bool.eq_false_iff.mpr fun q => nomatch beq_iff_eq.mp q
  simp only [hne, Bool.false_eq_true, if_false]
  refine wpAny_bind ((PySem.W.fills_K Y hcd hm hs).here ?_)
  simp only [Bool.and_self, if_true]
  refine wpAny_bind ((PySem.W.looks_subIn Y hsub).here ?_)
  have hpy : numberSlotInPython (.type "int") nm = pure false := rfl
  simp only [Bool.false_eq_true, if_false, pure_bind, Bool.not_false, Bool.and_self, if_true, hpy]
  refine wpAny_bind (wpAny_tryMethod_declines (typeIs_int s i t) slot (dec _ _ _ _ _ _ _ _ _ _ _ I.at_ ⟨rfl, ?_⟩))
  refine wpAny_bind ?_
  unfold tryMethod
  refine wpAny_bind (PySem.W.special_fn Y I hr (beq_iff_eq.mp hg) (wpAny_mono h (fun v s' hv => ?_) fun _ _ e => e))
  cases v <;> first | exact hv.elim | exact wpAny_pure (wpAny_bind (wpAny_rule (wpAny_pure (wpAny_pure hv))))
/-- the class names no operator in place -/
theorem noInplace {M : Model} {h : Heap} {nm : String} {cd : ClassData} {add : Bool} (Y : K.In h) (hc : PySem.W.clsIn K C = some cd) (hm : cd.mro = [.ref C, .type "object"]) (h1 : PySem.W.findIn K (.ref C) (dunderI nm) = some none)
    (h2 : PySem.W.findIn K (.type "object") (dunderI nm) = some none) : PySem.W.Looks M h (fillsInplaceSlot (.ref C) nm add) false := by
  intro A' Q E' s' k q
  have Lm := ((PySem.W.looks_clsIn (M := M) Y hc).andThen (f := fun cd => pure cd.mro) .now).keeps k
  obtain ⟨hh, gg, d, tt, os⟩ := s'
  have Y' : K.In hh := Y.keeps k
  have L1 : PySem.W.Looks M hh (typeLookup (.ref C) (dunderI nm)) none := PySem.W.looks_findIn Y' h1
  have L2 : PySem.W.Looks M hh (typeLookup (.type "object") (dunderI nm)) none := PySem.W.looks_findIn Y' h2
  unfold fillsInplaceSlot
  refine wpAny_bind (Lm.at ?_)
  rw [hm, List.anyM_cons, List.anyM_cons, List.anyM_nil]
  refine wpAny_bind (wpAny_bind (L1.at (wpAny_pure ?_)))
  refine wpAny_bind (wpAny_bind (L2.at (wpAny_pure ?_)))
  exact wpAny_pure q
/-- what the class must have for an operator, with its own and with ints -/
structure BinF (K : Fr) (C : Addr) (nm : String) (f : Addr) : Prop where
  self : PySem.W.selfFirst K C = true
  at_ : PySem.W.findIn K (.ref C) (PySem.dunder nm) = some (some (.ref f))
  fn : PySem.W.isFn K (.ref f) = true
  rr : ∃ rc, PySem.W.findIn K (.ref C) (dunderR nm) = some rc ∧ (rc = none ∨ ∃ g : Addr, rc = some (.ref g))
  i1 : ∃ fo, PySem.W.findIn K (.type "int") (PySem.dunder nm) = some fo
  i2 : ∃ ro, PySem.W.findIn K (.type "int") (dunderR nm) = some ro
  sub : PySem.W.subIn K (.type "int") (.ref C) = some false
/-- the operator's first part: with its own, with an int -/
theorem bin1_own {nm : String} {b : Value} {Q : Value → Shared → Prop} (Y : K.In s.heap) (I : PySem.W.InstAt s.heap x ox C od) (B : BinF K C nm f) (hb : PySem.W.Looks (model prog w) s.heap (typeOf b) (.ref C))
    (h : wpAny (model prog w) A (call (.ref f) [.ref x, b]) (PySem.W.CmpBack Q) E s) : wpAny (model prog w) A (binaryOp1 nm (.ref x) b) (fun r s' => ∃ v, r = some v ∧ Q v s') E s := by
  obtain ⟨cd, rest, hcd, hm⟩ := PySem.W.ksp_first B.self
  unfold binaryOp1
  refine wpAny_bind (I.type.here (wpAny_bind (hb.here (wpAny_bind ((PySem.W.fills_K Y hcd hm B.at_).here ?_)))))
  simp only [beq_self_eq_true, if_true]
  refine wpAny_bind (wpAny_pure ?_)
  simp only [Bool.and_false, Bool.false_eq_true, if_false, Bool.false_and]
  refine wpAny_bind (wpAny_pure ?_)
  simp only [Bool.false_eq_true, if_false]
  refine wpAny_bind (wpAny_mono (PySem.W.ksp_try Y I B.at_ B.fn h) (fun r s' hr => ?_) fun _ _ e => e)
  obtain ⟨v, rfl, hq⟩ := hr
  exact wpAny_pure ⟨v, rfl, hq⟩
theorem bin1_int {nm : String} {i : Int} {t : Tok} {Q : Value → Shared → Prop} (Y : K.In s.heap) (I : PySem.W.InstAt s.heap x ox C od) (B : BinF K C nm f)
    (h : wpAny (model prog w) A (call (.ref f) [.ref x, .int i t]) (PySem.W.CmpBack Q) E s) : wpAny (model prog w) A (binaryOp1 nm (.ref x) (.int i t)) (fun r s' => ∃ v, r = some v ∧ Q v s') E s := by
  obtain ⟨cd, rest, hcd, hm⟩ := PySem.W.ksp_first B.self
  have one := PySem.W.ksp_try Y I B.at_ B.fn h
  obtain ⟨rc, hr, hp⟩ := B.rr
  obtain ⟨fo, h1⟩ := B.i1
  obtain ⟨ro, h2⟩ := B.i2
  obtain ⟨hh, gg, d, tt, os⟩ := s
  have L1 : PySem.W.Looks (model prog w) hh (typeOf (.ref x)) (.ref C) := I.type
  have L2 : PySem.W.Looks (model prog w) hh (typeOf (.int i t)) (.type "int") := PySem.W.Looks.of_pure rfl
  have L3 : PySem.W.Looks (model prog w) hh (fillsNumberSlot (.ref C) nm) true := PySem.W.fills_K Y hcd hm B.at_
  have L4 : PySem.W.Looks (model prog w) hh (fillsNumberSlot (.type "int") nm) ((fo.isSome && !isSeqSlot fo) || (ro.isSome && !isSeqSlot ro)) := PySem.W.ksp_fillsT Y h1 h2
  have L5 : PySem.W.Looks (model prog w) hh (isSubtype (.type "int") (.ref C)) false := PySem.W.looks_subIn Y B.sub
  have L6 : PySem.W.Looks (model prog w) hh (numberSlotInPython (.ref C) nm) true := PySem.W.ksp_inPy Y B.at_ hr hp
  have L7 : PySem.W.Looks (model prog w) hh (numberSlotInPython (.type "int") nm) false := PySem.W.Looks.of_pure rfl
  have L8 : PySem.W.Looks (model prog w) hh (typeLookup (.type "int") (dunderR nm)) ro := PySem.W.looks_findIn Y h2
  generalize ((fo.isSome && !isSeqSlot fo) || (ro.isSome && !isSeqSlot ro)) = right at L4
  have hne : (Value.ref C == Value.type "int") = false := Bool.eq_false_iff.mpr fun q => nomatch beq_iff_eq.mp q
  unfold binaryOp1
  refine wpAny_bind (L1.at (wpAny_bind (L2.at (wpAny_bind (L3.at ?_)))))
  simp only [hne, Bool.false_eq_true, if_false]
  cases right with
  | false =>
    ksp_lk
    refine wpAny_mono one (fun r s' hr' => ?_) fun _ _ e => e
    obtain ⟨v, rfl, hq⟩ := hr'
    ksp_lk
    exact ⟨v, rfl, hq⟩
  | true =>
    ksp_lk
    refine wpAny_mono one (fun r s' hr' => ?_) fun _ _ e => e
    obtain ⟨v, rfl, hq⟩ := hr'
    ksp_lk
    exact ⟨v, rfl, hq⟩
theorem bin_of1 {op : Operator} {a b : Value} {Q : Value → Shared → Prop} (h : wpAny (model prog w) A (binaryOp1 op.info.2 a b) (fun r s' => ∃ v, r = some v ∧ Q v s') E s) : wpAny (model prog w) A (binaryOp op a b) Q E s := by
  rcases hi : op.info with ⟨sym, nm⟩
  rw [hi] at h
  simp only [binaryOp, hi]
  refine wpAny_holding (wpAny_bind (wpAny_mono h (fun r s' hr => ?_) fun _ _ e => e))
  obtain ⟨v, rfl, hq⟩ := hr
  exact wpAny_pure hq
/-- op= by the plain operator -/
theorem ip_of1 {op : Operator} {cd : ClassData} {b : Value} {Q : Value → Shared → Prop} (Y : K.In s.heap) (I : PySem.W.InstAt s.heap x ox C od) (hc : PySem.W.clsIn K C = some cd) (hm : cd.mro = [.ref C, .type "object"])
    (h1 : PySem.W.findIn K (.ref C) (dunderI op.info.2) = some none) (h2 : PySem.W.findIn K (.type "object") (dunderI op.info.2) = some none)
    (h : wpAny (model prog w) A (binaryOp1 op.info.2 (.ref x) b) (fun r s' => ∃ v, r = some v ∧ Q v s') E s) : wpAny (model prog w) A (inplaceOp op (.ref x) b) Q E s := by
  unfold inplaceOp
  refine wpAny_holding (wpAny_bind (I.type.here (wpAny_bind ((noInplace Y hc hm h1 h2).here ?_))))
  simp only [Bool.false_eq_true, if_false]
  refine wpAny_bind (wpAny_mono h (fun r s' hr => ?_) fun _ _ e => e)
  obtain ⟨v, rfl, hq⟩ := hr
  exact wpAny_pure hq
end
end Hk
namespace Hk
open PySem PySem.Spec PyProof.Rows L2
theorem backC {Q : Value → Shared → Prop} {z : V} {u : Value} {s' : Shared} (r : RelV z u) (h : Q u s') : PySem.W.CmpBack Q u s' := by
  cases z with
  | non => cases r; exact h
  | bl b => cases r; exact h
  | int i => obtain ⟨t, rfl⟩ := r; exact h
  | str y => obtain ⟨t, rfl⟩ := r; exact h
  | byt y => obtain ⟨t, rfl⟩ := r; exact h
  | flt y => obtain ⟨t, rfl⟩ := r; exact h
  | ref a => cases r; exact h
  | ty n => cases r; exact h
/-- x op y: x of the class at C, y another or an int: the def's promise -/
def rBinO (C : Addr) (sp : Sp) : R2 := fun x y H Q => ∃ a dx fs, x = .ref a ∧ H a = some (.ins C dx fs) ∧ ((∃ i, y = .int i) ∨ ∃ b dy gs, y = .ref b ∧ H b = some (.ins C dy gs)) ∧ sp [x, y] H Q E0
/-- i op y, i an int -/
def rRbinO (C : Addr) (sp : Sp) : R2 := fun x y H Q => ∃ i b dy gs, x = .int i ∧ y = .ref b ∧ H b = some (.ins C dy gs) ∧ sp [y, x] H Q E0
def rUnO (C : Addr) (sp : Sp) : V → Hp → VK → Prop := fun x H Q => ∃ a dx fs, x = .ref a ∧ H a = some (.ins C dx fs) ∧ sp [x] H Q E0
/-- the class's mro is itself and object, it names no op= -/
structure NoIp (K : Fr) (C : Addr) (nm : String) : Prop where
  mro : ∃ cd, PySem.W.clsIn K C = some cd ∧ cd.mro = [.ref C, .type "object"]
  no : PySem.W.findIn K (.ref C) (dunderI nm) = some none
  noO : PySem.W.findIn K (.type "object") (dunderI nm) = some none
/-- the reflected one -/
structure RbinF (K : Fr) (C : Addr) (nm : String) (g : Addr) : Prop where
  at_ : PySem.W.findIn K (.ref C) (dunderR nm) = some (some (.ref g))
  fn : PySem.W.isFn K (.ref g) = true
  sub : PySem.W.subIn K (.ref C) (.type "int") = some false
section
variable {X : Cx} {k : Nat} {C f g : Addr} {fd : FuncData} {ps : List Str} {sp : Sp} {op : Operator}
theorem bin1_run {pins : List (Addr × Obj)} {s : Shared} {σ : L2.St} {H : Hp} {x y : V} {v u : Value} {Q : VK} (B : BinF X.K C op.info.2 f) (F : FnOk X.prog X.w X.K X.mg X.base CX0 k f fd ps sp) (hb : Binds X.K fd ps []) (hr : Room k X.A)
    (I : Inv X pins σ H s) (rx : RelV x v) (ry : RelV y u) (h : rBinO C sp x y H Q) :
    wpAny (model X.prog X.w) X.A (binaryOp1 op.info.2 v u) (fun r s' => ∃ w, r = some w ∧ EP X pins σ Q w s') X.xe s := by
  obtain ⟨a, dx, fs, rfl, ha, hy, q⟩ := h
  cases (show v = Value.ref a from rx)
  obtain ⟨mA, M, _⟩ := ins_get I.hok ha
  obtain ⟨od, J, _⟩ := M.look
  have run : wpAny (model X.prog X.w) X.A (call (.ref f) [.ref a, u]) (PySem.W.CmpBack (EP X pins σ Q)) X.xe s :=
    wpAny_mono (own_run (vs := [.ref a, y]) F hr I.env0 hb I (.cons rfl (.cons ry .nil)) q) (fun w s' z => by
      obtain ⟨z', H', I', rz, qz⟩ := id z
      exact backC rz z) fun _ _ z => z
  rcases hy with ⟨i, rfl⟩ | ⟨b, dy, gs, rfl, hb2⟩
  · obtain ⟨t, rfl⟩ := (show ∃ t, u = Value.int i t from ry)
    exact bin1_int I.kIn J B run
  · exact bin1_own I.kIn J B (TyL.looks I ry (.ins hb2)) run
theorem op_binO (B : BinF X.K C op.info.2 f) (F : FnOk X.prog X.w X.K X.mg X.base CX0 k f fd ps sp) (hb : Binds X.K fd ps []) (hr : Room k X.A) : OpR X (binaryOp op) (rBinO C sp) :=
  fun pins s σ H x y v u Q I rx ry h => bin_of1 (bin1_run B F hb hr I rx ry h)
theorem ip_binO (B : BinF X.K C op.info.2 f) (N : NoIp X.K C op.info.2) (F : FnOk X.prog X.w X.K X.mg X.base CX0 k f fd ps sp) (hb : Binds X.K fd ps []) (hr : Room k X.A) : PIp X op (rBinO C sp) := by
  intro pins s σ H x y v u Q I rx ry h
  obtain ⟨a, dx, fs, ex, ha, _⟩ := id h
  subst ex
  obtain ⟨mA, M, _⟩ := ins_get I.hok ha
  obtain ⟨od, J, _⟩ := M.look
  obtain ⟨cd, m1, m2⟩ := N.mro
  have e : v = Value.ref a := rx
  subst e
  exact ip_of1 I.kIn J m1 m2 N.no N.noO (bin1_run B F hb hr I rx ry h)
theorem op_rbinO {bi : String} (B : BinF X.K C op.info.2 f) (R : RbinF X.K C op.info.2 g) (fT : fillsNumberSlot (.type "int") op.info.2 = pure true) (slot : Slot "int" (PySem.dunder op.info.2) bi) (dec : Declines bi)
    (F : FnOk X.prog X.w X.K X.mg X.base CX0 k g fd ps sp) (hb : Binds X.K fd ps []) (hr : Room k X.A) : OpR X (binaryOp op) (rRbinO C sp) := by
  intro pins s σ H x y v u Q I rx ry h
  obtain ⟨i, b, dy, gs, rfl, rfl, ha, q⟩ := h
  obtain ⟨t, rfl⟩ := (show ∃ t, v = Value.int i t from rx)
  cases (show u = Value.ref b from ry)
  obtain ⟨mA, M, _⟩ := ins_get I.hok ha
  obtain ⟨od, J, _⟩ := M.look
  exact rbin_own I.kIn J B.self fT slot dec B.at_ R.sub R.at_ R.fn (wpAny_mono (own_run (vs := [.ref b, .int i]) F hr I.env0 hb I (.cons rfl (.cons rx .nil)) q) (fun w s' z => by
      obtain ⟨z', H', I', rz, qz⟩ := id z
      exact backC rz z) fun _ _ z => z)
theorem op_negO (O : Own X.K C "__neg__" f) (F : FnOk X.prog X.w X.K X.mg X.base CX0 k f fd ps sp) (hb : Binds X.K fd ps []) (hr : Room k X.A) : UnR X (unaryOp .USub) (rUnO C sp) := by
  intro pins s σ H x v Q I rx h
  obtain ⟨a, dx, fs, rfl, ha, q⟩ := h
  cases (show v = Value.ref a from rx)
  obtain ⟨mA, M, _⟩ := ins_get I.hok ha
  obtain ⟨od, J, _⟩ := M.look
  obtain ⟨m, hF⟩ := I.fr
  exact PySem.W.ksp_neg hF I.ok.mod.kin J O.at_ O.fn (own_run (vs := [.ref a]) F hr I.env0 hb I (.cons rfl .nil) q)
theorem call_absO (O : Own X.K C "__abs__" f) (F : FnOk X.prog X.w X.K X.mg X.base CX0 k f fd ps sp) (hb : Binds X.K fd ps []) (hr : Room (k + 1) X.A) : CallR X (.builtin "abs") (fun xs H Q => ∃ x, xs = [x] ∧ rUnO C sp x H Q) := by
  intro pins s σ H xs us Q I r h
  obtain ⟨x, rfl, a, dx, fs, rfl, ha, q⟩ := h
  obtain ⟨u, rfl, ru⟩ := r.one
  cases (show u = Value.ref a from ru)
  obtain ⟨mA, M, _⟩ := ins_get I.hok ha
  obtain ⟨od, J, _⟩ := M.look
  have r2 : Room k X.A.in1 := Room.in1 hr
  refine Calls.call_function_entry kind_abs plain_abs entry_abs (args_abs _) ?_
  unfold Builtin.«abs»
  refine wpAny_bind (m := oneArg "abs" _) (wpAny_pure ?_)
  refine wpAny_bind (m := callSpecial? (.ref a) (Str.ofString "__abs__")) (PySem.W.special_fn I.kIn J O.at_ (beq_iff_eq.mp O.fn) (wpAny_mono (own_run (vs := [.ref a]) F r2 I.env0.in1 hb I (.cons rfl .nil) q) (fun v s' z => ?_) fun _ _ z => z))
  exact wpAny_pure ⟨_, rfl, z⟩
end
/-! ### their facts -/
def tBin (x : Str) (nm : String) : Tst := fun K => PySem.W.selfFirst K (He.ga K x) && (tMeth x (PySem.dunder nm) K && ((match PySem.W.findIn K (.ref (He.ga K x)) (dunderR nm) with
    | some none => true
    | some (some (.ref _)) => true
    | _ => false) && ((PySem.W.findIn K (.type "int") (PySem.dunder nm)).isSome && ((PySem.W.findIn K (.type "int") (dunderR nm)).isSome && decide (PySem.W.subIn K (.type "int") (.ref (He.ga K x)) = some false)))))
def tRbin (x : Str) (nm : String) : Tst := fun K => tMeth x (dunderR nm) K && decide (PySem.W.subIn K (.ref (He.ga K x)) (.type "int") = some false)
def tNoIp (x : Str) (nm : String) : Tst := fun K => (match PySem.W.clsIn K (He.ga K x) with
    | some cd => decide (cd.mro = [.ref (He.ga K x), .type "object"])
    | none => false) && (He.eqO (PySem.W.findIn K (.ref (He.ga K x)) (dunderI nm)) (some none) && He.eqO (PySem.W.findIn K (.type "object") (dunderI nm)) (some none))
theorem bin_ok {K : Fr} {x : Str} {nm : String} (c : tBin x nm K = true) : BinF K (He.ga K x) nm (mAd x (PySem.dunder nm) K) := by
  obtain ⟨c1, c⟩ := He.ba c
  obtain ⟨c2, c⟩ := He.ba c
  obtain ⟨c3, c⟩ := He.ba c
  obtain ⟨c4, c⟩ := He.ba c
  obtain ⟨c5, c6⟩ := He.ba c
  have m := He.meth_ok c2
  refine ⟨c1, m.at_, m.fn, ?_, Option.isSome_iff_exists.mp c4, Option.isSome_iff_exists.mp c5, of_decide_eq_true c6⟩
  cases e : PySem.W.findIn K (.ref (He.ga K x)) (dunderR nm) with
  | none =>
    rw [e] at c3
    exact nomatch c3
  | some o =>
    rw [e] at c3
    cases o with
    | none => exact ⟨none, rfl, .inl rfl⟩
    | some v =>
      cases v with
      | ref g => exact ⟨_, rfl, .inr ⟨g, rfl⟩⟩
      | _ => exact nomatch c3
theorem rbin_ok {K : Fr} {x : Str} {nm : String} (c : tRbin x nm K = true) : RbinF K (He.ga K x) nm (mAd x (dunderR nm) K) := by
  obtain ⟨c1, c2⟩ := He.ba c
  have m := He.meth_ok c1
  exact ⟨m.at_, m.fn, of_decide_eq_true c2⟩
theorem noip_ok {K : Fr} {x : Str} {nm : String} (c : tNoIp x nm K = true) : NoIp K (He.ga K x) nm := by
  obtain ⟨c1, c⟩ := He.ba c
  obtain ⟨c2, c3⟩ := He.ba c
  refine ⟨?_, He.eqO_ok c2, He.eqO_ok c3⟩
  cases e : PySem.W.clsIn K (He.ga K x) with
  | none =>
    rw [e] at c1
    exact nomatch c1
  | some cd =>
    rw [e] at c1
    exact ⟨cd, rfl, of_decide_eq_true c1⟩
end Hk

/-! A method called by one keyword or more. -/
namespace Hk
open PySem PySem.Spec PyProof.Rows L2
def tMethK (C : Addr) (m : Str) (sp : Sp) (ta : TE) (tk : TA) : TE := fun σ H Q => ta σ H fun x H1 => ∃ a dx fs, x = .ref a ∧ H1 a = some (.ins C dx fs) ∧ fs.lookup m = none ∧ tk σ H1 fun vs H2 => sp (x :: vs) H2 Q E0
section
variable {X : Cx} {k : Nat} {C p f : Addr} {m : Str} {fd : FuncData} {p1 : Str} {ps : List Str} {sp : Sp} {o : Expr} {kws : List Keyword} {ta : TE} {tk : TA} {pos apos : Pos} {pl : Sem Bool}
theorem pe_methK (he : PE X o ta) (c : Cls X.K C) (hm : Meth X.K C m f) (F : FnOk X.prog X.w X.K X.mg X.base CX0 k f fd (p1 :: ps) sp) (hr : Room k X.A)
    (hbk : ∀ (s : Shared) (v : Value) (ws : List Value), X.K.In s.heap → ws.length = ps.length → BindsTo s fd ⟨[v], ps.zip ws⟩ ((p1 :: ps).zip (v :: ws))) (hk : PK X kws tk)
    (hall : (backToKw pos (keywordEach kws X.env)).all (·.1.isSome) = true := by rfl) (hks : (backToKw pos (keywordEach kws X.env)).filterMap (·.1) = ps := by rfl)
    (hpl : ((backTo pos (starEach [] X.env)).any (·.1) || (backToKw pos (keywordEach kws X.env)).any (·.1.isNone)) = false := by rfl)
    (ht : eval (.Call (.Attribute o m apos) [] kws pos) X.env = (do
      let ov ← eval o X.env
      standAt apos.atName
      let (f, first) ← holding [ov] (getMethod ov m pl)
      callWith pos f first (backTo pos (starEach [] X.env)) (backToKw pos (keywordEach kws X.env))) := by rfl) :
    PE X (.Call (.Attribute o m apos) [] kws pos) (tMethK C m sp ta tk) := by
  refine ⟨fun pins s σ H Q I h => PySem.W.methodCall_KW (pl := pl) (thn (he.run pins s σ H _ I h) fun u s1 hu => ?_) ht⟩
  obtain ⟨x, H1, I1, rx, a, dx, fs, ex, ea, l, q⟩ := hu
  subst ex
  obtain rfl : u = Value.ref a := rx
  refine getmeth_ok I1 ea c hm l ?_
  refine PySem.W.callWith_KW0 (first := [.ref a]) (h₀ := X.base) I.ok.mod.kin hm.kp hall (thn (hk.run pos pins s1 σ H1 _ I1 q) fun ws s2 hw => ?_) hpl
  obtain ⟨vs, H2, I2, rv, q2⟩ := hw
  have rv2 : Vals (.ref a :: vs) (.ref a :: ws) := .cons rfl rv
  have ln : ws.length = ps.length := by
    have h1 := rv2.length
    have h2 := F.len _ _ _ _ q2
    simp only [List.length_cons] at h1 h2
    omega
  refine ⟨I2.kIn, ?_⟩
  rw [hks]
  refine wpAny_call (codeAny_mono (F.run X.A X.stack s2 H2 ⟨[.ref a], ps.zip ws⟩ (.ref a :: ws) (.ref a :: vs) Q E0 hr I2.env0 (hbk s2 _ ws I2.kIn ln) rv2 q2) fun z s' hq => ?_)
  rcases z with e | fl
  · exact (show False from hq).elim
  · cases fl with
    | ret u => exact I2.after hq
    | _ => exact (show False from hq).elim
end
end Hk

/-! Exceptions of own classes: tests of the written part, defs that raise, what a suite asks of what it caught. -/
namespace Hk
open PySem PySem.Spec PyProof.Rows L2
/-! ### tests -/
def oexB (K : Fr) (C : Addr) : Bool := (match K.lookup C with
  | some ⟨.type "type", _, .cls cd, sl⟩ => (match cd.mro, sl.toList with
    | .ref C' :: bm, [_, _, _, _, some (.builtin n), _] => C' == C && (n == "ValueError.__new__" && (!cd.hasDel && (cd.hasDict && PySem.HandSPX.refsVE bm)))
    | _, _ => false)
  | _ => false) && (He.eqO (PySem.W.findIn K (.ref C) "__setattr__") (some (some (.builtin "object.__setattr__"))) && (decide (PySem.W.subIn K (.ref C) (.type "BaseException") = some true) && (decide (PySem.W.typeIn K (.ref C) = some (.type "type")) && PySem.W.keepIn K (.ref C))))
theorem oexB_ok {K : Fr} {C : Addr} (q : oexB K C = true) : OexC K C := by
  obtain ⟨q, c⟩ := He.ba q
  obtain ⟨c1, c⟩ := He.ba c
  obtain ⟨c2, c⟩ := He.ba c
  obtain ⟨c3, c4⟩ := He.ba c
  refine ⟨?_, He.eqO_ok c1, of_decide_eq_true c2, of_decide_eq_true c3, c4⟩
  split at q
  · rename_i dd cd sl ho
    split at q
    · rename_i C' bm k0 k1 k2 k3 n k5 hm hs
      simp only [Bool.and_eq_true, beq_iff_eq, Bool.not_eq_true'] at q
      obtain ⟨rfl, rfl, hdel, hdct, hv⟩ := q
      obtain ⟨nm, bs, mro, ns, qn, hd, sn, sub, ab, col, del⟩ := cd
      dsimp only at hm hdel hdct
      subst hm hdel hdct
      have hsl : sl = #[k0, k1, k2, k3, some (.builtin "ValueError.__new__"), k5] := by
        obtain ⟨l⟩ := sl
        simp only at hs
        rw [hs]
      subst hsl
      exact ⟨nm, qn, ns, bs, bm, sn, sub, ab, col, dd, k0, k1, k2, k3, k5, ho, hv⟩
    · cases q
  · cases q
def tOex (x : Str) : Tst := fun K => oexB K (He.ga K x)
def tXfc (x : Str) : Tst := fun K => xfB K (He.ga K x)
def tNof (x f : Str) : Tst := fun K => He.eqO (PySem.W.findIn K (.ref (He.ga K x)) f) (some none)
/-- its own __init__ stands at the address of the method -/
def tInit (x : Str) : Tst := fun K => tMeth x "__init__" K && decide (PySem.W.typeIn K (.ref (mAd x "__init__" K)) = some (.type "function"))
def excB (K : Fr) (D : Addr) : Bool := He.eqO (PySem.W.findIn K (.ref D) "__getattribute__") (some (some (.builtin "BaseException.__getattribute__"))) && (He.eqO (PySem.W.findIn K (.ref D) "__getattr__") (some none) && (decide (PySem.W.subIn K (.ref D) (.type "BaseException") = some true) && (PySem.W.hasDictIn K D &&
  (He.eqO (PySem.W.findIn K (.ref D) "__class__") (some (some (.builtin "object.__class__"))) && (He.eqO (PySem.W.specialIn K (.builtin "object.__class__") "__get__") (some (some (.builtin "getset_descriptor.__get__"))) && (decide (PySem.W.takesIn K (.builtin "object.__class__") = some true) && decide (PySem.W.mroIn K D (.type "object") = some true)))))))
theorem excB_ok {K : Fr} {D : Addr} (c : excB K D = true) : ExcC K D := by
  obtain ⟨c1, c⟩ := He.ba c
  obtain ⟨c2, c⟩ := He.ba c
  obtain ⟨c3, c⟩ := He.ba c
  obtain ⟨c4, c⟩ := He.ba c
  obtain ⟨c5, c⟩ := He.ba c
  obtain ⟨c6, c⟩ := He.ba c
  obtain ⟨c7, c8⟩ := He.ba c
  exact ⟨He.eqO_ok c1, He.eqO_ok c2, of_decide_eq_true c3, c4, He.eqO_ok c5, He.eqO_ok c6, of_decide_eq_true c7, of_decide_eq_true c8⟩
def tExc (x : Str) : Tst := fun K => excB K (He.ga K x)
/-- except: an error of the class x against the class y -/
def tExm (x y : Str) (b : Bool) : Tst := fun K => decide (PySem.W.exmOne K (.ref (He.ga K x)) (.ref (He.ga K y)) = some b)
/-! ### what a suite asks -/
def tXfX (K : PySem.W.Frag) (a : Addr) (cls : Value) (d : Option Addr) (f : Str) (te : TE) : TE := fun σ H Q => te σ H fun x H1 => x = .ref a ∧ ∃ (C dd : Addr) (fs : List (Str × V)) (v : V), cls = .ref C ∧ XfC K C ∧ PySem.W.findIn K (.ref C) f = some none ∧ d = some dd ∧ H1 dd = some (.xd fs) ∧ fs.lookup f = some v ∧ Q v H1
theorem pe_xfX {X : Cx} {a : Addr} {oe : Obj} {cls : Value} {d : Option Addr} {pn : List (Addr × Obj)} {e : Expr} {te : TE} {pos : Pos} {n : Str} (hz : Zc cls d oe) (hf : ∃ vs, oe.data = .fields vs) (he : PE (X.suite a ((a, oe) :: pn)) e te)
    (hb : attributeBase e n X.env (eval e X.env) = eval e X.env := by rfl) : PE (X.suite a ((a, oe) :: pn)) (.Attribute e n pos) (tXfX X.K a cls d n te) := by
  refine ⟨fun pins s σ H Q I h => ?_⟩
  refine attr_of hb (thn (he.run pins s σ H _ I h) fun u s1 hh => ?_)
  obtain ⟨x, H1, I1, rx, ex, C, dd, fs, v, ec, T, hno, ed, ea, l, q⟩ := hh
  subst ex
  obtain rfl : u = Value.ref a := rx
  subst ec
  subst ed
  obtain ⟨ha, _⟩ := I1.pin (a, oe) (List.mem_append_left _ List.mem_cons_self)
  obtain ⟨vs, hd⟩ := hf
  obtain ⟨mz, ns, rel⟩ : ObjOk X.prog X.w H1 s1.heap dd (.xd fs) := I1.hok dd _ ea
  obtain ⟨od, ho, hl⟩ := lookIn_ns ns
  have rn := rel n
  rw [l] at rn
  obtain ⟨val, ev, rv⟩ := RelO.some_of rn
  have J : PySem.W.InstAt s1.heap a oe C (some od) := ⟨ha, hz.1, by unfold PySem.W.notCls; rw [hd] <;> rfl, by rw [hz.2]; exact ho⟩
  have own := PySem.W.findObj_own T.hdC hno rfl ((hl n).trans (congrArg some ev))
  exact HandSPX.exc_get I1.kIn J T.ga T.gg T.exC own (handed_of rv) ⟨v, H1, I1.tok _, rv, q⟩
/-- isinstance(e, c), e what the suite holds, of the class cls, its dict d -/
def rIsX (K : PySem.W.Frag) (a : Addr) (cls : Value) (d : Option Addr) : List V → Hp → VK → Prop := fun xs H Q => ∃ (D : Addr) (c : V) (cv : Value) (b : Bool), cls = .ref D ∧ ExcC K D ∧ (d = none ∨ ∃ dd fs, d = some dd ∧ H dd = some (.xd fs)) ∧ xs = [.ref a, c] ∧ (∀ u, RelV c u → u = cv) ∧ PySem.W.kitOne K (.ref D) cv = some b ∧ Q (.bl b) H
theorem call_isX {X : Cx} {a : Addr} {cls : Value} {d : Option Addr} {oe : Obj} {pn : List (Addr × Obj)} (hz : Zc cls d oe) (hf : ∃ vs, oe.data = .fields vs) : CallR (X.suite a ((a, oe) :: pn)) (.builtin "isinstance") (rIsX X.K a cls d) := by
  intro pins s σ H xs us Q I r h
  obtain ⟨D, c, cv, b, ec, C, hd, rfl, hcv, e, q⟩ := h
  subst ec
  cases r with
  | cons rx rr =>
    cases rr with
    | cons rt rr =>
      cases rr
      cases rx
      have ec := hcv _ rt
      subst ec
      obtain ⟨hget, _⟩ := I.pin (a, oe) (List.mem_append.mpr (.inl List.mem_cons_self))
      obtain ⟨vs, hv⟩ := hf
      obtain ⟨cdD, hcD, _⟩ := PySem.W.any_some C.hd
      have hcl : (PySem.W.clsIn X.K D).isSome = true := by rw [hcD]; rfl
      obtain ⟨od, J⟩ : ∃ od, PySem.W.InstAt s.heap a oe D od := by
        rcases hd with rfl | ⟨dd, fs, rfl, ea⟩
        · exact ⟨none, hget, hz.1, by unfold PySem.W.notCls; rw [hv] <;> rfl, by rw [hz.2]; trivial⟩
        · have hx : ObjOk X.prog X.w H s.heap dd (.xd fs) := I.hok dd _ ea
          obtain ⟨mA, hns, hr⟩ := hx
          obtain ⟨od, ho, hl⟩ := lookIn_ns hns
          exact ⟨some od, hget, hz.1, by unfold PySem.W.notCls; rw [hv] <;> rfl, by rw [hz.2]; exact ho⟩
      exact PySem.W.kia_one (PySem.W.kitx_exc hcl C.hg C.hk C.hs C.ha C.hn C.ht C.hm) I.kIn J e (fun z => nomatch z) fun tk => ⟨.bl b, H, I.kept (t' := tk) fun _ _ z => z, rfl, q⟩
/-! ### defs that raise -/
section
variable {P : Program} {w : World} {K : Fr} {mg : Str → Option Value} {base : Heap}
/-- as Cal, for a def that may raise (its promise says what) -/
def CalX (P : Program) (w : World) (K : Fr) (mg : Str → Option Value) (base : Heap) (k : Nat) (x : Str) (ad : Addr) (ps : List Str) (sp : Sp) : Prop :=
  ∃ fd : FuncData, FnOk P w K mg base (L2.CX P w) k ad fd ps sp ∧ Binds K fd ps [] ∧ PySem.W.keepIn K (.ref ad) = true ∧ mg x = some (.ref ad)
theorem pe_cx {X : Cx} {k : Nat} {x : Str} {ad : Addr} {ps : List Str} {sp : Sp} {W : WX} {e : Expr} {es : List Expr} {t : TA} {p pos : Pos} (c : CalX X.prog X.w X.K X.mg X.base k x ad ps sp) (tk : Takes X W) (hr : Room k X.A) (ha : PA X (e :: es) t) (hg : Gl X x := by rfl)
    (hdb : (x == ("__debug__" : Str)) = false := by decide) (he : starEach (e :: es) X.env = (false, eval e X.env) :: starEach es X.env := by rfl) (hpl : (backTo pos (starEach es X.env)).any (·.1) = false := by rfl) :
    PE X (.Call (.Name x p) (e :: es) [] pos) (tCallS sp (WE W) t) := by
  obtain ⟨fd, F, b, kp, m⟩ := c
  exact pe_callS F hr hg m kp b (fun σ => passAt tk σ) ha hdb he hpl
abbrev BodyX (P : Program) (w : World) (K : Fr) (mg : Str → Option Value) (base : Heap) (k : Nat) (d : Dx) (N ps : List Str) (sp : Sp) : Prop :=
  ∀ (cdv : Value) (A : Around) (outer : List Env) (s : Shared) (H : Hp) (vs : List V) (Q : VK) (E : XK), Room k (A.deeper (envOfC d.ql (defScope d.st) s.heap.objs.size (d.ad K) cdv)) → sp vs H Q E →
      ∃ t, PSs (cxOf (L2.CX P w) P w K mg base N d.ql (defScope d.st) (d.ad K) cdv A outer s H E) (defBody d.st) t ∧ t { nx := fun _ H' => Q .non H', rt := Q } (start N vs) H
theorem okx_of {k : Nat} {d : Dx} {N ps : List Str} {sp : Sp} {fd : FuncData} (D : DAt K d fd) (S : FnScope N ps (defScope d.st)) (len : ∀ vs H Q E, sp vs H Q E → vs.length = ps.length) (hb : BodyX P w K mg base k d N ps sp) :
    FnOk P w K mg base (L2.CX P w) (k + 1) (d.ad K) fd ps sp := FunD.ok D S len hb
end
end Hk

/-! Where an exception is handled: walks over lists and texts, comprehensions. -/
namespace Hk
open PySem PySem.Spec PyProof.Rows L2 HotX L2H
section
variable {prog : Program} {w : World} {A : Around} {E : Value → Shared → Prop} {s : Shared}
theorem list_end_hot {it l x1 : Addr} {i : Nat} {items} {Q : Option Value → Shared → Prop} (hot : HotAt A x1 s.heap) (ne : x1 ≠ it)
    (hit : s.heap.IsListIter it l i) (hl : s.heap.IsList l items) (hx : items[i]? = none)
    (hQ : ∀ h', (∀ b o, b ≠ it → s.heap.get? b = some o → h'.get? b = some o) → Q none { s with heap := h' }) : wpAny (model prog w) A (pyNext (.ref it)) Q E s := by
  obtain ⟨o, ho, hc, hd⟩ := id hit
  obtain ⟨ol, hol, _, nl, hdl⟩ := hl
  obtain ⟨hh, o1, vs1, h1, d1, c1⟩ := hot
  unfold pyNext
  refine wpAny_bind (wpAny_attempt (wpAny_callSpecial?_slot (name := Str.ofString "__next__") hit.typeIs slot_listiter_next
    (wpAny_call_entry slot_listiter_next hit.typeIs entry_listiter_next ?_ (args_listiter_next _))))
  show wpAny _ _ (field (.ref it) 0 >>= _) _ _ s
  refine wpAny_bind (wpAny_field ho hd (x := .ref l) rfl ?_)
  show wpAny _ _ (if (Value.ref l == Value.none) = true then _ else _) _ _ s
  rw [if_neg (show ¬ ((Value.ref l == Value.none) = true) from Bool.false_ne_true)]
  show wpAny _ _ (field (.ref it) 1 >>= _) _ _ s
  refine wpAny_bind (wpAny_field ho hd (x := .int i 0) rfl ?_)
  show wpAny _ _ (seqItems? (.ref l) >>= _) _ _ s
  refine wpAny_bind (wpAny_seqItems hol hdl ?_)
  simp only [Int.toNat_natCast, hx]
  refine wpAny_bind (wpAny_rule (wpAny_bind (wpAny_setField ho hd (by simp) ?_)))
  show wpAny _ _ (newExc (.type "StopIteration") [] >>= _) _ _ _
  refine wpAny_bind ?_
  simp only [newExc, newTuple]
  refine wpAny_bind (wpAny_newObj_type ?_ (by size_fits))
  refine wpAny_bind (m := firstArgMember _ _) (wpAny_of_eq (a := Value.none) (by first | rfl | (simp only [firstArgMember]; rfl)) ?_)
  refine wpAny_newObj_type ?_ (by size_fits)
  have g1 := fun {f : Obj → Obj} => (Heap.get?_update_other s.heap f (Ne.symm ne)).trans h1
  refine raiseNew_hot ⟨hh, o1, vs1, Heap.get?_push_of_some _ (Heap.get?_push_of_some _ g1), d1, c1⟩ (Nat.ne_of_lt (Heap.lt_size (Heap.get?_push_of_some _ g1))) (Heap.get?_push_size _ rfl) rfl (by first | (simp; done) | (simp; omega) | decide) ?_
  refine wpAny_bind (wpAny_isInstance (T := "StopIteration") (b := true) ⟨_, Heap.get?_update_self _ (Heap.get?_push_size _ rfl) rfl, rfl⟩ isSubtype_stop ?_)
  refine wpAny_pure (hQ _ fun b o hb e => ?_)
  have g2 := fun {f : Obj → Obj} => (Heap.get?_update_other s.heap f (Ne.symm hb)).trans e
  rw [Heap.get?_update_other _ _ (Nat.ne_of_gt (Heap.lt_size (Heap.get?_push_of_some _ g2)))]
  exact Heap.get?_push_of_some _ (Heap.get?_push_of_some _ g2)
theorem ascii_end_hot {it x1 : Addr} {x : Str} {t : Tok} {i : Nat} {Q : Option Value → Shared → Prop} (hot : HotAt A x1 s.heap) (ne : x1 ≠ it)
    (hit : s.heap.IsStrIter it "str_ascii_iterator" x t i) (hx : x.cps[i]? = none)
    (hQ : ∀ h', (∀ b o, b ≠ it → s.heap.get? b = some o → h'.get? b = some o) → Q none { s with heap := h' }) : wpAny (model prog w) A (pyNext (.ref it)) Q E s := by
  obtain ⟨o, ho, hc, hd⟩ := id hit
  obtain ⟨hh, o1, vs1, h1, d1, c1⟩ := hot
  unfold pyNext
  refine wpAny_bind (wpAny_attempt (wpAny_callSpecial?_slot (name := Str.ofString "__next__") hit.typeIs F.slot_str_ascii_iterator_next
    (wpAny_call_entry F.slot_str_ascii_iterator_next hit.typeIs F.entry_str_ascii_iterator_next ?_ (F.args_str_ascii_iterator_next_1 _))))
  show wpAny _ _ (field (.ref it) 0 >>= _) _ _ s
  refine wpAny_bind (wpAny_field ho hd (x := .str x t) rfl ?_)
  show wpAny _ _ (field (.ref it) 1 >>= _) _ _ s
  refine wpAny_bind (wpAny_field ho hd (x := .int i 0) rfl ?_)
  simp only [Int.toNat_natCast, hx]
  refine wpAny_bind (wpAny_rule (wpAny_bind (wpAny_setField ho hd (by simp) (wpAny_bind (wpAny_letGo ?_)))))
  show wpAny _ _ (newExc (.type "StopIteration") [] >>= _) _ _ _
  refine wpAny_bind ?_
  simp only [newExc, newTuple]
  refine wpAny_bind (wpAny_newObj_type ?_ (by size_fits))
  refine wpAny_bind (m := firstArgMember _ _) (wpAny_of_eq (a := Value.none) (by first | rfl | (simp only [firstArgMember]; rfl)) ?_)
  refine wpAny_newObj_type ?_ (by size_fits)
  have g1 := fun {f : Obj → Obj} => (Heap.get?_update_other s.heap f (Ne.symm ne)).trans h1
  refine raiseNew_hot ⟨hh, o1, vs1, Heap.get?_push_of_some _ (Heap.get?_push_of_some _ g1), d1, c1⟩ (Nat.ne_of_lt (Heap.lt_size (Heap.get?_push_of_some _ g1))) (Heap.get?_push_size _ rfl) rfl (by first | (simp; done) | (simp; omega) | decide) ?_
  refine wpAny_bind (wpAny_isInstance (T := "StopIteration") (b := true) ⟨_, Heap.get?_update_self _ (Heap.get?_push_size _ rfl) rfl, rfl⟩ isSubtype_stop ?_)
  refine wpAny_pure (hQ _ fun b o hb e => ?_)
  have g2 := fun {f : Obj → Obj} => (Heap.get?_update_other s.heap f (Ne.symm hb)).trans e
  rw [Heap.get?_update_other _ _ (Nat.ne_of_gt (Heap.lt_size (Heap.get?_push_of_some _ g2)))]
  exact Heap.get?_push_of_some _ (Heap.get?_push_of_some _ g2)
end
/-- a context that holds what is handled, and is apart from the iterator -/
theorem hot_at {X : Cx} {pins : List (Addr × Obj)} {σ : L2.St} {H : Hp} {s : Shared} {it : Addr} (c : HotC X) (I : Inv X pins σ H s) (f : FpOk X pins H it) : ∃ x1, HotAt X.A x1 s.heap ∧ x1 ≠ it := by
  obtain ⟨p, ⟨hh, v1, e1, c1⟩, hp⟩ := c
  exact ⟨p.1, ⟨hh, p.2, v1, (I.pin p (List.mem_append_left _ hp)).1, e1, c1⟩, f.2.2.2.2.2 p (List.mem_append_left _ hp)⟩
theorem turn_listH {P : Program} {w : World} {K : Fr} {tg : Expr} (a it : Addr) : TurnH P w K tg (Itl K a) [it] it (fun i h => h.IsListIter it a i) where
  mem := by simp
  obj := (turn_list (P := P) (w := w) (K := K) (tg := tg) a it).obj
  keep := (turn_list (P := P) (w := w) (K := K) (tg := tg) a it).keep
  item := by
    intro X hP hw hK hc i pins s σ H E I hf st hg
    subst hP hw hK
    obtain ⟨xs, x, hq, hx⟩ := hg
    obtain ⟨its, rv, p, hz⟩ := I.list hq
    obtain ⟨u, hu, ru⟩ := rv.get hx
    obtain ⟨f0, f1, f2, f3, f4, f5⟩ := hf it (by simp)
    refine wpAny_pyNext_list_item st p.isList (x := u) (by simpa using hu) fun h' st' sb => ?_
    have I1 : Inv X pins σ H { s with heap := h' } := I.turned (t' := s.toks) (fun b o hb e => (sb.2 b hb).trans e) f0 f1 f3 f4 f5
    obtain ⟨o, e, c, d⟩ := id st'
    exact ⟨u, rfl, go_of (s := { s with heap := h' }) e c d (by decide) ⟨x, H, I1, ru, ⟨rfl, fun ys hy => by rw [I.list_inj hy hq]; exact hx⟩, st', fun b hb => (hf b hb).1⟩⟩
  done := by
    intro X hP hw hK hc i pins s σ H E I hf st hg
    subst hP hw hK
    obtain ⟨xs, hq, hx⟩ := hg
    obtain ⟨its, rv, p, hz⟩ := I.list hq
    have f := hf it (by simp)
    obtain ⟨x1, hot, ne⟩ := hot_at hc I f
    obtain ⟨f0, f1, f2, f3, f4, f5⟩ := f
    have hl := rv.length
    exact list_end_hot hot ne st p.isList (by simp; omega) fun h' eb => ⟨rfl, I.turned (t' := s.toks) (fun b o hb e => eb b o hb e) f0 f1 f3 f4 f5⟩
  self := fun _ _ _ _ _ st h => wpAny_pyIter_listiter st h
theorem turn_strH {P : Program} {w : World} {K : Fr} {tg : Expr} (it : Addr) (x : Str) (t : Tok) : TurnH P w K tg (Its x) [it] it (fun i h => h.IsStrIter it "str_ascii_iterator" x t i) where
  mem := by simp
  obj := (turn_str (P := P) (w := w) (K := K) (tg := tg) it x t _ (.inl rfl)).obj
  keep := (turn_str (P := P) (w := w) (K := K) (tg := tg) it x t _ (.inl rfl)).keep
  item := by
    intro X hP hw hK hc i pins s σ H E I hf st hg
    subst hP hw hK
    obtain ⟨f0, f1, f2, f3, f4, f5⟩ := hf it (by simp)
    have hg' : i < x.cps.size := hg
    refine wpAny_pyNext_ascii_item st (c := x.cps[i]) (by simp [hg']) fun h' st' sb => ?_
    have I1 : Inv X pins σ H { s with heap := h', toks := s.toks + 1 } := I.turned (fun b o hb e => (sb.2 b hb).trans e) f0 f1 f3 f4 f5
    obtain ⟨oi, e, cc, dd⟩ := id st'
    exact ⟨_, rfl, go_of (s := { s with heap := h', toks := s.toks + 1 }) e cc dd (by decide) ⟨.str ⟨#[x.cps[i]]⟩, H, I1, ⟨_, rfl⟩, ⟨rfl, _, by simp [hg'], rfl⟩, st', fun b hb => (hf b hb).1⟩⟩
  done := by
    intro X hP hw hK hc i pins s σ H E I hf st hg
    subst hP hw hK
    have f := hf it (by simp)
    obtain ⟨x1, hot, ne⟩ := hot_at hc I f
    obtain ⟨f0, f1, f2, f3, f4, f5⟩ := f
    exact ascii_end_hot hot ne st (Array.getElem?_eq_none hg) fun h' eb => ⟨rfl, I.turned (t' := s.toks) (fun b o hb e => eb b o hb e) f0 f1 f3 f4 f5⟩
  self := fun A i s Q E st h => wpAny_pyIter_striter_ascii st h
end Hk

namespace Hk
open PySem PySem.Spec PyProof.Rows L2 HotX L2H
/-! ### iterables where an exception is handled -/
theorem pie_hot {X : Cx} {tg : Expr} {pins : List (Addr × Obj)} {σ : L2.St} {H : Hp} {s : Shared} {R : It → Hp → Prop} {J : It} {tn : Nat → Heap → Prop} {tk : Nat} (I : Inv X pins σ H s) (o : Obj)
    (T : TurnH X.prog X.w X.K tg J [s.heap.objs.size] s.heap.objs.size tn) (st : tn 0 (s.heap.push o)) (q : R J H) : PIEH X pins σ tg R (.ref s.heap.objs.size) { s with heap := s.heap.push o, toks := tk } := by
  refine ⟨s.heap.objs.size, [s.heap.objs.size], tn, J, H, rfl, I.kept fun b ob e => Heap.get?_push_of_some _ e, T, st, fun b hb => ?_, q⟩
  have e : b = s.heap.objs.size := by simpa using hb
  subst e
  exact I.fpOk (Nat.le_refl _) (I.hok.fresh (Nat.le_refl _))
theorem pih_list {X : Cx} {tg l : Expr} {tl : TE} (hl : PE X l tl) : PIH X tg l (iList X.K tl) := by
  refine ⟨fun pins s σ H R I h => thn (hl.run pins s σ H _ I h) fun v s1 hv => ?_⟩
  obtain ⟨x, H1, I1, r1, a, rfl, ⟨xs, hq⟩, q⟩ := hv
  cases r1
  obtain ⟨its, rv, p, hz⟩ := I1.list hq
  exact wpAny_pyIter_list p.isList (pie_hot (tk := s1.toks) I1 _ (turn_listH a _) ⟨_, Heap.get?_push_size _ rfl, rfl, rfl⟩ q)
/-- a text of ASCII signs -/
def iStrA (te : TE) : TI := fun σ H R => te σ H fun v H1 => ∃ x, v = .str x ∧ x.cps.all (· < 128) = true ∧ R (Its x) H1
theorem pih_str {X : Cx} {tg e : Expr} {te : TE} (he : PE X e te) : PIH X tg e (iStrA te) := by
  refine ⟨fun pins s σ H R I h => thn (he.run pins s σ H _ I h) fun v s1 hv => ?_⟩
  obtain ⟨y, H1, I1, r1, x, rfl, ha, q⟩ := hv
  obtain ⟨t, rfl⟩ := r1
  exact wpAny_pyIter_ascii ha (pie_hot (tk := s1.toks) I1 _ (turn_strH _ x t) ⟨_, Heap.get?_push_size _ rfl, rfl, rfl⟩ q)
/-! ### a list comprehension there -/
/-- the context of its block, which keeps what is pinned -/
abbrev blkP (X : Cx) (s : Shared) (H : Hp) (scope : Scope) (cenv : Env) (fp : List Addr) : Cx := { X.blk s H scope cenv fp with pn := X.pn }
theorem blkP_start {X : Cx} {pins : List (Addr × Obj)} {σ : L2.St} {H : Hp} {s : Shared} {scope : Scope} {own : List (Str × Nat)} {fp : List Addr} (I : Inv X pins σ H s) (ok : BlkOk X.N X.env.scope scope own) (hN : X.N.Nodup) (hfp : ∀ b ∈ fp, FpOk X pins H b ∧ b < s.heap.objs.size) :
    Inv (blkP X s H scope (compEnvC scope (cellsFrom (s.heap.objs.size + 1) scope.names (cloFrom X.env.cells scope.names [])) s.heap.objs.size X.env) fp) [] (wipe σ (own.map (·.2))) H { s with heap := pushCells (s.heap.push { cls := .type "dict", data := .dict #[] }) scope.names } := by
  have J := block_start I ok hN hfp
  have k := J.ok
  refine ⟨⟨k.mod, k.kind, k.glob, k.blt, k.above, k.inj, k.has, k.cab, k.hd, k.frames, k.stk, k.exf, k.bs, k.bsz, k.noex, k.exfs, k.funs, k.frf⟩, J.os, J.bare, J.base, J.loc, J.cell, J.free, J.freeC, fun p hp => ?_, J.hok, J.len⟩
  have hp : p ∈ X.pn := by simpa using hp
  obtain ⟨g, n, nl, nf, nc⟩ := I.pin p (List.mem_append_left _ hp)
  refine ⟨pushCells_keeps _ _ _ _ (Heap.get?_push_of_some _ g), n, Nat.ne_of_lt (Heap.lt_size g), fun z => ?_, nc⟩
  rcases List.mem_cons.mp (I.stkSub _ z) with y | y
  · exact nl y
  · exact nf y
theorem pe_lcH {X : Cx} {elt tg iter : Expr} {ifs : List Expr} {scope : Scope} {own : List (Str × Nat)} {pos : Pos} {wi : TI} {g : TG} {tt : TT} {te : TE} (hc : HotC X) (hN : X.N.Nodup) (hi : PIH X tg iter wi) (ok : BlkOk X.N X.env.scope scope own)
    (hg : ∀ (s : Shared) (H : Hp) (C : Addr) (cl : List (Str × Addr)) (fp : List Addr), PG (blkP X s H scope (compEnvC scope cl C X.env) fp) tg g) (ht : ∀ (s : Shared) (H : Hp) (C : Addr) (cl : List (Str × Addr)) (fp : List Addr), PTs (blkP X s H scope (compEnvC scope cl C X.env) fp) ifs tt)
    (he : ∀ (s : Shared) (H : Hp) (C : Addr) (cl : List (Str × Addr)) (fp : List Addr), PE (blkP X s H scope (compEnvC scope cl C X.env) fp) elt te) (hs : ∀ x, foldedSetIterable iter X.env x = pure x := by intro _; rfl) :
    PE X (.ListComp elt [⟨tg, iter, ifs, 0⟩] scope pos) (tLc wi g tt te (own.map (·.2))) := by
  refine ⟨fun pins s σ H Q I h => ?_⟩
  rw [eval_ListComp]
  have hfree : ∀ y ∈ scope.names, y.2 = .free → ∃ c, X.env.cells.lookup y.1 = some c := fun y hy e => (ok.free y hy e).elim (fun k => I.ok.has _ (.inl k)) fun k => I.ok.has _ (.inr k)
  refine wpAny_comprehension_free rfl hs (closure_ok hfree) ok.kind (fun y hy e => by rw [ok.uniq y hy, e]) (thn (hi.run pins s σ H _ I h) fun xv s1 hx => thn hx fun itv s2 h2 => ?_)
  obtain ⟨it, fp, tn, J, H2, rfl, I2, T, st2, f2, q⟩ := h2
  refine wpAny_newObj_type (newEnv_comp ?_) (by show 0 ≤ sizeLine; decide)
  generalize hD : s2.heap.objs.size = D
  have hDn : H2 D = none := I2.hok.fresh (Nat.le_of_eq hD)
  obtain ⟨W, ⟨m0, w0⟩, turn⟩ := q D hDn
  generalize hs3 : ({ s2 with heap := s2.heap.push { cls := .type "list", data := .seq ([] : List Value).toArray } } : Shared) = s3
  have h3 : s3.heap = s2.heap.push { cls := .type "list", data := .seq ([] : List Value).toArray } := by rw [← hs3]
  have I3 : Inv X pins σ (upd H2 D (.lst [])) s3 := by
    rw [← hs3]
    refine I2.laid (t' := s2.toks) (fun b o e => Heap.get?_push_of_some _ e) (Nat.le_of_eq hD) ⟨Nat.zero_le _, [], 0, .nil, ?_⟩
    rw [← hD]
    exact Heap.get?_push_size _ rfl
  have f3 : ∀ b ∈ fp, FpOk X pins (upd H2 D (.lst [])) b ∧ b < s3.heap.objs.size := fun b hb => by
    obtain ⟨o, e, _⟩ := T.obj _ _ st2 b hb
    have lt := Heap.lt_size e
    refine ⟨⟨?_, (f2 b hb).2⟩, by rw [h3, Heap.size_push]; exact Nat.lt_succ_of_lt lt⟩
    rw [upd_ne (by rw [← hD]; exact Nat.ne_of_lt lt)]
    exact (f2 b hb).1
  have st3 : tn 0 s3.heap := T.keep _ _ _ st2 fun b _ o e => by rw [h3]; exact Heap.get?_push_of_some _ e
  have I4 := blkP_start I3 ok hN f3
  have pg := hg s3 (upd H2 D (.lst [])) s3.heap.objs.size (cellsFrom (s3.heap.objs.size + 1) scope.names (cloFrom X.env.cells scope.names [])) fp
  have pt := ht s3 (upd H2 D (.lst [])) s3.heap.objs.size (cellsFrom (s3.heap.objs.size + 1) scope.names (cloFrom X.env.cells scope.names [])) fp
  have pe := he s3 (upd H2 D (.lst [])) s3.heap.objs.size (cellsFrom (s3.heap.objs.size + 1) scope.names (cloFrom X.env.cells scope.names [])) fp
  have nfp : ∀ b ∈ fp, (upd H2 D (.lst [])) b = none := fun b hb => (f3 b hb).1.1
  have cL : (compEnvC scope (cellsFrom (s3.heap.objs.size + 1) scope.names (cloFrom X.env.cells scope.names [])) s3.heap.objs.size X.env).locals = s3.heap.objs.size := rfl
  have st4 : tn 0 (pushCells (s3.heap.push { cls := .type "dict", data := .dict #[] }) scope.names) := T.keep _ _ _ st3 fun b _ o e => pushCells_keeps _ _ _ _ (Heap.get?_push_of_some _ e)
  show codeAny _ _ (.compStart (.ListComp elt [⟨tg, iter, ifs, 0⟩] scope pos) 0 (.ref it) (.ref D) (compEnvC scope (cellsFrom (s3.heap.objs.size + 1) scope.names (cloFrom X.env.cells scope.names [])) s3.heap.objs.size X.env)) (compPost (model X.prog X.w) X.A X.xe none (EP X pins σ Q) (.ref D) s3.heap.objs.size) { s3 with heap := pushCells (s3.heap.push { cls := .type "dict", data := .dict #[] }) scope.names }
  generalize hce : compEnvC scope (cellsFrom (s3.heap.objs.size + 1) scope.names (cloFrom X.env.cells scope.names [])) s3.heap.objs.size X.env = ce at I4 pg pt pe cL ⊢
  generalize upd H2 D (.lst []) = H3 at I3 I4 pg pt pe w0 nfp f3
  have hcB : HotC (blkP X s3 H3 scope ce fp) := hc
  have stat : ∀ {σ' : L2.St} {H' : Hp} {s' : Shared}, Inv (blkP X s3 H3 scope ce fp) [] σ' H' s' → (∀ b ∈ fp, H' b = none) → ∀ b ∈ fp, FpOk (blkP X s3 H3 scope ce fp) [] H' b := fun {σ' H' s'} I' hn b hb =>
    ⟨hn b hb, (I'.ok.exf b hb).1, I'.ok.exfs b hb, .inl hb, fun x c e => (I'.ok.exf b hb).2 x c e, fun p hp => (f3 b hb).1.2.2.2.2.2 p (List.mem_append_left _ (by simpa using hp))⟩
  generalize hs4 : ({ s3 with heap := pushCells (s3.heap.push { cls := .type "dict", data := .dict #[] }) scope.names } : Shared) = s4 at I4 ⊢
  have st4' : tn 0 s4.heap := by rw [← hs4]; exact st4
  have run : codeAny (model X.prog X.w) X.A (.compLoop (.ListComp elt [⟨tg, iter, ifs, 0⟩] scope pos) 0 (.ref it) (.ref D) ce) (compPost (model X.prog X.w) X.A X.xe none (EP X pins σ Q) (.ref D) s3.heap.objs.size) s4 := by
    refine compLoop_any (fun n s' => ∃ i H', Inv (blkP X s3 H3 scope ce fp) [] (wipe σ (own.map (·.2))) H' s' ∧ tn i s'.heap ∧ (∀ b ∈ fp, H' b = none) ∧ W i n H') ?_ m0 ⟨0, H3, I4, st4', nfp, w0⟩
    rintro n s5 ⟨i, H5, I5, st5, n5, w5⟩
    rcases turn i n H5 w5 with ⟨stop, qq⟩ | ⟨go, Nx, hNx, step⟩
    · refine thnF (T.done (blkP X s3 H3 scope ce fp) rfl rfl rfl hcB i [] s5 _ H5 (fun _ _ => False) I5 (stat I5 n5) st5 stop) fun r s6 hr => ?_
      obtain ⟨rfl, I6⟩ := hr
      have I7 : Inv X pins σ H5 s6 := I3.call' (ch := fp) I6.os I6.base I6.hok I6.bare fun b hb => ⟨(f3 b hb).1.2.2.2.1, (f3 b hb).1.2.1, (f3 b hb).1.2.2.2.2.1, (f3 b hb).1.2.2.2.2.2⟩
      have nC : H5 s3.heap.objs.size = none := by
        have z : H5 ce.locals = none := I6.free
        rw [cL] at z
        exact z
      obtain ⟨m, hn, _⟩ := I6.loc
      have hn : s6.heap.Ns ce.locals m := hn
      rw [cL] at hn
      obtain ⟨c0, c1, c2, c3, c4, c5⟩ := I3.fpOk (Nat.le_refl _) nC
      exact ⟨m, hn, fun h'' sb => ⟨.ref D, H5, I7.turned (t' := s6.toks) (fun b o hb e => (sb.2 b hb).trans e) c0 c1 c3 c4 c5, rfl, qq⟩⟩
    · refine thnF (T.item (blkP X s3 H3 scope ce fp) rfl rfl rfl hcB i [] s5 _ H5 (fun _ _ => False) I5 (stat I5 n5) st5 go) fun r s6 hr => ?_
      obtain ⟨u, rfl, h6⟩ := hr
      refine thnF h6 fun _ s7 h7 => ?_
      obtain ⟨x, H7, I7, r7, y7, st7, n7⟩ := h7
      have P7 := I7.pinned (stat I7 n7) (T.obj _ _ st7)
      refine thnF (pg.run _ s7 _ H7 x u _ P7 r7 (step x H7 y7)) fun _ s8 h8 => ?_
      obtain ⟨σ8, H8, I8, hw8, q8⟩ := h8
      refine thnF (pt.run _ s8 σ8 H8 _ I8 q8) fun b s9 h9 => ?_
      obtain ⟨H9, I9, q9⟩ := h9
      have again : ∀ {s' : Shared} {H' : Hp}, Inv (blkP X s3 H3 scope ce fp) ([] ++ pinsAt fp s7.heap) σ8 H' s' → Nx H' → ∃ m, m < n ∧ ∃ i H', Inv (blkP X s3 H3 scope ce fp) [] (wipe σ (own.map (·.2))) H' s' ∧ tn i s'.heap ∧ (∀ b ∈ fp, H' b = none) ∧ W i m H' := fun {s' H'} I' nx => by
        obtain ⟨m', hm, w'⟩ := hNx H' nx
        have keepP : ∀ b ∈ fp, ∀ o, s7.heap.get? b = some o → s'.heap.get? b = some o ∧ H' b = none := fun b hb o e =>
          let z := I'.pin (b, o) (List.mem_append_right _ (List.mem_append_right _ (mem_pinsAt hb e)))
          ⟨z.1, z.2.1⟩
        refine ⟨m', hm, i + 1, H', (I'.unpinned (pins := [])).weak (by rw [← hw8, wipe_length]) (fun j v e => ?_), T.keep _ _ _ st7 fun b hb o e => (keepP b hb o e).1, fun b hb => ?_, w'⟩
        · rw [← hw8] at e
          exact (wipe_some e).1
        · obtain ⟨o, e, _⟩ := T.obj _ _ st7 b hb
          exact (keepP b hb o e).2
      cases b with
      | false =>
        simp only [Bool.false_eq_true, if_false] at q9 ⊢
        exact again I9 q9
      | true =>
        simp only [if_true] at q9 ⊢
        refine thnF (pe.run _ s9 σ8 H9 _ I9 q9) fun z s10 h10 => ?_
        obtain ⟨yv, H10, I10, r10, acc, hD10, hz10, nx⟩ := h10
        exact app_ok (X := blkP X s3 H3 scope ce fp) I10 hD10 hz10 r10 fun s11 I11 => again I11 nx
  exact codeAny_compStart_list run (T.self X.A 0 _ _ _ st4' run)
end Hk

namespace Hk
open PySem PySem.Spec PyProof.Rows L2 HotX L2H
/-! ### all, any of a list of truths there -/
theorem walks_list_hot {prog : Program} {w : World} {A : Around} (it ax x1 : Addr) (hne : ax ≠ it) (hx : x1 ≠ it) (items : Array Value) :
    Walks prog w A it [it, ax, x1] [it] items.size (fun i v => items[i]? = some v) (fun i h => h.IsListIter it ax i ∧ (h.IsList ax items ∧ HotAt A x1 h)) where
  sub := fun b hb => by simp at hb; simp [hb]
  frame := fun _ _ _ st hk => by
    obtain ⟨s1, s2, hh, o, vs, e, d, c⟩ := st
    exact ⟨s1.at fun o e => hk it (by simp) o e, s2.at fun o e => hk ax (by simp) o e, hh, o, vs, hk x1 (by simp) o e, d, c⟩
  item := fun i s Q E hi st hQ => by
    obtain ⟨s1, s2, hh, o, vs, e, d, c⟩ := st
    refine wpAny_pyNext_list_item s1 s2 (x := items[i]) (by simp [hi]) fun h' hit' hs' => ?_
    exact hQ _ h' s.toks (by simp [hi]) ⟨hit', s2.extBut hs'.extBut hne, hh, o, vs, hs'.extBut x1 o hx e, d, c⟩ fun b o hb e => hs'.extBut b o (fun h => hb (by simp [h])) e
  done := fun s Q E st hQ => list_end_hot st.2.2 hx st.1 st.2.1 (by simp) fun h' he' => hQ h' s.toks fun b o hb e => he' b o (fun h => hb (by simp [h])) e
  self := fun _ _ _ _ st hQ => wpAny_pyIter_listiter st.1 hQ
section
variable {X : Cx}
theorem cr_allH (hc : HotC X) : CallR X (.builtin "all") (rAll X.K) := by
  intro pins s σ H vs us Q I r h
  obtain ⟨a, bs, rfl, hs, q⟩ := h
  obtain ⟨its, rv, hl, _⟩ := I.list hs
  rw [Vals.ref1 r]
  have hb := rv.bls
  obtain ⟨x1, hh, o1, v1, e1, d1, c1⟩ := hc.at I
  refine call_all_walk (iter_any hl.isList fun s₂ e2 st hne => ?_)
  subst e2
  have lx : x1 < s.heap.objs.size := Heap.lt_size e1
  refine ⟨_, _, _, _, _, _, _, rfl, walks_list_hot (A := X.A.in1) _ a x1 hne (Nat.ne_of_lt lx) its.toArray, ⟨st.1, st.2, hh, o1, v1, Heap.get?_push_of_some _ e1, d1, c1⟩, truth_bools hb, fun h' tk hk => ?_⟩
  refine ⟨.bl _, H, I.kept fun b o eo => hk b o (fun hmem => ?_) (Heap.get?_push_of_some _ eo), ?_, q⟩
  · have z : b = s.heap.objs.size := by simpa using hmem
    exact absurd (z ▸ Heap.lt_size eo) (Nat.lt_irrefl _)
  · show Value.bool _ = Value.bool _
    rw [← L2.all_range, hb, List.size_toArray, List.length_map]
theorem cr_anyH (hc : HotC X) : CallR X (.builtin "any") (rAny X.K) := by
  intro pins s σ H vs us Q I r h
  obtain ⟨a, bs, rfl, hs, q⟩ := h
  obtain ⟨its, rv, hl, _⟩ := I.list hs
  rw [Vals.ref1 r]
  have hb := rv.bls
  obtain ⟨x1, hh, o1, v1, e1, d1, c1⟩ := hc.at I
  refine call_any_walk (iter_any hl.isList fun s₂ e2 st hne => ?_)
  subst e2
  have lx : x1 < s.heap.objs.size := Heap.lt_size e1
  refine ⟨_, _, _, _, _, _, _, rfl, walks_list_hot (A := X.A.in1) _ a x1 hne (Nat.ne_of_lt lx) its.toArray, ⟨st.1, st.2, hh, o1, v1, Heap.get?_push_of_some _ e1, d1, c1⟩, truth_bools hb, fun h' tk hk => ?_⟩
  refine ⟨.bl _, H, I.kept fun b o eo => hk b o (fun hmem => ?_) (Heap.get?_push_of_some _ eo), ?_, q⟩
  · have z : b = s.heap.objs.size := by simpa using hmem
    exact absurd (z ▸ Heap.lt_size eo) (Nat.lt_irrefl _)
  · show Value.bool _ = Value.bool _
    rw [← L2.any_range, hb, List.size_toArray, List.length_map]
end
/-! ### defs called there that let nothing out -/
section
variable {P : Program} {w : World} {K : Fr} {mg : Str → Option Value} {base : Heap}
theorem hotC_cx {CX : CXT} {N : List Str} {qual : Str} {scope : Scope} {f : Addr} {cd : Value} {A : Around} {outer : List Env} {s : Shared} {H : Hp} {E : XK} {p : Addr × Obj} (h : Hot1 A p) : HotC (cxH CX P w K mg base N qual scope f cd A outer s H E p) := ⟨p, h, List.mem_cons_self⟩
abbrev BodyH (P : Program) (w : World) (K : Fr) (mg : Str → Option Value) (base : Heap) (k : Nat) (d : Dx) (N ps : List Str) (sp : Sp) : Prop :=
  ∀ (cdv : Value) (A : Around) (outer : List Env) (s : Shared) (H : Hp) (vs : List V) (Q : VK) (E : XK) (p : Addr × Obj), Hot1 A p → RoomH k (A.deeper (envOfC d.ql (defScope d.st) s.heap.objs.size (d.ad K) cdv)) → sp vs H Q E →
      ∃ t, PSs (cxH CX0 P w K mg base N d.ql (defScope d.st) (d.ad K) cdv A outer s H E p) (defBody d.st) t ∧ t { nx := fun _ H' => Q .non H', rt := Q } (L2.start N vs) H
theorem okh_of {k : Nat} {d : Dx} {N ps : List Str} {sp : Sp} {fd : FuncData} (D : DAt K d fd) (S : FnScope N ps (defScope d.st)) (len : ∀ vs H Q E, sp vs H Q E → vs.length = ps.length) (hb : BodyH P w K mg base k d N ps sp) :
    FnH P w K mg base CX0 (k + 1) (d.ad K) fd ps sp := by
  obtain ⟨oc, od, dV, kV, doc, pm, an, cdv, ct, osl, rfl, lk, hcd, _, _⟩ := D.ex
  exact fn_ofH lk hcd S len fun A outer s H vs Q E p hot hr h => hb cdv A outer s H vs Q E p hot hr h
def CalH (P : Program) (w : World) (K : Fr) (mg : Str → Option Value) (base : Heap) (k : Nat) (x : Str) (ad : Addr) (ps : List Str) (sp : Sp) : Prop :=
  ∃ fd : FuncData, FnH P w K mg base CX0 k ad fd ps sp ∧ Binds K fd ps [] ∧ PySem.W.keepIn K (.ref ad) = true ∧ mg x = some (.ref ad)
theorem pe_ch {X : Cx} {k : Nat} {x : Str} {ad : Addr} {ps : List Str} {sp : Sp} {e : Expr} {es : List Expr} {t : TA} {p pos : Pos} (c : CalH X.prog X.w X.K X.mg X.base k x ad ps sp) (hr : RoomH k X.A) (hc : HotC X) (ha : PA X (e :: es) t) (hg : Gl X x := by rfl)
    (hdb : (x == ("__debug__" : Str)) = false := by decide) (he : starEach (e :: es) X.env = (false, eval e X.env) :: starEach es X.env := by rfl) (hpl : (backTo pos (starEach es X.env)).any (·.1) = false := by rfl) :
    PE X (.Call (.Name x p) (e :: es) [] pos) (tCallS sp (fun _ => E0) t) := by
  obtain ⟨fd, F, b, kp, m⟩ := c
  exact pe_callH F hr hc hg m kp b (fun σ _ _ _ _ _ _ z => (show False from z).elim) ha hdb he hpl
theorem calh_of {k : Nat} {d : Dx} {N ps : List Str} {sp : Sp} {x : Str} (D : ∃ fd, DAt K d fd) (hv : d.df = []) (S : FnScope N ps (defScope d.st)) (hm : mg x = some (.ref (d.ad K)))
    (hbi : ∀ (kV doc pm : Value) (an : Option Addr) (cdv ct : Value) (us : List Value), us.length = ps.length → bindArgs (PySem.W.fnOf d.nm d.ql (defArgs d.st) (defBody d.st) (defScope d.st) .none kV doc pm an cdv ct) ⟨us, []⟩ = pure (ps.zip us))
    (len : ∀ vs H Q E, sp vs H Q E → vs.length = ps.length) (hb : BodyH P w K mg base k d N ps sp) : CalH P w K mg base (k + 1) x (d.ad K) ps sp := by
  obtain ⟨fd, D⟩ := D
  have e : d.vs K = [] := by
    unfold Dx.vs
    rw [hv]
    rfl
  have D' : FunD K d.nm d.ql (defArgs d.st) (defBody d.st) (defScope d.st) [] [] (d.ad K) fd := by
    rw [← e]
    exact D
  exact ⟨fd, okh_of D S len hb, FunD.bindsN D' hbi, D.kp, hm⟩
end
/-! ### str and repr of own instances there -/
section
variable {X : Cx} {k : Nat} {C f : Addr} {fd : FuncData} {ps : List Str} {sp : Sp}
theorem own_runH {A' : Around} {pins : List (Addr × Obj)} {σ : L2.St} {H : Hp} {s : Shared} {Q : VK} {E' : Value → Shared → Prop} {us : List Value} {vs : List V} {p : Addr × Obj} (F : FnH X.prog X.w X.K X.mg X.base CX0 k f fd ps sp)
    (hr : RoomH k A') (hot : Hot1 A' p) (hp : p ∈ X.pn) (e0 : Env0 X.prog X.w X.K X.mg X.base A' X.stack s H) (hb : Binds X.K fd ps []) (I : Inv X pins σ H s) (r : Vals vs us) (h : sp vs H Q E0) : wpAny (model X.prog X.w) A' (call (.ref f) us) (EP X pins σ Q) E' s := by
  have ln : us.length = ps.length := r.length.symm.trans (F.len _ _ _ _ h)
  have bd : BindsTo s fd ⟨us, []⟩ (ps.zip us) := by
    have := hb s us I.kIn (by rw [List.append_nil]; exact ln)
    rwa [List.append_nil] at this
  obtain ⟨g1, g2, g3, g4, g5⟩ := I.pin p (List.mem_append_left _ hp)
  refine wpAny_call (codeAny_mono (F.run A' X.stack s H ⟨us, []⟩ us vs Q E0 p hr hot ⟨g1, g2, fun hm => (List.mem_cons.mp (I.stkSub p.1 hm)).elim g3 g4, g5⟩ e0 bd r h) fun z s' hq => ?_)
  rcases z with e | fl
  · exact (show False from hq).elim
  · cases fl with
    | ret u => exact I.after hq
    | _ => exact (show False from hq).elim
theorem call_strOH (O : Own X.K C "__str__" f) (F : FnH X.prog X.w X.K X.mg X.base CX0 k f fd ps sp) (hb : Binds X.K fd ps []) (hr : RoomH (k + 1) X.A) (hc : HotC X) : CallR X (.type "str") (rText C sp) := by
  intro pins s σ H xs us Q I r h
  obtain ⟨a, dx, fs, rfl, ha, q⟩ := h
  obtain ⟨u, rfl, ru⟩ := r.one
  cases (show u = Value.ref a from ru)
  obtain ⟨mA, M, _⟩ := ins_get I.hok ha
  obtain ⟨od, J, _⟩ := M.look
  obtain ⟨p, hot, hp⟩ := hc
  have r2 : RoomH k X.A.in1.in1 := ⟨by have := hr.dp; show X.A.depth + 3 * k + 5 < _; omega, by have := hr.un; show X.A.units + 1 + 1 + 16 * k + 200 < _; omega⟩
  refine PySem.W.kso_call (by have := hr.un; show X.A.units + 1 + 1 < _; omega) I.kIn J O.at_ O.fn (wpAny_mono (own_runH (vs := [.ref a]) F r2 hot hp I.env0.in1.in1 hb I (.cons rfl .nil) q) (fun v s' z => ?_) fun _ _ z => z)
  obtain ⟨z', H', I', rz, y, ey, qz⟩ := z
  subst ey
  obtain ⟨t, e⟩ := (show ∃ t, v = Value.str y t from rz)
  cases e
  exact ⟨.str y, H', I', ⟨t, rfl⟩, qz⟩
theorem call_reprOH (O : Own X.K C "__repr__" f) (F : FnH X.prog X.w X.K X.mg X.base CX0 k f fd ps sp) (hb : Binds X.K fd ps []) (hr : RoomH (k + 1) X.A) (hc : HotC X) : CallR X (.builtin "repr") (rText C sp) := by
  intro pins s σ H xs us Q I r h
  obtain ⟨a, dx, fs, rfl, ha, q⟩ := h
  obtain ⟨u, rfl, ru⟩ := r.one
  cases (show u = Value.ref a from ru)
  obtain ⟨mA, M, _⟩ := ins_get I.hok ha
  obtain ⟨od, J, _⟩ := M.look
  obtain ⟨p, hot, hp⟩ := hc
  have r2 : RoomH k X.A.in1 := ⟨by have := hr.dp; show X.A.depth + 3 * k + 5 < _; omega, by have := hr.un; show X.A.units + 1 + 16 * k + 200 < _; omega⟩
  obtain ⟨m, hF⟩ := I.fr
  refine PySem.W.repr_K (by have := hr.un; show X.A.units + 1 < _; omega) hF I.ok.mod.kin J O.at_ O.fn (wpAny_mono (own_runH (vs := [.ref a]) F r2 hot hp I.env0.in1 hb I (.cons rfl .nil) q) (fun v s' z => ?_) fun _ _ z => z)
  obtain ⟨z', H', I', rz, y, ey, qz⟩ := z
  subst ey
  obtain ⟨t, e⟩ := (show ∃ t, v = Value.str y t from rz)
  cases e
  exact ⟨.str y, H', I', ⟨t, rfl⟩, qz⟩
end
end Hk

/-! Own exceptions made where nothing is handled, with their context known to be None; defs that raise such ones. -/
namespace Hk
open PySem PySem.Spec PyProof.Rows L2
theorem pmk_oexN {X : Cx} {CX : CXT} {x : Str} {e : Expr} {es : List Expr} {ta : TA} {p pos : Pos} {C fI : Addr} {k : Nat} {fd : FuncData} {ps : List Str} {sp : Sp} (T : OexC X.K C) (iC : PySem.W.findIn X.K (.ref C) "__init__" = some (some (.ref fI))) (tI : PySem.W.typeIn X.K (.ref fI) = some (.type "function"))
    (F1 : FnOk X.prog X.w X.K X.mg X.base CX k fI fd ps sp) (hr : Room (k + 1) X.A) (hb : Binds X.K fd ps []) (hx : Passes CX X (fun _ _ _ => False)) (hg : Gl X x) (hm : X.mg x = some (.ref C)) (ha : PA X (e :: es) ta)
    (hdb : (x == ("__debug__" : Str)) = false := by decide) (he : starEach (e :: es) X.env = (false, eval e X.env) :: starEach es X.env := by rfl) (hpl : (backTo pos (starEach es X.env)).any (·.1) = false := by rfl) :
    L2N.PMk X (.Call (.Name x p) (e :: es) [] pos) (tMkO C sp [] ta) := by
  intro pins s σ H Q I h
  obtain ⟨nm, q, N, bs, bm, sn, sub, ab, col, dd, k0, k1, k2, k3, k5, hC, hbm⟩ := T.cls
  refine wpAny_Call_Name_kw (ld_glob I hg hm ?_ hdb)
  refine PySem.W.callWith_K (h₀ := X.base) I.ok.mod.kin T.kC (thn (ha.run pos pins s σ H _ I h) fun us s1 ⟨vs, H1, I1, r1, hz, q1⟩ => ⟨I1.kIn, ?_⟩) he hpl
  show wpAny _ _ (call (.ref C) us) _ _ _
  obtain ⟨hp, g, dr, tk, os⟩ := s1
  have hsz : hp.objs.size ≤ hp.objs.size + 1 := Nat.le_succ _
  have hq := q1 (hp.objs.size + 1) (I1.hok.fresh hsz)
  rw [List.append_nil] at hq
  have kk : ∀ b o, hp.get? b = some o → ((hp.push (PySem.W.kdv_tup us)).push (PySem.HandSPX.excO C hp.objs.size)).get? b = some o := fun b o e => Heap.get?_push_of_some _ (Heap.get?_push_of_some _ e)
  have hget : ((hp.push (PySem.W.kdv_tup us)).push (PySem.HandSPX.excO C hp.objs.size)).get? (hp.objs.size + 1) = some (PySem.HandSPX.excO C hp.objs.size) := by heap_get
  have I2 : Inv X pins σ (upd H1 (hp.objs.size + 1) (exo (hp.objs.size + 1) C none)) ⟨(hp.push (PySem.W.kdv_tup us)).push (PySem.HandSPX.excO C hp.objs.size), g, dr, tk, os⟩ :=
    I1.laid (t' := tk) (a := hp.objs.size + 1) (o := exo (hp.objs.size + 1) C none) kk hsz (exo_ok hget)
  have r2 : Vals (V.ref (hp.objs.size + 1) :: vs) (Value.ref (hp.objs.size + 1) :: us) := .cons rfl r1
  have hl : (Value.ref (hp.objs.size + 1) :: us ++ []).length = ps.length := by
    rw [List.append_nil, ← r2.length, F1.len _ _ _ _ hq]
  have hus : us.length ≤ sizeLine := by
    rw [← Paired.length r1, sizeLine_eq]
    omega
  have b2 := hb _ (Value.ref (hp.objs.size + 1) :: us) I2.kIn hl
  rw [List.append_nil] at b2
  refine wpAny_call (PySem.HandSPX.call_own F.excBase_ValueError (fun Y => PySem.HandSPX.refsVE_contains Y bm hbm) (I1.kIn _ _ hC) (PySem.W.looks_findIn I1.kIn iC) (fun self => PySem.W.bind_fn I1.kIn self tI) hus
    (codeAny_mono (F1.run _ X.stack _ _ ⟨Value.ref (hp.objs.size + 1) :: us, []⟩ (Value.ref (hp.objs.size + 1) :: us) _ _ (fun _ _ _ => False) (hr.make C us []) (I2.env0.make C us []) b2 r2 hq) fun r s' hq' => ?_))
  cases r with
  | error er => exact hx pins σ _ _ er s' I2 hq'
  | ok fl =>
    cases fl with
    | ret u =>
      obtain ⟨v, H2, os2, bare2, un2, hok2, rv, ev, d, fs, ea, ed, hd1, q2⟩ := hq'
      subst ev
      obtain ⟨h2, g2, d2, t2, os'⟩ := s'
      obtain ⟨t0, G, J, kG, ge, hoe, na⟩ := mk_end0 (d2 := d2) (t2 := t2) I1 hsz kk un2 hok2 os2 bare2 ea ed hd1
      refine ⟨rv, ⟨hp.objs.size + 1, _, _, ⟨G, g2, d2, t2, os'⟩, _, .ref C, some d, rfl, J, kG, ge, hoe, ⟨rfl, rfl, fun vs hv => ?_⟩, rfl, rfl, na, rfl, bare2, raises_own T.exC T.tyC, q2⟩⟩
      cases hv
      rfl
    | next => exact False.elim hq'
    | brk => exact False.elim hq'
    | cont => exact False.elim hq'
/-! ### defs that raise (context None) -/
section
variable {P : Program} {w : World} {K : Fr} {mg : Str → Option Value} {base : Heap}
def CalN (P : Program) (w : World) (K : Fr) (mg : Str → Option Value) (base : Heap) (k : Nat) (x : Str) (ad : Addr) (ps : List Str) (sp : Sp) : Prop :=
  ∃ fd : FuncData, FnOk P w K mg base (L2N.CX P w) k ad fd ps sp ∧ Binds K fd ps [] ∧ PySem.W.keepIn K (.ref ad) = true ∧ mg x = some (.ref ad)
theorem pe_cn {X : Cx} {k : Nat} {x : Str} {ad : Addr} {ps : List Str} {sp : Sp} {W : WX} {e : Expr} {es : List Expr} {t : TA} {p pos : Pos} (c : CalN X.prog X.w X.K X.mg X.base k x ad ps sp) (tk : L2N.Takes X W) (hr : Room k X.A) (ha : PA X (e :: es) t) (hg : Gl X x := by rfl)
    (hdb : (x == ("__debug__" : Str)) = false := by decide) (he : starEach (e :: es) X.env = (false, eval e X.env) :: starEach es X.env := by rfl) (hpl : (backTo pos (starEach es X.env)).any (·.1) = false := by rfl) :
    PE X (.Call (.Name x p) (e :: es) [] pos) (tCallS sp (WE W) t) := by
  obtain ⟨fd, F, b, kp, m⟩ := c
  exact pe_callS F hr hg m kp b (fun σ => L2N.passAt tk σ) ha hdb he hpl
abbrev BodyN (P : Program) (w : World) (K : Fr) (mg : Str → Option Value) (base : Heap) (k : Nat) (d : Dx) (N ps : List Str) (sp : Sp) : Prop :=
  ∀ (cdv : Value) (A : Around) (outer : List Env) (s : Shared) (H : Hp) (vs : List V) (Q : VK) (E : XK), Room k (A.deeper (envOfC d.ql (defScope d.st) s.heap.objs.size (d.ad K) cdv)) → sp vs H Q E →
      ∃ t, PSs (cxOf (L2N.CX P w) P w K mg base N d.ql (defScope d.st) (d.ad K) cdv A outer s H E) (defBody d.st) t ∧ t { nx := fun _ H' => Q .non H', rt := Q } (start N vs) H
theorem okn_of {k : Nat} {d : Dx} {N ps : List Str} {sp : Sp} {fd : FuncData} (D : DAt K d fd) (S : FnScope N ps (defScope d.st)) (len : ∀ vs H Q E, sp vs H Q E → vs.length = ps.length) (hb : BodyN P w K mg base k d N ps sp) :
    FnOk P w K mg base (L2N.CX P w) (k + 1) (d.ad K) fd ps sp := FunD.ok D S len hb
end
end Hk

/-! A static method that may raise, called off its class by keyword or by position. -/
namespace Hk
open PySem PySem.Spec PyProof.Rows L2
def tStatKX (C : Addr) (sp : Sp) (E : L2.St → XK) (ta : TE) (tk : TA) : TE := fun σ H Q => ta σ H fun x H1 => x = .ref C ∧ tk σ H1 fun vs H2 => sp vs H2 Q (E σ)
section
variable {X : Cx} {CX : CXT} {E : L2.St → XK} {k : Nat} {C p g : Addr} {mc : Value} {m : Str} {fd : FuncData} {ps : List Str} {sp : Sp} {o : Expr} {kws : List Keyword} {e : Expr} {es : List Expr} {ta : TE} {tk : TA} {pos apos : Pos} {pl : Sem Bool}
theorem pe_statKX (he : PE X o ta) (S : Stat X.K C mc m p g) (F : FnOk X.prog X.w X.K X.mg X.base CX k g fd ps sp) (hr : Room k X.A) (hx : ∀ σ, PassesAt CX X σ (E σ))
    (hbk : ∀ (s : Shared) (ws : List Value), X.K.In s.heap → ws.length = ps.length → BindsTo s fd ⟨[], ps.zip ws⟩ (ps.zip ws)) (hk : PK X kws tk)
    (hall : (backToKw pos (keywordEach kws X.env)).all (·.1.isSome) = true := by rfl) (hks : (backToKw pos (keywordEach kws X.env)).filterMap (·.1) = ps := by rfl)
    (hpl : ((backTo pos (starEach [] X.env)).any (·.1) || (backToKw pos (keywordEach kws X.env)).any (·.1.isNone)) = false := by rfl)
    (ht : eval (.Call (.Attribute o m apos) [] kws pos) X.env = (do
      let ov ← eval o X.env
      standAt apos.atName
      let (f, first) ← holding [ov] (getMethod ov m pl)
      callWith pos f first (backTo pos (starEach [] X.env)) (backToKw pos (keywordEach kws X.env))) := by rfl) :
    PE X (.Call (.Attribute o m apos) [] kws pos) (tStatKX C sp E ta tk) := by
  refine ⟨fun pins s σ H Q I h => PySem.W.methodCall_KW (pl := pl) (thn (he.run pins s σ H _ I h) fun u s1 hu => ?_) ht⟩
  obtain ⟨x, H1, I1, rx, ex, q⟩ := hu
  subst ex
  obtain rfl : u = Value.ref C := rx
  obtain ⟨rest, hp⟩ := S.rc
  refine PySem.W.method_cls I1.kIn S.rd.ga (PySem.W.cls_bind I1.kIn S.rd.rd S.at_ (wpAny_call (PySem.W.sm_get (s := { s1 with toks := s1.toks + 1 }) I1.kIn hp (PySem.W.handed_on rfl ?_))))
  refine PySem.W.callWith_KW0 (h₀ := X.base) I1.ok.mod.kin S.kp hall (thn (hk.run pos pins _ σ H1 _ (I1.tok _) q) fun ws s2 hw => ?_) hpl
  obtain ⟨vs, H2, I2, rv, q2⟩ := hw
  have ln : ws.length = ps.length := rv.length.symm.trans (F.len _ _ _ _ q2)
  refine ⟨I2.kIn, ?_⟩
  rw [hks]
  refine wpAny_call (codeAny_mono (F.run X.A X.stack s2 H2 ⟨[], ps.zip ws⟩ ws vs Q (E σ) hr I2.env0 (hbk s2 ws I2.kIn ln) rv q2) fun z s' hq => ?_)
  rcases z with er | fl
  · exact hx σ pins H2 s2 er s' I2 hq
  · cases fl with
    | ret u => exact I2.after hq
    | _ => exact (show False from hq).elim
theorem pe_statP (he : PE X o ta) (S : Stat X.K C mc m p g) (F : FnOk X.prog X.w X.K X.mg X.base CX k g fd ps sp) (hr : Room k X.A) (hx : ∀ σ, PassesAt CX X σ (E σ))
    (hb : Binds X.K fd ps []) (ha : PA X (e :: es) tk)
    (hst : starEach (e :: es) X.env = (false, eval e X.env) :: starEach es X.env := by rfl) (hpl : (backTo pos (starEach es X.env)).any (·.1) = false := by rfl)
    (ht : eval (.Call (.Attribute o m apos) (e :: es) [] pos) X.env = (do
      let ov ← eval o X.env
      standAt apos.atName
      let (f, first) ← holding [ov] (getMethod ov m pl)
      callWith pos f first (backTo pos (starEach (e :: es) X.env)) (backToKw pos (keywordEach [] X.env))) := by rfl) :
    PE X (.Call (.Attribute o m apos) (e :: es) [] pos) (tStatKX C sp E ta tk) := by
  refine ⟨fun pins s σ H Q I h => PySem.W.methodCall_KW (pl := pl) (thn (he.run pins s σ H _ I h) fun u s1 hu => ?_) ht⟩
  obtain ⟨x, H1, I1, rx, ex, q⟩ := hu
  subst ex
  obtain rfl : u = Value.ref C := rx
  obtain ⟨rest, hp⟩ := S.rc
  refine PySem.W.method_cls I1.kIn S.rd.ga (PySem.W.cls_bind I1.kIn S.rd.rd S.at_ (wpAny_call (PySem.W.sm_get (s := { s1 with toks := s1.toks + 1 }) I1.kIn hp (PySem.W.handed_on rfl ?_))))
  refine PySem.W.callWith_K (h₀ := X.base) I1.ok.mod.kin S.kp (thn (ha.run pos pins _ σ H1 _ (I1.tok _) q) fun us s2 ⟨vs, H2, I2, r, q2⟩ => ⟨I2.kIn, ?_⟩) hst hpl
  exact run_fnS F hr hb (hx σ) I2 r q2
end
end Hk

/-! Own exceptions with one field: their __init__, raised where nothing is handled. -/
namespace Hk
open PySem PySem.Spec PyProof.Rows L2
theorem iteNSn {c A B : Prop} [Decidable c] (hc : ¬ c) (h : A) : if (!decide c) = true then A else B := by
  rw [decide_eq_false hc]
  exact iteT h
/-- __init__(self, f): self.f = f -/
def spXin (C : Addr) (f : Str) : Sp := fun vs H Q _ => ∃ (a : Addr) (y : V), vs = [.ref a, y] ∧ H a = some (exo a C none) ∧ ∀ dx, H dx = none → dx ≠ a → Q .non (upd (upd H dx (exd dx [(f, y)])) a (exo a C (some dx)))
theorem xin_mk {C : Addr} {f : Str} {H1 : Hp} {y : V} {Q : XK} (k : ∀ d, H1 d = none → Q (.ref C) (some d) (upd H1 d (.xd [(f, y)]))) : [y].length ≤ 1000 ∧ ∀ a, H1 a = none → spXin C f (.ref a :: ([y] ++ [])) (upd H1 a (exo a C none))
    (fun v H2 => v = .non ∧ ∃ (d : Addr) (fs : List (Str × V)), H2 a = some (exo a C (some d)) ∧ H2 d = some (exd d fs) ∧ H1 d = none ∧ Q (.ref C) (some d) (upd (del H2 a) d (.xd fs))) (fun _ _ _ => False) := by
  refine ⟨by show 1 ≤ 1000; decide, fun a na => ⟨a, y, rfl, upd_same, fun dx nd ne => ⟨rfl, dx, [(f, y)], upd_same, ?_, ?_, ?_⟩⟩⟩
  · rw [upd_ne ne, upd_same]
  · rw [upd_ne ne] at nd
    exact nd
  · have n1 : H1 dx = none := by
      rw [upd_ne ne] at nd
      exact nd
    have e : upd (del (upd (upd (upd H1 a (exo a C none)) dx (exd dx [(f, y)])) a (exo a C (some dx))) a) dx (.xd [(f, y)]) = upd H1 dx (.xd [(f, y)]) := by
      funext b
      by_cases h1 : b = dx
      · rw [h1, upd_same, upd_same]
      · rw [upd_ne h1, upd_ne h1]
        by_cases h2 : b = a
        · rw [h2, del_same, na]
        · rw [del_ne h2, upd_ne h2, upd_ne h1, upd_ne h2]
    rw [e]
    exact k dx n1
section
variable {P : Program} {w : World} {K : Fr} {mg : Str → Option Value} {base : Heap}
/-- a class over ValueError with one field -/
structure XrC (P : Program) (w : World) (K : Fr) (mg : Str → Option Value) (base : Heap) (x f : Str) : Prop where
  c : OexC K (He.ga K x)
  iC : PySem.W.findIn K (.ref (He.ga K x)) "__init__" = some (some (.ref (mAd x "__init__" K)))
  tI : PySem.W.typeIn K (.ref (mAd x "__init__" K)) = some (.type "function")
  m : mg x = some (.ref (He.ga K x))
  fn : ∃ fd, FnOk P w K mg base CX0 1 (mAd x "__init__" K) fd [("self" : Str), f] (spXin (He.ga K x) f) ∧ Binds K fd [("self" : Str), f] []
theorem xin_ok {d : Dx} {x f : Str} {fd : FuncData} (D : DAt K d fd) (S : FnScope [("self" : Str), f] [("self" : Str), f] (defScope d.st)) (T : OexC K (He.ga K x)) (hn : PySem.W.findIn K (.ref (He.ga K x)) f = some none)
    (hb : ∀ (cdv : Value) (A : Around) (outer : List Env) (s : Shared) (H : Hp) (E : XK), PSs (cxOf CX0 P w K mg base [("self" : Str), f] d.ql (defScope d.st) (d.ad K) cdv A outer s H E).nox (defBody d.st) (tSeq (tOst K f (tVar 0) (tVar 1)) tNext)) :
    FnOk P w K mg base CX0 1 (d.ad K) fd [("self" : Str), f] (spXin (He.ga K x) f) := by
  refine ok_of (N := [("self" : Str), f]) D S (fun vs H Q E h => ?_) (fun cdv A outer s H vs Q E hr h => ?_)
  · obtain ⟨a, y, rfl, _⟩ := h
    rfl
  · obtain ⟨a, y, rfl, ha, k⟩ := h
    exact ⟨_, hb cdv A outer s H E, y, rfl, .ref a, rfl, a, _, rfl, T, hn, .inl ⟨ha, fun dx n ne => k dx n ne⟩⟩
end
/-- raise C(e); at the end: xin_mk -/
def tRz (C : Addr) (f : Str) (W : WX) (ta : TA) : TS := fun _ σ H => tMkO C (spXin C f) [] ta σ H fun cls d H' => W cls d σ H'
section
variable {X : Cx} {x f : Str} {e : Expr} {es : List Expr} {ta : TA} {p pos pos' : Pos} {W : WX}
theorem ps_rz (c : XrC X.prog X.w X.K X.mg X.base x f) (hr : Room 2 X.A) (hg : Gl X x) (tk : L2N.Takes X W) (ha : PA X (e :: es) ta) (hc : X.calm = true := by rfl)
    (hdb : (x == ("__debug__" : Str)) = false := by decide) (he : starEach (e :: es) X.env = (false, eval e X.env) :: starEach es X.env := by rfl) (hpl : (backTo pos (starEach es X.env)).any (·.1) = false := by rfl) :
    PS X (.Raise (some (.Call (.Name x p) (e :: es) [] pos)) none pos') (tRz (He.ga X.K x) f W ta) := by
  obtain ⟨fd, F, b⟩ := c.fn
  exact L2N.ps_raise hc tk (pmk_oexN c.c c.iC c.tI F hr b pass0 hg c.m ha hdb he hpl)
end
end Hk

/-! Fractions in lowest terms, over Int. -/
namespace NumM
def sg (b : Int) : Int := if b < 0 then -1 else 1
def gd (h b : Int) : Int := ((Nat.gcd h.natAbs b.natAbs : Nat) : Int)
def lowT (h b : Int) : Int := sg b * h / gd h b
def lowB (h b : Int) : Int := sg b * b / gd h b
theorem gd_pos {h b : Int} (hb : b ≠ 0) : 0 < gd h b := by
  have : 0 < Nat.gcd h.natAbs b.natAbs := Nat.gcd_pos_of_pos_right _ (by omega)
  unfold gd; omega
theorem gd_dvd_l (h b : Int) : gd h b ∣ h := by
  unfold gd
  exact Int.ofNat_dvd_left.mpr (Nat.gcd_dvd_left _ _)
theorem gd_dvd_r (h b : Int) : gd h b ∣ b := by
  unfold gd
  exact Int.ofNat_dvd_left.mpr (Nat.gcd_dvd_right _ _)
theorem gd_le {h b : Int} (hb : b ≠ 0) : (gd h b).natAbs ≤ b.natAbs := by
  have := Nat.gcd_le_right h.natAbs (show 0 < b.natAbs by omega)
  unfold gd; omega
theorem sg_sq (b : Int) : sg b * sg b = 1 := by unfold sg; split <;> rfl
theorem sg_mul {b : Int} (hb : b ≠ 0) : 0 < sg b * b := by unfold sg; split <;> omega
theorem natAbs_sg (b x : Int) : (sg b * x).natAbs = x.natAbs := by unfold sg; split <;> simp
theorem lowT_mul {h b : Int} : lowT h b * gd h b = sg b * h := by
  unfold lowT
  exact Int.ediv_mul_cancel (Int.dvd_mul_of_dvd_right (gd_dvd_l h b))
theorem lowB_mul {h b : Int} : lowB h b * gd h b = sg b * b := by
  unfold lowB
  exact Int.ediv_mul_cancel (Int.dvd_mul_of_dvd_right (gd_dvd_r h b))
theorem low_pos {h b : Int} (hb : b ≠ 0) : 0 < lowB h b := by
  have h1 := gd_pos (h := h) hb
  have h2 := sg_mul hb
  rw [← lowB_mul (h := h)] at h2
  exact Int.pos_of_mul_pos_left h2 (by omega)
theorem low_cop {h b : Int} (hb : b ≠ 0) : Nat.gcd (lowT h b).natAbs (lowB h b).natAbs = 1 := by
  have hp := gd_pos (h := h) hb
  have e1 : (lowT h b).natAbs * (gd h b).natAbs = h.natAbs := by rw [← Int.natAbs_mul, lowT_mul, natAbs_sg]
  have e2 : (lowB h b).natAbs * (gd h b).natAbs = b.natAbs := by rw [← Int.natAbs_mul, lowB_mul, natAbs_sg]
  have g : Nat.gcd ((lowT h b).natAbs * (gd h b).natAbs) ((lowB h b).natAbs * (gd h b).natAbs) = (gd h b).natAbs := by
    rw [e1, e2]; unfold gd; simp
  rw [Nat.gcd_mul_right] at g
  have hp' : 0 < (gd h b).natAbs := by omega
  exact Nat.eq_of_mul_eq_mul_right hp' (by rw [g, Nat.one_mul])
theorem low_eq {h b : Int} (hb : b ≠ 0) : lowT h b * b = h * lowB h b := by
  have hp := gd_pos (h := h) hb
  have e1 := lowT_mul (h := h) (b := b)
  have e2 := lowB_mul (h := h) (b := b)
  have : (lowT h b * b) * gd h b = (h * lowB h b) * gd h b := by
    calc (lowT h b * b) * gd h b = (lowT h b * gd h b) * b := by rw [Int.mul_right_comm]
      _ = (sg b * h) * b := by rw [e1]
      _ = h * (sg b * b) := by rw [Int.mul_comm (sg b) h, Int.mul_assoc]
      _ = h * (lowB h b * gd h b) := by rw [e2]
      _ = (h * lowB h b) * gd h b := by rw [Int.mul_assoc]
  exact Int.eq_of_mul_eq_mul_right (by omega) this
theorem uniq {t b u c : Int} (hb : 0 < b) (hc : 0 < c) (h1 : Nat.gcd t.natAbs b.natAbs = 1) (h2 : Nat.gcd u.natAbs c.natAbs = 1) (e : t * c = u * b) : t = u ∧ b = c := by
  have en : t.natAbs * c.natAbs = u.natAbs * b.natAbs := by rw [← Int.natAbs_mul, ← Int.natAbs_mul, e]
  have d1 : b.natAbs ∣ c.natAbs := by
    have : b.natAbs ∣ t.natAbs * c.natAbs := ⟨u.natAbs, by rw [en, Nat.mul_comm]⟩
    exact Nat.Coprime.dvd_of_dvd_mul_left (show Nat.Coprime b.natAbs t.natAbs by unfold Nat.Coprime; rw [Nat.gcd_comm]; exact h1) this
  have d2 : c.natAbs ∣ b.natAbs := by
    have : c.natAbs ∣ u.natAbs * b.natAbs := ⟨t.natAbs, by rw [← en, Nat.mul_comm]⟩
    exact Nat.Coprime.dvd_of_dvd_mul_left (show Nat.Coprime c.natAbs u.natAbs by unfold Nat.Coprime; rw [Nat.gcd_comm]; exact h2) this
  have ebc : b.natAbs = c.natAbs := Nat.dvd_antisymm d1 d2
  have bc : b = c := by omega
  subst bc
  exact ⟨Int.eq_of_mul_eq_mul_right (by omega) e, rfl⟩
theorem low_of {h b t c : Int} (hb : b ≠ 0) (hc : 0 < c) (h1 : Nat.gcd t.natAbs c.natAbs = 1) (e : t * b = h * c) : lowT h b = t ∧ lowB h b = c := by
  have l := low_eq (h := h) hb
  refine uniq (low_pos hb) hc (low_cop hb) h1 ?_
  have : (lowT h b * c) * b = (t * lowB h b) * b := by
    calc (lowT h b * c) * b = (lowT h b * b) * c := by rw [Int.mul_right_comm]
      _ = h * lowB h b * c := by rw [l]
      _ = (h * c) * lowB h b := by rw [Int.mul_right_comm]
      _ = (t * b) * lowB h b := by rw [e]
      _ = (t * lowB h b) * b := by rw [Int.mul_right_comm]
  exact Int.eq_of_mul_eq_mul_right hb this
theorem low_red {t b : Int} (hb : 0 < b) (h1 : Nat.gcd t.natAbs b.natAbs = 1) : lowT t b = t ∧ lowB t b = b := low_of (by omega) hb h1 rfl
theorem low_mul {h b m : Int} (hb : b ≠ 0) (hm : m ≠ 0) : lowT (h * m) (b * m) = lowT h b ∧ lowB (h * m) (b * m) = lowB h b := by
  refine low_of (Int.mul_ne_zero hb hm) (low_pos hb) (low_cop hb) ?_
  rw [← Int.mul_assoc, low_eq hb, Int.mul_right_comm]
theorem natAbs_le_of_mul {x g y : Int} (hg : 0 < g) (e : x * g = y) : x.natAbs ≤ y.natAbs := by
  rw [← e, Int.natAbs_mul]
  exact Nat.le_mul_of_pos_right _ (by omega)
theorem lowT_le {h b : Int} (hb : b ≠ 0) : (lowT h b).natAbs ≤ h.natAbs := by
  have := natAbs_le_of_mul (gd_pos (h := h) hb) (lowT_mul (h := h) (b := b))
  rwa [natAbs_sg] at this
theorem lowB_le {h b : Int} (hb : b ≠ 0) : (lowB h b).natAbs ≤ b.natAbs := by
  have := natAbs_le_of_mul (gd_pos (h := h) hb) (lowB_mul (h := h) (b := b))
  rwa [natAbs_sg] at this
/-- what __init__ divides by -/
def shr (h b : Int) : Int := if b < 0 then -(gd h b) else gd h b
theorem shr_eq (h b : Int) : shr h b = sg b * gd h b := by unfold shr sg; split <;> simp
theorem fdiv_of {x y z : Int} (hy : y ≠ 0) (e : x = z * y) : x.fdiv y = z := by
  rw [e]
  exact Int.mul_fdiv_cancel _ hy
theorem init_top {h b : Int} (hb : b ≠ 0) : h.fdiv (shr h b) = lowT h b := by
  have hp := gd_pos (h := h) hb
  refine fdiv_of (by rw [shr_eq]; unfold sg; split <;> omega) ?_
  rw [shr_eq, Int.mul_comm (sg b), ← Int.mul_assoc, lowT_mul, Int.mul_right_comm, sg_sq, Int.one_mul]
theorem init_bot {h b : Int} (hb : b ≠ 0) : b.fdiv (shr h b) = lowB h b := by
  have hp := gd_pos (h := h) hb
  refine fdiv_of (by rw [shr_eq]; unfold sg; split <;> omega) ?_
  rw [shr_eq, Int.mul_comm (sg b), ← Int.mul_assoc, lowB_mul, Int.mul_right_comm, sg_sq, Int.one_mul]
theorem shr_ne {h b : Int} (hb : b ≠ 0) : shr h b ≠ 0 := by
  have hp := gd_pos (h := h) hb
  rw [shr_eq]; unfold sg; split <;> omega
theorem shr_le {h b : Int} (hb : b ≠ 0) : (shr h b).natAbs ≤ b.natAbs := by
  rw [shr_eq, natAbs_sg]; exact gd_le hb
end NumM

/-! The texts of ints and fractions, as lists of codes. -/
namespace NumT
open PySem PySem.Spec PyProof.Rows L2 SX
open TL (numL)
def iL (z : Int) : List Nat := if z < 0 then 45 :: numL z.natAbs else numL z.natAbs
theorem toS (z : Int) : ((toString z : String) : Str) = S (iL z) := by
  unfold iL
  by_cases h : z < 0
  · rw [if_pos h]
    obtain ⟨n, rfl⟩ : ∃ n : Nat, z = -((n : Nat) : Int) := ⟨z.natAbs, by omega⟩
    have hn : 0 < n := by omega
    obtain ⟨m, rfl⟩ : ∃ m, n = m + 1 := ⟨n - 1, by omega⟩
    have e : (toString (-(((m + 1 : Nat)) : Int)) : String) = "-" ++ toString (((m + 1 : Nat) : Nat) : Int) := rfl
    have e2 : ((-(((m + 1 : Nat)) : Int)).natAbs) = m + 1 := by omega
    rw [e2]
    show Str.ofString (toString (-(((m + 1 : Nat)) : Int))) = _
    rw [e]
    have e3 := TL.tl_num (m + 1)
    refine TL.ext_tl ?_
    show (Str.ofString ("-" ++ toString (((m + 1 : Nat)) : Int))).cps.toList = _
    have e4 : (Str.ofString ("-" ++ toString (((m + 1 : Nat)) : Int))).cps.toList = 45 :: (Str.ofString (toString (((m + 1 : Nat)) : Int))).cps.toList := by
      simp [Str.ofString]
      rfl
    rw [e4]
    exact congrArg (45 :: ·) e3
  · rw [if_neg h]
    obtain ⟨n, rfl⟩ : ∃ n : Nat, z = ((n : Nat) : Int) := ⟨z.natAbs, by omega⟩
    exact num_S n
theorem iL_free {z : Int} : 47 ∉ iL z := by
  unfold iL
  split
  · intro h
    rcases List.mem_cons.mp h with h | h
    · cases h
    · exact TL.numL_free (by decide) h
  · exact TL.numL_free (by decide)
theorem numL_all (n : Nat) : NumText.AllDigits (numL n) := TL.numL_digits n
theorem pre_one {c d : Nat} {r : List Nat} : TL.pre [c] (d :: r) = decide (c = d) := by
  by_cases h : c = d
  · rw [decide_eq_true h]
    subst h
    simp [TL.pre]
  · rw [decide_eq_false h]
    have h2 : ¬ d = c := fun e => h e.symm
    simp [TL.pre, h, h2]
theorem par_none (c : Nat) : ∀ (a acc : List Nat), c ∉ a → TL.par [c] acc a = none
  | [], _, _ => rfl
  | d :: r, acc, h => by
    have hd : ¬ c = d := fun e => h (by rw [e]; exact List.mem_cons_self)
    show (if TL.pre [c] (d :: r) = true then _ else _) = _
    rw [pre_one, decide_eq_false hd, if_neg Bool.false_ne_true]
    exact par_none c r _ fun z => h (List.mem_cons_of_mem _ z)
theorem par_some (c : Nat) (q : List Nat) : ∀ (a acc : List Nat), c ∉ a → TL.par [c] acc (a ++ c :: q) = some (acc ++ a, q)
  | [], acc, _ => by
    show (if TL.pre [c] (c :: q) = true then _ else _) = _
    rw [pre_one, decide_eq_true rfl, if_pos rfl]
    simp
  | d :: r, acc, h => by
    have hd : ¬ c = d := fun e => h (by rw [e]; exact List.mem_cons_self)
    rw [List.cons_append]
    show (if TL.pre [c] (d :: (r ++ c :: q)) = true then _ else TL.par [c] (acc ++ [d]) (r ++ c :: q)) = _
    rw [pre_one, decide_eq_false hd, if_neg Bool.false_ne_true, par_some c q r _ fun z => h (List.mem_cons_of_mem _ z)]
    simp
theorem part_none {a : List Nat} (h : 47 ∉ a) : Txt.partition (S a) (S [47]) = (S a, S [], S []) := partition_none (by simp) (par_none 47 a [] h)
theorem part_some {a q : List Nat} (h : 47 ∉ a) : Txt.partition (S (a ++ 47 :: q)) (S [47]) = (S a, S [47], S q) := partition_some (by simp) (par_some 47 q a [] h)
theorem slash_S : ("/" : Str) = S [47] := by decide +kernel
theorem minus_S : ("-" : Str) = S [45] := by decide +kernel
/-- digits, and at least one -/
def dig (a : List Nat) : Bool := !a.isEmpty && a.all (fun c => decide (48 ≤ c) && decide (c ≤ 57))
theorem ascii_S (a : List Nat) : Txt.isascii (S a) = a.all (fun c => decide (c < 128)) := by
  show (S a).cps.all (· < 128) = _
  rw [← Array.all_toList]
theorem digit_S {a : List Nat} (h : a.all (fun c => decide (c < 128)) = true) : Txt.isdigit (S a) = dig a := by
  have e : Txt.isdigit (S a) = (decide ((S a).length > 0) && (S a).cps.all Unicode.isDigit) := rfl
  rw [e, ← Array.all_toList, S_len]
  show (decide (a.length > 0) && a.all Unicode.isDigit) = _
  unfold dig
  have e1 : decide (a.length > 0) = !a.isEmpty := by cases a <;> simp
  rw [e1]
  congr 1
  have hall : ∀ c ∈ a, c < 128 := fun c hc => of_decide_eq_true (List.all_eq_true.mp h c hc)
  clear h e e1
  induction a with
  | nil => rfl
  | cons c r ih =>
    have k : ∀ n : _root_.Fin 128, Unicode.isDigit n.val = (decide (48 ≤ n.val) && decide (n.val ≤ 57)) := by decide +kernel
    rw [List.all_cons, List.all_cons, ih fun d hd => hall d (List.mem_cons_of_mem _ hd), k ⟨c, hall c List.mem_cons_self⟩]
/-- isascii and isdigit together -/
theorem both_S (a : List Nat) : (Txt.isascii (S a) && Txt.isdigit (S a)) = dig a := by
  rw [ascii_S]
  cases h : a.all (fun c => decide (c < 128)) with
  | true => rw [Bool.true_and]; exact digit_S h
  | false =>
    rw [Bool.false_and]
    cases q : dig a with
    | false => rfl
    | true =>
      unfold dig at q
      have q2 := (Bool.and_eq_true_iff.mp q).2
      have : a.all (fun c => decide (c < 128)) = true := List.all_eq_true.mpr fun c hc => by
        have z := List.all_eq_true.mp q2 c hc
        rw [Bool.and_eq_true, decide_eq_true_eq, decide_eq_true_eq] at z
        exact decide_eq_true (by omega)
      rw [this] at h
      exact nomatch h
theorem dig_num (n : Nat) : dig (numL n) = true := by
  unfold dig
  have h1 := TL.numL_ne n
  have h2 := numL_all n
  rw [Bool.and_eq_true]
  refine ⟨by cases e : numL n with
    | nil => exact absurd e h1
    | cons => rfl, List.all_eq_true.mpr fun c hc => ?_⟩
  have := h2 c hc
  rw [Bool.and_eq_true, decide_eq_true_eq, decide_eq_true_eq]
  exact this
theorem dig_all {a : List Nat} (h : dig a = true) : NumText.AllDigits a ∧ a ≠ [] := by
  unfold dig at h
  obtain ⟨h1, h2⟩ := Bool.and_eq_true_iff.mp h
  refine ⟨fun c hc => ?_, by rintro rfl; exact nomatch h1⟩
  have z := List.all_eq_true.mp h2 c hc
  rw [Bool.and_eq_true, decide_eq_true_eq, decide_eq_true_eq] at z
  exact z
/-- removeprefix('-') -/
def unsig : List Nat → List Nat
  | 45 :: r => r
  | a => a
theorem rmp_S (a : List Nat) (ha : a ≠ [45]) : Txt.removeprefix (S a) (S [45]) = S (unsig a) := by
  rw [StrLaws.removeprefix_eq]
  have e : ∀ l : List Nat, Builtin.Str.subAt (S l) (S [45]) 0 = (match l with
    | c :: _ => decide (45 = c)
    | [] => false) := fun l => by
    rw [StrLaws.subAt_eq]
    cases l with
    | nil => decide +kernel
    | cons c r =>
      show (((c :: r).drop 0).take 1 == [45]) = _
      simp [eq_comm]
      try rfl
  cases a with
  | nil => decide +kernel
  | cons c r =>
    rw [e (c :: r)]
    have hl : decide (0 + (S [45]).length ≤ (S (c :: r)).length) = true := by
      rw [S_len, S_len]
      simp
    rw [hl, Bool.true_and]
    by_cases h : 45 = c
    · subst h
      show (if decide ((45 : Nat) = 45) = true then _ else _) = _
      rw [if_pos (by decide)]
      refine TL.ext_tl ?_
      show (((45 :: r).drop (S [45]).length).take ((S (45 :: r)).length - (S [45]).length)) = r
      rw [S_len, S_len]
      simp
    · have hu : unsig (c :: r) = c :: r := by
        unfold unsig
        split
        · rename_i z
          have := (List.cons.inj z).1
          exact absurd this.symm h
        · rfl
      show (if decide (45 = c) = true then _ else _) = _
      rw [decide_eq_false h, if_neg Bool.false_ne_true, hu]
theorem unsig_i (z : Int) : unsig (iL z) = numL z.natAbs := by
  unfold iL
  split
  · rfl
  · have h := numL_all z.natAbs
    cases e : numL z.natAbs with
    | nil => rfl
    | cons c r =>
      have := h c (by rw [e]; exact List.mem_cons_self)
      unfold unsig
      split
      · rename_i z
        have := (List.cons.inj z).1
        omega
      · rfl
theorem iL_ne45 (z : Int) : iL z ≠ [45] := fun h => by
  have e := unsig_i z
  rw [h] at e
  exact TL.numL_ne _ e.symm
theorem num_len {n : Nat} (h : n < 2 ^ 1000) : (numL n).length ≤ 302 := TL.numL_len (by decide) (Nat.lt_of_lt_of_le h (by decide +kernel))
theorem i_len {z : Int} (h : z.natAbs < 2 ^ 1000) : (iL z).length ≤ 303 := by
  unfold iL
  have := num_len h
  split
  · rw [List.length_cons]; omega
  · omega
theorem int_i {z : Int} (h : z.natAbs < 2 ^ 1000) : intText? (S (iL z)) = some z := by
  have hl := num_len h
  unfold iL
  split
  · rename_i hz
    have e := PySem.intText_neg (x := S (45 :: numL z.natAbs)) (cs := numL z.natAbs) rfl (numL_all _) (TL.numL_ne _) (by rw [S_len, List.length_cons]; omega)
    rw [TL.numL_val] at e
    rw [e]
    congr 1
    omega
  · rename_i hz
    have e := PySem.intText_digits (x := S (numL z.natAbs)) (numL_all _) (TL.numL_ne _) (by rw [S_len]; omega)
    have e2 : (S (numL z.natAbs)).cps.toList = numL z.natAbs := rfl
    rw [e2, TL.numL_val] at e
    rw [e]
    congr 1
    omega
/-- the text of a fraction -/
def fL (t b : Int) : List Nat := if b = 1 then iL t else iL t ++ 47 :: iL b
theorem iL_inj {x y : Int} (h : iL x = iL y) : x = y := by
  have hu := congrArg unsig h
  rw [unsig_i, unsig_i] at hu
  have e := TL.numL_inj hu
  by_cases hx : x < 0 <;> by_cases hy : y < 0
  · omega
  · exfalso
    unfold iL at h
    rw [if_pos hx, if_neg hy] at h
    have := numL_all y.natAbs 45 (by rw [← h]; exact List.mem_cons_self)
    omega
  · exfalso
    unfold iL at h
    rw [if_neg hx, if_pos hy] at h
    have := numL_all x.natAbs 45 (by rw [h]; exact List.mem_cons_self)
    omega
  · omega
theorem f_len {t b : Int} (h1 : t.natAbs < 2 ^ 1000) (h2 : b.natAbs < 2 ^ 1000) : (fL t b).length ≤ 610 := by
  have a := i_len h1
  have c := i_len h2
  unfold fL
  split
  · omega
  · rw [List.length_append, List.length_cons]; omega
theorem fL_inj {t b u c : Int} (h : fL t b = fL u c) : t = u ∧ b = c := by
  unfold fL at h
  by_cases hb : b = 1 <;> by_cases hc : c = 1
  · rw [if_pos hb, if_pos hc] at h
    exact ⟨iL_inj h, by omega⟩
  · rw [if_pos hb, if_neg hc] at h
    exact absurd (by rw [h]; simp) (iL_free (z := t))
  · rw [if_neg hb, if_pos hc] at h
    exact absurd (by rw [← h]; simp) (iL_free (z := u))
  · rw [if_neg hb, if_neg hc] at h
    have p1 := par_some 47 (iL b) (iL t) [] iL_free
    have p2 := par_some 47 (iL c) (iL u) [] iL_free
    rw [h, p2] at p1
    have := Prod.mk.inj (Option.some.inj p1)
    exact ⟨(iL_inj this.1).symm, (iL_inj this.2).symm⟩
end NumT

/-! Any text, as what a reader of fractions finds in it. -/
namespace NumT
open PySem PySem.Spec PyProof.Rows L2 SX
open TL (numL)
theorem rmp_all (a : List Nat) : Txt.removeprefix (S a) (S [45]) = S (unsig a) := by
  by_cases h : a = [45]
  · subst h
    decide +kernel
  · exact rmp_S a h
/-- the parts of a text at its first slash -/
def cut : List Nat → List Nat × Option (List Nat)
  | [] => ([], none)
  | c :: r => if c = 47 then ([], some r) else ((c :: (cut r).1), (cut r).2)
theorem cut_free : ∀ a : List Nat, 47 ∉ (cut a).1
  | [] => by simp [cut]
  | c :: r => by
    unfold cut
    split
    · simp
    · rename_i h
      intro z
      rcases List.mem_cons.mp z with z | z
      · exact h z.symm
      · exact cut_free r z
theorem cut_eq : ∀ a : List Nat, a = (match (cut a).2 with | none => (cut a).1 | some q => (cut a).1 ++ 47 :: q)
  | [] => rfl
  | c :: r => by
    have ih := cut_eq r
    by_cases h : c = 47
    · have e : cut (c :: r) = ([], some r) := by
        show (if c = 47 then _ else _) = _
        rw [if_pos h]
      rw [e, h]
      rfl
    · have e : cut (c :: r) = (c :: (cut r).1, (cut r).2) := by
        show (if c = 47 then _ else _) = _
        rw [if_neg h]
      rw [e]
      dsimp only
      cases e2 : (cut r).2 with
      | none =>
        rw [e2] at ih
        dsimp only at ih ⊢
        rw [← ih]
      | some q =>
        rw [e2] at ih
        dsimp only at ih ⊢
        rw [List.cons_append, ← ih]
theorem part_cut (a : List Nat) : Txt.partition (S a) (S [47]) = (match (cut a).2 with | none => (S (cut a).1, S [], S []) | some q => (S (cut a).1, S [47], S q)) := by
  have e := cut_eq a
  cases h : (cut a).2 with
  | none =>
    rw [h] at e
    dsimp only at e ⊢
    have f := cut_free a
    rw [← e] at f ⊢
    exact part_none f
  | some q =>
    rw [h] at e
    dsimp only at e ⊢
    conv => lhs; rw [e]
    exact part_some (cut_free a)
theorem cut_len (a : List Nat) : (cut a).1.length ≤ a.length ∧ ∀ q, (cut a).2 = some q → q.length ≤ a.length := by
  have e := cut_eq a
  cases h : (cut a).2 with
  | none =>
    rw [h] at e
    dsimp only at e
    exact ⟨by rw [← e]; exact Nat.le_refl _, fun q z => nomatch z⟩
  | some q =>
    rw [h] at e
    dsimp only at e
    have l := congrArg List.length e
    rw [List.length_append, List.length_cons] at l
    exact ⟨by omega, fun q' z => by cases z; omega⟩
/-- the value of a text of digits -/
def dval (a : List Nat) : Nat := NumText.digitsVal a
/-- the integer of a text of digits, a sign perhaps ahead -/
def sval : List Nat → Int
  | 45 :: r => -((dval r : Nat) : Int)
  | a => ((dval a : Nat) : Int)
theorem int_dig {a : List Nat} (h : dig a = true) (hl : a.length ≤ 4000) : intText? (S a) = some ((dval a : Nat) : Int) := by
  obtain ⟨h1, h2⟩ := dig_all h
  exact PySem.intText_digits (x := S a) h1 h2 (by rw [S_len]; omega)
theorem int_sig {a : List Nat} (h : dig (unsig a) = true) (hl : a.length ≤ 4000) : intText? (S a) = some (sval a) := by
  unfold sval
  split
  · rename_i r
    obtain ⟨h1, h2⟩ := dig_all (a := r) h
    exact PySem.intText_neg (x := S (45 :: r)) (cs := r) rfl h1 h2 (by rw [S_len]; omega)
  · rename_i hn
    have e : unsig a = a := by
      unfold unsig
      split
      · rename_i r
        exact absurd rfl (hn r)
      · rfl
    rw [e] at h
    exact int_dig h hl
/-- what the reader of a text finds: a fraction, in lowest terms or not -/
def look (a : List Nat) : Option (Int × Int) :=
  let q := ((cut a).2).getD [49]
  if dig (unsig (cut a).1) = true ∧ dig q = true ∧ dval q ≠ 0 then some (sval (cut a).1, ((dval q : Nat) : Int)) else none
theorem fold_lt : ∀ (a : List Nat) (x : Nat), NumText.AllDigits a → a.foldl (fun acc c => acc * 10 + (c - 48)) x < (x + 1) * 10 ^ a.length
  | [], x, _ => by simp
  | c :: r, x, h => by
    have hc := h c List.mem_cons_self
    have ih := fold_lt r (x * 10 + (c - 48)) fun d hd => h d (List.mem_cons_of_mem _ hd)
    rw [List.foldl_cons, List.length_cons, Nat.pow_succ]
    have : x * 10 + (c - 48) + 1 ≤ (x + 1) * 10 := by omega
    calc _ < _ := ih
      _ ≤ (x + 1) * 10 * 10 ^ r.length := Nat.mul_le_mul_right _ this
      _ = _ := by rw [Nat.mul_assoc, Nat.mul_comm 10]
theorem dval_lt {a : List Nat} (h : dig a = true) (hl : a.length ≤ 300) : dval a < 2 ^ 1000 := by
  have f := fold_lt a 0 (dig_all h).1
  have k : (10 : Nat) ^ 300 < 2 ^ 1000 := by decide +kernel
  have m : (10 : Nat) ^ a.length ≤ 10 ^ 300 := Nat.pow_le_pow_right (by decide) hl
  show a.foldl _ 0 < _
  omega
/-- the text of the value of digits: the digits themselves, but for zeros ahead -/
def canon : List Nat → Bool
  | [] => false
  | [c] => decide (48 ≤ c) && decide (c ≤ 57)
  | c :: r => decide (49 ≤ c) && decide (c ≤ 57) && r.all (fun c => decide (48 ≤ c) && decide (c ≤ 57))
theorem numL_dval {a : List Nat} (h : canon a = true) : dig a = true ∧ numL (dval a) = a := by
  have hd : dig a = true := by
    match a, h with
    | [c], h =>
      unfold dig
      unfold canon at h
      simpa using h
    | c :: d :: r, h =>
      unfold dig
      unfold canon at h
      simp only [Bool.and_eq_true, decide_eq_true_eq, List.all_cons, List.isEmpty_cons, Bool.not_false] at h ⊢
      refine ⟨trivial, ⟨by omega, h.1.2⟩, h.2⟩
  refine ⟨hd, ?_⟩
  obtain ⟨h1, h2⟩ := dig_all hd
  obtain ⟨n, hn⟩ : ∃ n, a.length = n + 1 := ⟨a.length - 1, by cases a with
    | nil => exact absurd rfl h2
    | cons => simp⟩
  have e := NumText.toDigits_digitsVal n a hn h1 (by
    match a, h, hn with
    | [c], h, hn => exact .inl (by simpa using hn.symm)
    | c :: d :: r, h, hn =>
      unfold canon at h
      simp only [Bool.and_eq_true, decide_eq_true_eq] at h
      exact .inr ⟨c, d :: r, rfl, h.1.1⟩)
  show (Nat.toDigits 10 (NumText.digitsVal a)).map Char.toNat = a
  rw [e, List.map_map]
  refine (List.map_congr_left fun c hc => ?_).trans (List.map_id a)
  have := h1 c hc
  show (Char.ofNat c).toNat = c
  have k : ∀ n : _root_.Fin 128, (Char.ofNat n.val).toNat = n.val := by decide +kernel
  exact k ⟨c, by omega⟩
theorem num_head : ∀ n : Nat, 0 < n → ∃ c r, numL n = c :: r ∧ 49 ≤ c := fun n => by
  induction n using Nat.strongRecOn with
  | _ n ih =>
    intro hn
    by_cases h : n < 10
    · exact ⟨48 + n, [], TL.numL_lt h, by omega⟩
    · obtain ⟨c, r, e, hc⟩ := ih (n / 10) (by omega) (by omega)
      exact ⟨c, r ++ [48 + n % 10], by rw [TL.numL_step (by omega), e]; rfl, hc⟩
theorem canon_num (n : Nat) : canon (numL n) = true := by
  by_cases h : n < 10
  · rw [TL.numL_lt h]
    unfold canon
    rw [Bool.and_eq_true, decide_eq_true_eq, decide_eq_true_eq]
    omega
  · obtain ⟨c, r, e, hc⟩ := num_head n (by omega)
    have hd := numL_all n
    rw [e] at hd ⊢
    cases r with
    | nil =>
      have := hd c List.mem_cons_self
      unfold canon
      rw [Bool.and_eq_true, decide_eq_true_eq, decide_eq_true_eq]
      exact this
    | cons d r =>
      have := hd c List.mem_cons_self
      unfold canon
      simp only [Bool.and_eq_true, decide_eq_true_eq]
      refine ⟨⟨hc, this.2⟩, List.all_eq_true.mpr fun x hx => ?_⟩
      have := hd x (List.mem_cons_of_mem _ hx)
      rw [Bool.and_eq_true, decide_eq_true_eq, decide_eq_true_eq]
      exact this
theorem dval_num (n : Nat) : dval (numL n) = n := TL.numL_val n
theorem cut_none {a : List Nat} (h : 47 ∉ a) : cut a = (a, none) := by
  induction a with
  | nil => rfl
  | cons c r ih =>
    show (if c = 47 then _ else _) = _
    rw [if_neg fun e => h (by rw [e]; exact List.mem_cons_self), ih fun z => h (List.mem_cons_of_mem _ z)]
theorem cut_some {a q : List Nat} (h : 47 ∉ a) : cut (a ++ 47 :: q) = (a, some q) := by
  induction a with
  | nil => rfl
  | cons c r ih =>
    have e := ih fun z => h (List.mem_cons_of_mem _ z)
    rw [List.cons_append]
    show (if c = 47 then _ else ((c :: (cut (r ++ 47 :: q)).1), (cut (r ++ 47 :: q)).2)) = _
    rw [if_neg fun e => h (by rw [e]; exact List.mem_cons_self), e]
/-- as the law reads -/
def isT (a : List Nat) : Bool := match cut a with
  | (p, none) => canon (unsig p) && decide (p ≠ [45, 48])
  | (p, some q) => canon (unsig p) && (canon q && (decide (1 < dval q) && decide (Nat.gcd (dval (unsig p)) (dval q) = 1)))
theorem sval_num {a : List Nat} (h : canon (unsig a) = true) (h0 : a ≠ [45, 48]) : iL (sval a) = a ∧ (sval a).natAbs = dval (unsig a) := by
  obtain ⟨hd, e⟩ := numL_dval h
  unfold sval
  split
  · rename_i r
    have e' : numL (dval r) = r := e
    have hn : dval r ≠ 0 := fun z => h0 (by
      rw [z] at e'
      have : numL 0 = [48] := TL.numL_lt (by decide)
      rw [this] at e'
      rw [← e'])
    constructor
    · unfold iL
      rw [if_pos (by omega)]
      have : (-((dval r : Nat) : Int)).natAbs = dval r := by omega
      rw [this, e']
    · show (-((dval r : Nat) : Int)).natAbs = dval r
      omega
  · rename_i hn
    have e2 : unsig a = a := by
      unfold unsig
      split
      · rename_i r
        exact absurd rfl (hn r)
      · rfl
    rw [e2] at e ⊢
    constructor
    · unfold iL
      rw [if_neg (by omega)]
      have : (((dval a : Nat) : Int)).natAbs = dval a := by omega
      rw [this, e]
    · omega
theorem isT_iff (a : List Nat) : isT a = true ↔ ∃ t b : Int, a = fL t b ∧ 0 < b ∧ Nat.gcd t.natAbs b.natAbs = 1 := by
  constructor
  · intro h
    have ce := cut_eq a
    unfold isT at h
    split at h
    · rename_i p e
      rw [e] at ce
      dsimp only at ce
      rw [Bool.and_eq_true, decide_eq_true_eq] at h
      obtain ⟨i1, i2⟩ := sval_num h.1 h.2
      exact ⟨sval p, 1, by unfold fL; rw [if_pos rfl, i1, ce], by decide, by simp⟩
    · rename_i p q e
      rw [e] at ce
      dsimp only at ce
      simp only [Bool.and_eq_true, decide_eq_true_eq] at h
      obtain ⟨h1, h2, h3, h4⟩ := h
      have np : p ≠ [45, 48] := fun z => by
        rw [z] at h4
        have : dval (unsig [45, 48]) = 0 := by decide +kernel
        rw [this, Nat.gcd_zero_left] at h4
        omega
      obtain ⟨i1, i2⟩ := sval_num h1 np
      obtain ⟨_, j⟩ := numL_dval h2
      have hq : iL ((dval q : Nat) : Int) = q := by
        unfold iL
        rw [if_neg (by omega)]
        exact j
      refine ⟨sval p, ((dval q : Nat) : Int), ?_, by omega, ?_⟩
      · unfold fL
        rw [if_neg (by omega), i1, hq]
        exact ce
      · rw [i2]
        exact h4
  · rintro ⟨t, b, rfl, hb, hg⟩
    unfold fL
    by_cases e : b = 1
    · rw [if_pos e]
      unfold isT
      rw [cut_none iL_free]
      dsimp only
      rw [Bool.and_eq_true, decide_eq_true_eq, unsig_i]
      refine ⟨canon_num _, fun z => ?_⟩
      have u := congrArg unsig z
      rw [unsig_i] at u
      have n0 : numL 0 = [48] := TL.numL_lt (by decide)
      have t0 : t.natAbs = 0 := TL.numL_inj (u.trans n0.symm)
      have : t = 0 := by omega
      rw [this] at z
      exact absurd z (by decide +kernel)
    · rw [if_neg e]
      unfold isT
      rw [cut_some iL_free]
      dsimp only
      have hbi : iL b = numL b.natAbs := by unfold iL; rw [if_neg (by omega)]
      rw [hbi, unsig_i]
      simp only [Bool.and_eq_true, decide_eq_true_eq]
      exact ⟨canon_num _, canon_num _, by rw [dval_num]; omega, by rw [dval_num, dval_num]; exact hg⟩
/-- a text of a number in lowest terms is found as that -/
theorem look_f {t b : Int} (hb : 0 < b) : look (fL t b) = some (t, b) := by
  have sv : sval (iL t) = t := by
    unfold iL
    split
    · show -((dval (numL t.natAbs) : Nat) : Int) = t
      rw [dval_num]
      omega
    · have h := numL_all t.natAbs
      unfold sval
      split
      · rename_i z
        have := h 45 (by rw [z]; exact List.mem_cons_self)
        omega
      · rw [dval_num]
        omega
  unfold look fL
  by_cases e : b = 1
  · rw [if_pos e, cut_none iL_free]
    dsimp only [Option.getD]
    rw [unsig_i, if_pos ⟨dig_num _, by decide +kernel, by decide +kernel⟩, sv, e]
    rfl
  · rw [if_neg e, cut_some iL_free]
    dsimp only [Option.getD]
    have hbi : iL b = numL b.natAbs := by unfold iL; rw [if_neg (by omega)]
    rw [unsig_i, hbi, dval_num, if_pos ⟨dig_num _, dig_num _, by omega⟩, sv]
    congr 2
    omega
open NumM in
/-- what is found and written again in lowest terms is the text exactly if it was one -/
theorem look_iff (a : List Nat) : (∃ h d, look a = some (h, d) ∧ fL (lowT h d) (lowB h d) = a) ↔ isT a = true := by
  rw [isT_iff]
  constructor
  · rintro ⟨h, d, e, z⟩
    have hd : d ≠ 0 := by
      unfold look at e
      dsimp only at e
      split at e
      · rename_i c
        cases e
        intro z
        exact c.2.2 (by omega)
      · exact nomatch e
    exact ⟨_, _, z.symm, low_pos hd, low_cop hd⟩
  · rintro ⟨t, b, rfl, hb, hg⟩
    have low := low_red (t := t) hb hg
    exact ⟨t, b, look_f hb, by rw [low.1, low.2]⟩
end NumT

namespace Hk
open PySem PySem.Spec PyProof.Rows L2 NumM NumT SX
/-- codes below 128 -/
def Asc (x : Str) : Prop := ∀ c ∈ x.cps.toList, c < 128
theorem Asc.app {x y : Str} (h : Asc x) (g : Asc y) : Asc (x ++ y) := fun c hc => by
  rw [show (x ++ y).cps.toList = x.cps.toList ++ y.cps.toList from TL.tl_append x y] at hc
  rcases List.mem_append.mp hc with z | z
  · exact h c z
  · exact g c z
theorem Asc.ok {x : Str} (h : Asc x) : PyData.strOk x = true := by
  unfold PyData.strOk
  rw [← Array.all_toList, List.all_eq_true]
  intro c hc
  have := h c hc
  exact decide_eq_true (by omega)
theorem char_asc (q c : Nat) (hq : q = 39 ∨ q = 34) (hc : c < 128) : ∀ d ∈ Builtin.Str.reprChar q c, d < 128 := by
  have k : ∀ n : _root_.Fin 128, ((Builtin.Str.reprChar 39 n.val).all (fun d => decide (d < 128)) && (Builtin.Str.reprChar 34 n.val).all (fun d => decide (d < 128))) = true := by decide +kernel
  have h := k ⟨c, hc⟩
  obtain ⟨h1, h2⟩ := Bool.and_eq_true_iff.mp h
  intro d hd
  rcases hq with rfl | rfl
  · exact of_decide_eq_true (List.all_eq_true.mp h1 d hd)
  · exact of_decide_eq_true (List.all_eq_true.mp h2 d hd)
theorem fold_asc (q : Nat) (hq : q = 39 ∨ q = 34) : ∀ (l : List Nat) (acc : Array Nat), (∀ c ∈ l, c < 128) → (∀ c ∈ acc.toList, c < 128) → ∀ c ∈ (l.foldl (fun out c => out ++ (Builtin.Str.reprChar q c).toArray) acc).toList, c < 128
  | [], acc, _, h => h
  | x :: r, acc, hl, h => by
    rw [List.foldl_cons]
    refine fold_asc q hq r _ (fun c hc => hl c (List.mem_cons_of_mem _ hc)) fun c hc => ?_
    rw [Array.toList_append] at hc
    rcases List.mem_append.mp hc with z | z
    · exact h c z
    · exact char_asc q x hq (hl x List.mem_cons_self) c (by simpa using z)
theorem repr_asc {x : Str} (h : Asc x) : Asc (reprText x) := by
  have hq : reprQuote x = 39 ∨ reprQuote x = 34 := by
    unfold reprQuote
    split <;> simp
  intro c hc
  unfold reprText at hc
  rw [Array.toList_push] at hc
  rcases List.mem_append.mp hc with z | z
  · rw [← Array.foldl_toList] at z
    refine fold_asc _ hq x.cps.toList _ h (fun d hd => ?_) c z
    have : d = reprQuote x := by simpa using hd
    rw [this]
    rcases hq with e | e <;> rw [e] <;> decide
  · have : c = reprQuote x := by simpa using z
    rw [this]
    rcases hq with e | e <;> rw [e] <;> decide
theorem lit_asc {x : Str} (h : x.cps.toList.all (fun c => decide (c < 128)) = true) : Asc x := fun c hc => of_decide_eq_true (List.all_eq_true.mp h c hc)
theorem join_asc {s : Str} {ts : List Str} (hs : Asc s) (h : ∀ t ∈ ts, Asc t) : Asc (Str.join s ts) := fun c hc => by
  rcases (mem_join s c ts).mp hc with ⟨t, ht, z⟩ | ⟨_, z⟩
  · exact h t ht c z
  · exact hs c z
theorem S_asc {a : List Nat} (h : ∀ c ∈ a, c < 128) : Asc (S a) := h
theorem int_asc (i : Int) : Asc ((toString i : String) : Str) := by
  rw [toS]
  intro c hc
  have hc : c ∈ iL i := hc
  unfold iL at hc
  split at hc
  · rcases List.mem_cons.mp hc with h | h
    · omega
    · have := numL_all _ c h; omega
  · have := numL_all _ c hc; omega
mutual
/-- all texts in it have codes below 128 -/
def ascD : PyData → Prop
  | .str x => Asc x
  | .list xs => ascDs xs
  | .tuple xs => ascDs xs
  | .dict _ => False
  | _ => True
def ascDs : List PyData → Prop
  | [] => True
  | x :: xs => ascD x ∧ ascDs xs
end
mutual
theorem shown_asc : ∀ d : PyData, ascD d → Asc d.shown
  | .none, _ => lit_asc (by decide +kernel)
  | .bool b, _ => by cases b <;> exact lit_asc (by decide +kernel)
  | .int i, _ => by rw [PyData.shown_int]; exact int_asc i
  | .str x, h => by
    rw [PyData.shown_str]
    simp only [ascD] at h
    exact repr_asc h
  | .list xs, h => by
    simp only [ascD] at h
    rw [PyData.shown_list]
    exact ((lit_asc (by decide +kernel)).app (join_asc (lit_asc (by decide +kernel)) (shownAll_asc xs h))).app (lit_asc (by decide +kernel))
  | .tuple xs, h => by
    simp only [ascD] at h
    rw [PyData.shown_tuple]
    refine ((lit_asc (by decide +kernel)).app (join_asc (lit_asc (by decide +kernel)) (shownAll_asc xs h))).app ?_
    split <;> exact lit_asc (by decide +kernel)
  | .dict _, h => by simp only [ascD] at h
theorem shownAll_asc : ∀ xs : List PyData, ascDs xs → ∀ t ∈ PyData.shownAll xs, Asc t
  | [], _ => by
    rw [PyData.shownAll_nil]
    intro t ht
    exact absurd ht (List.not_mem_nil)
  | x :: xs, h => by
    simp only [ascDs] at h
    rw [PyData.shownAll_cons]
    intro t ht
    rcases List.mem_cons.mp ht with e | e
    · rw [e]; exact shown_asc x h.1
    · exact shownAll_asc xs h.2 t e
end
end Hk

/-! Numbers: what stands at an instance, promises, texts. -/
namespace Hk
open PySem PySem.Spec PyProof.Rows L2 NumM
/-! ### the class Number: data, promises -/
def numF (t b : Int) : List (Str × V) := [("_top", .int t), ("_bottom", .int b)]
theorem ktb : ¬ (("_top" : Str) = "_bottom") := by decide +kernel
theorem numF_eq (t b : Int) : putF "_bottom" (.int b) (putF "_top" (.int t) []) = numF t b := by
  show (if ("_top" : Str) = "_bottom" then [(("_top" : Str), V.int b)] else (("_top" : Str), V.int t) :: putF "_bottom" (V.int b) []) = numF t b
  rw [if_neg ktb]
  rfl
theorem numF_top (t b : Int) : (numF t b).lookup ("_top" : Str) = some (.int t) := by
  rw [← numF_eq, lookup_putF, if_neg ktb, lookup_putF, if_pos rfl]
theorem numF_bot (t b : Int) : (numF t b).lookup ("_bottom" : Str) = some (.int b) := by
  rw [← numF_eq, lookup_putF, if_pos rfl]
/-- a Number in lowest terms stands at p -/
structure NumAt (C : Addr) (H : Hp) (p : Addr) (t b : Int) : Prop where
  at_ : ∃ dx, H p = some (.ins C dx (numF t b))
  pos : 0 < b
  cop : Nat.gcd t.natAbs b.natAbs = 1
theorem NumAt.same {C : Addr} {H H' : Hp} {p : Addr} {t b : Int} (n : NumAt C H p t b) (s : Same H H') : NumAt C H' p t b := by
  obtain ⟨dx, h⟩ := n.at_
  exact ⟨⟨dx, s _ _ h⟩, n.pos, n.cop⟩
/-- sizes: numbers of this many bits -/
abbrev Sz (n : Int) : Prop := n.natAbs < 2 ^ 1000
def spInit (C : Addr) : Sp := fun vs H Q _ => ∃ (p dx : Addr) (h b : Int), vs = [.ref p, .int h, .int b] ∧ H p = some (.ins C dx []) ∧ b ≠ 0 ∧ Sz b ∧ Q .non (upd H p (.ins C dx (numF (lowT h b) (lowB h b))))
/-- a reader of a Number -/
def spGet (C : Addr) (g : Int → Int → V) : Sp := fun vs H Q _ => ∃ (p : Addr) (t b : Int), vs = [.ref p] ∧ NumAt C H p t b ∧ Sz t ∧ Sz b ∧ Q (g t b) H
def sgn (t : Int) : Int := if t = 0 then 0 else if 0 < t then 1 else -1
def txt (t b : Int) : Str := if b = 1 then ((toString t : String) : Str) else ((toString t : String) : Str) ++ ("/" : Str) ++ ((toString b : String) : Str)
/-- __eq__ -/
def spEq (C : Addr) (K : Fr) : Sp := fun vs H Q _ => ∃ (p : Addr) (t b : Int) (y : V), vs = [.ref p, y] ∧ NumAt C H p t b ∧
  ((∃ q u c, y = .ref q ∧ NumAt C H q u c ∧ Q (.bl (decide (t = u) && decide (b = c))) H) ∨ (∃ ty, TyX K H y ty ∧ PySem.W.kitOne K ty (.ref C) = some false ∧ Q (.bl false) H))
def spIsInt : Sp := fun vs H Q _ => ∃ i : Int, vs = [.int i] ∧ Q (.bl true) H
section
variable {X : Cx}
/-- // by any divisor below 2 ^ 9000 -/
def CDivG (_ j : Int) : Prop := j ≠ 0 ∧ j.natAbs.log2 < 9000
theorem op_fdivG : OpR X (binaryOp .FloorDiv) (rI CDivG fun i j => .int (i.fdiv j)) := opI fun _ _ _ _ _ _ _ hc q => floordiv_int hc.1 q (.inl (PyProof.noPylong_of_log2 hc.2))
end
theorem log2_sz {i : Int} (h : Sz i) : i.natAbs.log2 < 1000 := PySem.Flt.log2_lt_of (by decide) h
end Hk
namespace Hk
open PySem PySem.Spec PyProof.Rows L2 NumM NumT SX
theorem empty_S : Str.empty = S [] := by decide +kernel
theorem log2_small {i : Int} (h : Sz i) : i.natAbs.log2 < 1920 := Nat.lt_trans (log2_sz h) (by decide)
theorem line_ge {n : Nat} (h : n ≤ 100000) : n ≤ sizeLine := Nat.le_trans h (by decide)
end Hk
namespace Hk
open PySem PySem.Spec PyProof.Rows L2 NumM NumT SX
/-- a promise about one text -/
def spDigits : Sp := fun vs H Q _ => ∃ a : List Nat, vs = [.str (S a)] ∧ Q (.bl (dig a)) H
end Hk
namespace Hk
open PySem PySem.Spec PyProof.Rows L2 NumM NumT SX
/-- a new Number comes back -/
abbrev NewNum (C : Addr) (H : Hp) (Q : VK) (t b : Int) : Prop := ∀ (H' : Hp) (p : Addr), Same H H' → H p = none → NumAt C H' p t b → Q (.ref p) H'
/-- a text of a fraction in lowest terms is read -/
def spRead (C : Addr) : Sp := fun vs H Q _ => ∃ t b : Int, vs = [.str (S (fL t b))] ∧ 0 < b ∧ Nat.gcd t.natAbs b.natAbs = 1 ∧ Sz t ∧ Sz b ∧ NewNum C H Q t b
theorem truS {K : Fr} {H : Hp} {a : List Nat} (h : a.length ≤ 100000) : TruV K (.str (S a)) H (!a.isEmpty) := by
  refine ⟨by rw [S_len]; exact line_ge h, ?_⟩
  rw [S_len]
  cases a with
  | nil => rfl
  | cons c r => rfl
/-- an instance is laid: it and its dict are new -/
theorem laid_same {H : Hp} {x dx C : Addr} {fs : List (Str × V)} (nx : H x = none) (nd : H dx = none) : Same H (upd (upd (upd H dx (.own x)) x (.ins C dx [])) x (.ins C dx fs)) := by
  intro b o e
  rw [upd_upd, upd_ne (ne_of_none e nx), upd_ne (ne_of_none e nd)]
  exact e
theorem same_upd {H : Hp} {p : Addr} {o : HO} (h : H p = none) : Same H (upd H p o) := fun b u e => by
  rw [upd_ne (ne_of_none e h)]
  exact e
theorem same_upd' {H H1 : Hp} {p : Addr} {o : HO} (s : Same H H1) (h : H p = none) : Same H (upd H1 p o) := fun b u e => by
  rw [upd_ne (ne_of_none e h)]
  exact s b u e
/-- a call of the class with its two arguments: what __init__ promises of it -/
theorem mk_num {C : Addr} {H : Hp} {Q : VK} {h b : Int} (hb : b ≠ 0) (sb : Sz b) (k : NewNum C H Q (lowT h b) (lowB h b)) : ∀ x dx, H x = none → H dx = none → dx ≠ x →
    spInit C [.ref x, .int h, .int b] (upd (upd H dx (.own x)) x (.ins C dx [])) (fun v H2 => v = .non ∧ Q (.ref x) H2) E0 := by
  intro x dx nx nd ne
  refine ⟨x, dx, h, b, rfl, upd_same, hb, sb, rfl, ?_⟩
  exact k _ x (laid_same nx nd) nx ⟨⟨dx, upd_same⟩, low_pos hb, low_cop hb⟩
end Hk
namespace Hk
open PySem PySem.Spec PyProof.Rows L2 NumM NumT SX
theorem map_int_get {ns : List Int} {j : Nat} (h : j < ns.length) : ∃ n : Int, ns[j]? = some n ∧ atI (ns.map V.int) ((j : Nat) : Int) = some (V.int n) := by
  refine ⟨ns[j], by simp [h], ?_⟩
  refine atI_nat ?_
  rw [List.getElem?_map]
  simp [h]
end Hk
namespace Hk
open PySem PySem.Spec PyProof.Rows L2 NumM NumT SX
theorem iL_small (z : Int) : ∀ c ∈ iL z, c < 128 := fun c hc => by
  unfold iL at hc
  split at hc
  · rcases List.mem_cons.mp hc with h | h
    · omega
    · have := numL_all _ c h; omega
  · have := numL_all _ c hc; omega
theorem fL_small (t b : Int) : ∀ c ∈ fL t b, c < 128 := fun c hc => by
  unfold fL at hc
  split at hc
  · exact iL_small _ c hc
  · rcases List.mem_append.mp hc with h | h
    · exact iL_small _ c h
    · rcases List.mem_cons.mp h with h | h
      · omega
      · exact iL_small _ c h
/-- repr of a Number, by its codes -/
def rL (t b : Int) : List Nat := [78, 117, 109, 98, 101, 114, 40] ++ fL t b ++ [41]
theorem repr_S (t b : Int) : ("Number(" : Str) ++ S (fL t b) ++ (")" : Str) = S (rL t b) := by
  have e1 : ("Number(" : Str) = S [78, 117, 109, 98, 101, 114, 40] := by decide +kernel
  have e2 : (")" : Str) = S [41] := by decide +kernel
  rw [e1, e2, S_cat, S_cat]
  rfl
theorem rL_small (t b : Int) : ∀ c ∈ rL t b, c < 128 := fun c hc => by
  unfold rL at hc
  rcases List.mem_append.mp hc with h | h
  · rcases List.mem_append.mp h with h | h
    · exact (by decide : ∀ c ∈ [78, 117, 109, 98, 101, 114, 40], c < 128) c h
    · exact fL_small _ _ c h
  · rw [List.mem_singleton.mp h]; decide
/-- what is shown of a Number -/
def seenD (t b : Int) : PyData := .list [.int t, .int b, .int (sgn t), .str (S (fL t b)), .str (S (rL t b)), .bool true]
def seenT (t b : Int) : Str := (seenD t b).shown
theorem sgn_sz (t : Int) : Sz (sgn t) := by
  unfold sgn
  split
  · decide +kernel
  · split <;> decide +kernel
theorem show_int {i : Int} (h : Sz i) : (PyData.int i).showable = true := by
  simp only [PyData.showable, decide_eq_true_eq]
  exact log2_small h
theorem short_int {i : Int} (h : Sz i) : (PyData.int i).leavesShort 320 = true := by
  simp only [PyData.leavesShort, decide_eq_true_eq]
  rw [PyData.shown_int, toS, S_len]
  have := i_len h
  omega
theorem short_S {a : List Nat} (h : ∀ c ∈ a, c < 128) : (PyData.str (S a)).leavesShort 320 = true := by
  simp only [PyData.leavesShort, List.all_eq_true, decide_eq_true_eq]
  intro c hc
  exact Nat.lt_trans (h c hc) (by decide)
theorem seen_ok {t b : Int} (st : Sz t) (sb : Sz b) : (seenD t b).showable = true ∧ (seenD t b).depth ≤ 60 ∧ (seenD t b).shown.length ≤ sizeLine := by
  have l := f_len st sb
  refine ⟨?_, ?_, ?_⟩
  · unfold seenD
    have a := show_int st
    have c := show_int sb
    have d := show_int (sgn_sz t)
    simp only [PyData.showable, PyData.showableAll] at a c d ⊢
    simp [a, c, d]
  · unfold seenD
    simp [PyData.depth, PyData.depthAll]
  · have h := PyData.shown_le_bulk 320 (by decide) (seenD t b) (by
      have a := short_int st
      have c := short_int sb
      have d := short_int (sgn_sz t)
      have e := short_S (fL_small t b)
      have f := short_S (rL_small t b)
      have g : (PyData.bool true).leavesShort 320 = true := rfl
      unfold seenD
      simp only [PyData.leavesShort, PyData.leavesShortAll] at a c d e f g ⊢
      simp [a, c, d, e, f])
    have hb : (seenD t b).bulk ≤ 2000 := by
      unfold seenD
      simp only [PyData.bulk, PyData.bulkAll]
      have e1 : (S (fL t b)).cps.size = (fL t b).length := by simp
      have e2 : (S (rL t b)).cps.size = (fL t b).length + 8 := by simp [rL]
      rw [e1, e2]
      omega
    rw [sizeLine_eq]
    have : 322 * (seenD t b).bulk ≤ 322 * 2000 := Nat.mul_le_mul (Nat.le_refl _) hb
    omega
theorem dp_seen {K : Fr} {H : Hp} {p : Addr} {t b z : Int} (hz : z = sgn t) (h : H p = some (.lst [.int t, .int b, .int z, .str (S (fL t b)), .str (S (rL t b)), .bl true])) : Dp K H (.ref p) (seenD t b) := by
  subst hz
  exact .lst (.inl (.inl h)) (.cons (.int _) (.cons (.int _) (.cons (.int _) (.cons (.str _) (.cons (.str _) (.cons (.bl _) .nil))))))
theorem dp_due {K : Fr} {H : Hp} {p : Addr} {t b z : Int} (hz : z = sgn t) (h : H p = some (.lst [.int t, .int b, .int z, .str (S (fL t b)), .str (("Number(" : Str) ++ S (fL t b) ++ (")" : Str)), .bl true])) : Dp K H (.ref p) (seenD t b) := by
  rw [repr_S] at h
  exact dp_seen hz h
end Hk
namespace Hk
open PySem PySem.Spec PyProof.Rows L2 NumM NumT SX
/-- a promise of a def over a pair (a tuple of two ints at p) -/
def spPair (g : Int → Int → V) : Sp := fun vs H Q _ => ∃ (p : Addr) (t b : Int), vs = [.ref p] ∧ H p = some (.tup [.int t, .int b]) ∧ 0 < b ∧ Sz t ∧ Sz b ∧ ∀ H', Same H H' → Q (g t b) H'
def spSeen (C : Addr) : Sp := fun vs H Q _ => ∃ (p : Addr) (t b : Int), vs = [.ref p] ∧ NumAt C H p t b ∧ Sz t ∧ Sz b ∧ ∀ H', Same H H' → Q (.str (seenT t b)) H'
theorem add_SS (a b : List Nat) : S a ++ S b = S (a ++ b) := S_cat a b
end Hk
namespace Hk
open PySem PySem.Spec PyProof.Rows L2 NumM NumT SX
/-- all but what stands at a is as it was -/
def Old (a : Addr) (H H' : Hp) : Prop := ∀ x o, H x = some o → x ≠ a → H' x = some o
theorem Old.refl (a : Addr) (H : Hp) : Old a H H := fun _ _ h _ => h
theorem Old.trans {a : Addr} {H H1 H2 : Hp} (s : Old a H H1) (t : Old a H1 H2) : Old a H H2 := fun x o h n => t x o (s x o h n) n
theorem Old.same {a : Addr} {H H1 : Hp} (s : Same H H1) : Old a H H1 := fun x o h _ => s x o h
theorem Old.put {a : Addr} {H : Hp} {o : HO} : Old a H (upd H a o) := fun x u h n => by
  rw [upd_ne n]
  exact h
theorem Old.new {a p : Addr} {H : Hp} {o : HO} (np : H p = none) : Old a H (upd H p o) := Old.same (same_upd np)
end Hk
namespace Hk
open PySem PySem.Spec PyProof.Rows L2 NumM NumT SX
theorem dec_int (x y : Int) : decide (V.int x = V.int y) = decide (x = y) := by
  by_cases h : x = y
  · subst h; simp
  · rw [decide_eq_false h, decide_eq_false fun z => h (V.int.inj z)]
theorem sz200 {z : Int} (h : z.natAbs < 2 ^ 200) : Sz z := Nat.lt_of_lt_of_le h (by decide +kernel)
theorem sz_mul {x y : Int} (h : x.natAbs < 2 ^ 200) (h2 : y.natAbs < 2 ^ 4) : Sz (x * y) := Nat.lt_of_lt_of_le (wide_lt h h2) (by decide +kernel)
theorem sz_succ {x : Int} (h : x.natAbs < 2 ^ 200) : Sz (x + 1) := by
  have e : (2 : Nat) ^ 200 + 1 ≤ 2 ^ 1000 := by decide +kernel
  have : (x + 1).natAbs ≤ x.natAbs + 1 := by omega
  exact Nat.lt_of_lt_of_le (show (x + 1).natAbs < 2 ^ 200 + 1 by omega) e
/-- the fraction one greater is another one -/
theorem far_ne {t b : Int} (hb : 0 < b) : (decide (t = lowT (t + 1) b) && decide (b = lowB (t + 1) b)) = false := by
  cases h : (decide (t = lowT (t + 1) b) && decide (b = lowB (t + 1) b)) with
  | false => rfl
  | true =>
    obtain ⟨h1, h2⟩ := Bool.and_eq_true_iff.mp h
    have e1 := of_decide_eq_true h1
    have e2 := of_decide_eq_true h2
    have l := low_eq (h := t + 1) (b := b) (by omega)
    rw [← e1, ← e2, Int.add_mul, Int.one_mul] at l
    omega
theorem num_ne {C : Addr} {H : Hp} {a p : Addr} {xs : List V} {t b : Int} (N : NumAt C H p t b) (h : H a = some (.lst xs)) : p ≠ a := by
  obtain ⟨dx, e⟩ := N.at_
  exact ne_of e h (by intro z; exact nomatch z)
theorem NumAt.old {C : Addr} {H H' : Hp} {a p : Addr} {t b : Int} (N : NumAt C H p t b) (s : Old a H H') (ne : p ≠ a) : NumAt C H' p t b := by
  obtain ⟨dx, h⟩ := N.at_
  exact ⟨⟨dx, s _ _ h ne⟩, N.pos, N.cop⟩
theorem dp_strs {K : Fr} {H : Hp} {p : Addr} {xs : List Str} (h : H p = some (.lst (xs.map V.str))) : Dp K H (.ref p) (.list (xs.map PyData.str)) := by
  refine .lst (.inl (.inl h)) ?_
  clear h
  induction xs with
  | nil => exact .nil
  | cons x r ih => exact .cons (.str x) ih
theorem dp_bls {K : Fr} {H : Hp} {p : Addr} {xs : List Bool} (h : H p = some (.lst (xs.map V.bl))) : Dp K H (.ref p) (.list (xs.map PyData.bool)) := by
  refine .lst (.inl (.inl h)) ?_
  clear h
  induction xs with
  | nil => exact .nil
  | cons x r ih => exact .cons (.bl x) ih
theorem depth_strs : ∀ xs : List Str, PyData.depthAll (xs.map PyData.str) ≤ 1
  | [] => by simp [PyData.depthAll]
  | x :: r => by
    have := depth_strs r
    simp only [List.map_cons, PyData.depthAll, PyData.depth]
    omega
theorem depth_bls : ∀ xs : List Bool, PyData.depthAll (xs.map PyData.bool) ≤ 1
  | [] => by simp [PyData.depthAll]
  | x :: r => by
    have := depth_bls r
    simp only [List.map_cons, PyData.depthAll, PyData.depth]
    omega
theorem shaped_strs {xs : List Str} (h : ∀ x ∈ xs, Asc x) : SeqAt.shaped (.list (xs.map PyData.str)) = true := by
  unfold SeqAt.shaped
  rw [Bool.and_eq_true]
  refine ⟨?_, decide_eq_true ?_⟩
  · show PyData.canLayAll0 (xs.map PyData.str) = true
    rw [PyProof.Rows.canLayAll_strs', List.all_eq_true]
    exact fun x hx => (h x hx).ok
  · have := depth_strs xs
    simp only [PyData.depth]
    omega
theorem shaped_bls (xs : List Bool) : SeqAt.shaped (.list (xs.map PyData.bool)) = true := by
  unfold SeqAt.shaped
  rw [Bool.and_eq_true]
  refine ⟨?_, decide_eq_true ?_⟩
  · show PyData.canLayAll0 (xs.map PyData.bool) = true
    induction xs with
    | nil => rfl
    | cons x r ih => simpa [PyData.canLayAll0, PyData.canLay0] using ih
  · have := depth_bls xs
    simp only [PyData.depth]
    omega
theorem seen_asc (t b : Int) : Asc (seenT t b) := by
  refine shown_asc _ ?_
  unfold seenD
  simp only [ascD, ascDs, and_true, true_and]
  exact ⟨S_asc (fL_small t b), S_asc (rL_small t b)⟩
theorem eqv_strs (xs : List Str) : PyData.eqv (.list (xs.map PyData.str)) (.list (xs.map PyData.str)) = true := by
  simp only [PyData.eqv]
  induction xs with
  | nil => rfl
  | cons x r ih => simp [PyData.eqvAll, PyData.eqv, ih]
theorem eqv_bls (xs : List Bool) : PyData.eqv (.list (xs.map PyData.bool)) (.list (xs.map PyData.bool)) = true := by
  simp only [PyData.eqv]
  induction xs with
  | nil => rfl
  | cons x r ih => simp [PyData.eqvAll, PyData.eqv, ih]
/-- two keywords, given in the other order -/
def kwTurn {α : Type} (us ws : List α) : List α := match ws with
  | [b, t] => us ++ [t, b]
  | _ => us
/-- Number(e, ..): a new Number in lowest terms -/
def tNum (C : Addr) (dvs : List V) (t : TA) : TE := fun σ H Q => t σ H fun vs H1 => ∃ h b : Int, vs ++ dvs = [.int h, .int b] ∧ b ≠ 0 ∧ Sz b ∧ NewNum C H1 Q (lowT h b) (lowB h b)
def tNumK (C : Addr) (tk : TA) : TE := fun σ H Q => tk σ H fun zs H1 => ∃ h b : Int, zs = [.int b, .int h] ∧ b ≠ 0 ∧ Sz b ∧ NewNum C H1 Q (lowT h b) (lowB h b)
section
variable {X : Cx} {k : Nat} {f C : Addr} {fd : FuncData} {ps : List Str} {dvs : List V} {ds : List Value} {x : Str} {p pos : Pos} {e : Expr} {es : List Expr} {kws : List Keyword} {t tk : TA} {g : List Value → List Value → List Value}
theorem pe_num (M : Mk X.K C f) (F : FnOk X.prog X.w X.K X.mg X.base CX0 k f fd ps (spInit C)) (hr : Room (k + 1) X.A) (hm : X.mg x = some (.ref C)) (hb : Binds X.K fd ps ds) (hd : Vals dvs ds) (ha : PA X (e :: es) t) (hg : Gl X x := by rfl)
    (hdb : (x == ("__debug__" : Str)) = false := by decide) (he : starEach (e :: es) X.env = (false, eval e X.env) :: starEach es X.env := by rfl) (hpl : (backTo pos (starEach es X.env)).any (·.1) = false := by rfl) :
    PE X (.Call (.Name x p) (e :: es) [] pos) (tNum C dvs t) := by
  refine ⟨fun pins s σ H Q I h => wpAny_Call_Name_kw (ld_glob I hg hm ?_ hdb)⟩
  refine PySem.W.callWith_K (h₀ := X.base) I.ok.mod.kin M.kp (thn (ha.run pos pins s σ H _ I h) fun us s1 hu => ?_) he hpl
  obtain ⟨vs, H1, J, r, a, b, ev, hb0, sb, q⟩ := hu
  refine ⟨J.kIn, run_make (E := E0) M F hr hb hd pass0 J r ?_⟩
  rw [ev]
  exact mk_num hb0 sb q
theorem pe_numK (M : Mk X.K C f) (F : FnOk X.prog X.w X.K X.mg X.base CX0 k f fd ps (spInit C)) (hr : Room (k + 1) X.A) (hm : X.mg x = some (.ref C)) (hb : KBn X.K fd ps 1 ["bottom", "top"] g (fun vs zs => kwTurn vs zs)) (hkw : PK X kws tk) (hg : Gl X x := by rfl)
    (hall : (backToKw pos (keywordEach kws X.env)).all (·.1.isSome) = true := by rfl) (hks : (backToKw pos (keywordEach kws X.env)).filterMap (·.1) = [("bottom" : Str), ("top" : Str)] := by rfl) (hdb : (x == ("__debug__" : Str)) = false := by decide)
    (hpl : ((backTo pos (starEach [] X.env)).any (·.1) || (backToKw pos (keywordEach kws X.env)).any (·.1.isNone)) = false := by rfl) : PE X (.Call (.Name x p) [] kws pos) (tNumK C tk) := by
  refine ⟨fun pins s σ H Q I h => wpAny_Call_Name_kw (ld_glob I hg hm ?_ hdb)⟩
  refine PySem.W.callWith_KW0 (h₀ := X.base) I.ok.mod.kin M.kp hall (thn (hkw.run pos pins s σ H _ I h) fun ws s2 hu => ?_) hpl
  obtain ⟨zs, H2, J, rz, a, b, ev, hb0, sb, q⟩ := hu
  refine ⟨J.kIn, ?_⟩
  rw [hks]
  refine run_makeK (E := E0) (us := []) (vs := []) M F hr hb pass0 J .nil rz rfl (by rw [ev]; rfl) ?_
  rw [ev]
  exact mk_num hb0 sb q
end
end Hk

/-! The parts of a text at its slashes. -/
namespace NumT
open PySem PySem.Spec PyProof.Rows L2 SX NumM
open TL (numL)
def sp47 (a : List Nat) : List (List Nat) := TL.spl [47] 0 [] a
theorem sp_none {a : List Nat} (h : 47 ∉ a) : sp47 a = [a] := TL.spl_last1 (S := []) (acc := []) h
theorem sp_some {p q : List Nat} (h : 47 ∉ p) : sp47 (p ++ 47 :: q) = p :: sp47 q := TL.spl_part1 (S := []) (acc := []) (rest := q) h
/-- the parts, the first one without its sign -/
def rst (a : List Nat) : List (List Nat) := match (cut a).2 with | none => [] | some q => sp47 q
def ds (a : List Nat) : List (List Nat) := unsig (cut a).1 :: rst a
theorem sp_cut (a : List Nat) : sp47 a = (cut a).1 :: rst a := by
  have e := cut_eq a
  have f := cut_free a
  unfold rst
  cases h : (cut a).2 with
  | none =>
    rw [h] at e
    dsimp only at e ⊢
    have := sp_none f
    rw [← e] at this ⊢
    exact this
  | some q =>
    rw [h] at e
    dsimp only at e ⊢
    conv => lhs; rw [e]
    exact sp_some f
theorem sp_len (q : List Nat) (h : 47 ∈ q) : 2 ≤ (sp47 q).length := by
  have e := cut_eq q
  rw [sp_cut]
  unfold rst
  cases h2 : (cut q).2 with
  | none =>
    rw [h2] at e
    dsimp only at e
    have f := cut_free q
    rw [← e] at f
    exact absurd h f
  | some r =>
    dsimp only
    rw [List.length_cons, sp_cut, List.length_cons]
    omega
def isd (c : Nat) : Bool := decide (48 ≤ c) && decide (c ≤ 57)
theorem canon_not (q : List Nat) (h : 47 ∈ q) : canon q = false := by
  cases e : canon q with
  | false => rfl
  | true =>
    have := (dig_all (numL_dval e).1).1 47 h
    omega
theorem isT_bad {a : List Nat} (h : 2 < (ds a).length ∨ ∃ d ∈ ds a, canon d = false) : isT a = false := by
  unfold isT
  cases e2 : cut a with
  | mk p o =>
    unfold ds rst at h
    rw [e2] at h
    cases o with
    | none =>
      dsimp only at h ⊢
      rcases h with h | ⟨d, hd, h⟩
      · simp at h
      · rw [List.mem_singleton.mp hd] at h
        rw [h, Bool.false_and]
    | some q =>
      dsimp only at h ⊢
      by_cases m : 47 ∈ q
      · rw [canon_not q m]
        simp
      · rw [sp_none m] at h
        rcases h with h | ⟨d, hd, h⟩
        · simp at h
        · rcases List.mem_cons.mp hd with z | z
          · rw [z] at h; rw [h, Bool.false_and]
          · rw [List.mem_singleton.mp z] at h; rw [h]; simp
theorem isT_m0 : isT [45, 48] = false := by decide +kernel
theorem isT_one {a d : List Nat} (h : ds a = [d]) (c : canon d = true) (n : a ≠ [45, 48]) : isT a = true := by
  unfold isT
  have ce := cut_eq a
  unfold ds rst at h
  cases e2 : cut a with
  | mk p o =>
    rw [e2] at h ce
    cases o with
    | none =>
      dsimp only at h ce ⊢
      have : unsig p = d := by injection h
      rw [this, c, ← ce, Bool.true_and]
      exact decide_eq_true n
    | some q =>
      dsimp only at h
      have := congrArg List.length h
      rw [List.length_cons, sp_cut] at this
      simp at this
theorem isT_two {a d q : List Nat} (h : ds a = [d, q]) (c : canon d = true) (c2 : canon q = true) : isT a = (decide (1 < dval q) && decide (Nat.gcd (dval d) (dval q) = 1)) := by
  unfold isT
  unfold ds rst at h
  cases e2 : cut a with
  | mk p o =>
    rw [e2] at h
    cases o with
    | none =>
      dsimp only at h
      have := congrArg List.length h
      simp at this
    | some r =>
      dsimp only at h ⊢
      have m : 47 ∉ r := fun m => by
        have := sp_len r m
        have z := congrArg List.length h
        rw [List.length_cons] at z
        simp at z
        omega
      rw [sp_none m] at h
      obtain ⟨h1, h2⟩ : unsig p = d ∧ r = q := by
        injection h with h1 h2
        injection h2 with h2
        exact ⟨h1, h2⟩
      rw [h1, h2, c, c2, Bool.true_and, Bool.true_and]
/-- canon, as the law asks for it -/
theorem canon_of {d : List Nat} (h1 : d ≠ []) (h2 : d.all isd = true) (h3 : ¬ (d.head? = some 48 ∧ d ≠ [48])) : canon d = true := by
  match d, h1, h2, h3 with
  | [c], _, h2, _ =>
    unfold canon
    simpa [isd] using h2
  | c :: e :: r, _, h2, h3 =>
    unfold canon
    rw [List.all_cons, Bool.and_eq_true] at h2
    have c1 : c ≠ 48 := fun z => h3 ⟨by rw [z]; rfl, by simp⟩
    have := h2.1
    simp only [isd, Bool.and_eq_true, decide_eq_true_eq] at this
    rw [Bool.and_eq_true, Bool.and_eq_true, decide_eq_true_eq, decide_eq_true_eq]
    exact ⟨⟨by omega, this.2⟩, h2.2⟩
theorem canon_nil : canon [] = false := rfl
theorem canon_zero {d : List Nat} (h : d.head? = some 48) (n : d ≠ [48]) : canon d = false := by
  match d, h, n with
  | [c], h, n =>
    injection h with h
    exact absurd (by rw [h]) n
  | c :: e :: r, h, _ =>
    injection h with h
    subst h
    show (false && (e :: r).all (fun c => decide (48 ≤ c) && decide (c ≤ 57))) = false
    rfl
theorem canon_dig {d : List Nat} (h : d.all isd = false) : canon d = false := by
  cases e : canon d with
  | false => rfl
  | true =>
    have := (dig_all (numL_dval e).1).1
    have z : d.all isd = true := List.all_eq_true.mpr fun x hx => by
      unfold isd
      rw [Bool.and_eq_true, decide_eq_true_eq, decide_eq_true_eq]
      exact this x hx
    rw [z] at h
    cases h
/-- in lowest terms exactly if the divisor is 1 -/
theorem low_iff {t b : Int} (hb : 0 < b) : (decide (lowT t b = t) && decide (lowB t b = b)) = decide (Nat.gcd t.natAbs b.natAbs = 1) := by
  by_cases g : Nat.gcd t.natAbs b.natAbs = 1
  · obtain ⟨e1, e2⟩ := low_red hb g
    rw [e1, e2, decide_eq_true g]
    simp
  · rw [decide_eq_false g, Bool.and_eq_false_iff]
    by_cases e1 : lowT t b = t
    · refine .inr (decide_eq_false fun e2 => g ?_)
      have := low_cop (h := t) (b := b) (by omega)
      rw [e1, e2] at this
      exact this
    · exact .inl (decide_eq_false e1)
theorem ds_len (a : List Nat) : ∀ d ∈ ds a, d.length ≤ a.length := by
  have key : ∀ (n : Nat) (q : List Nat), q.length ≤ n → ∀ d ∈ sp47 q, d.length ≤ q.length := fun n => by
    induction n with
    | zero =>
      intro q hq d hd
      have : q = [] := List.length_eq_zero_iff.mp (by omega)
      subst this
      rw [sp_none (by simp)] at hd
      rw [List.mem_singleton.mp hd]
      exact Nat.le_refl _
    | succ n ih =>
      intro q hq d hd
      rw [sp_cut] at hd
      have e := cut_eq q
      have cl := cut_len q
      rcases List.mem_cons.mp hd with z | z
      · rw [z]; exact cl.1
      · unfold rst at z
        cases h2 : (cut q).2 with
        | none => rw [h2] at z; cases z
        | some r =>
          rw [h2] at e z
          dsimp only at e z
          have l := congrArg List.length e
          rw [List.length_append, List.length_cons] at l
          exact Nat.le_trans (ih r (by omega) d z) (by omega)
  intro d hd
  have cl := cut_len a
  rcases List.mem_cons.mp hd with z | z
  · rw [z]
    refine Nat.le_trans ?_ cl.1
    unfold unsig
    split
    · rename_i r
      rw [r, List.length_cons]
      omega
    · exact Nat.le_refl _
  · unfold rst at z
    cases h2 : (cut a).2 with
    | none => rw [h2] at z; cases z
    | some r =>
      rw [h2] at z
      exact Nat.le_trans (key _ r (Nat.le_refl _) d z) (cl.2 r h2)
theorem unsig_take {p : List Nat} (h : p.take 1 = [45]) : p.drop 1 = unsig p := by
  match p, h with
  | c :: r, h =>
    injection h with h
    subst h
    rfl
theorem unsig_not {p : List Nat} (h : p.take 1 ≠ [45]) : unsig p = p := by
  unfold unsig
  split
  · exact absurd rfl h
  · rfl
theorem joinL_nil : ∀ l : List (List Nat), TL.joinL [] l = l.flatten
  | [] => rfl
  | [p] => by
    show p = _
    simp
  | p :: q :: r => by
    show p ++ ([] ++ TL.joinL [] (q :: r)) = _
    rw [joinL_nil (q :: r), List.nil_append]
    simp
theorem join_digits (l : List (List Nat)) : (Txt.join (S []) (l.map S)).cps.toList = l.flatten := by
  rw [join_S, joinL_nil]
theorem digs_mem (c : Nat) : decide (c ∈ ("0123456789" : Str).cps.toList) = isd c := by
  have e : ("0123456789" : Str).cps.toList = [48, 49, 50, 51, 52, 53, 54, 55, 56, 57] := by decide +kernel
  rw [e, Bool.eq_iff_iff]
  unfold isd
  simp only [List.mem_cons, List.not_mem_nil, or_false, decide_eq_true_eq, Bool.and_eq_true]
  omega
theorem all_flat (l : List (List Nat)) : (l.flatten.map isd).all id = l.all (fun d => d.all isd) := by
  induction l with
  | nil => rfl
  | cons a l ih => rw [List.flatten_cons, List.map_append, List.all_append, ih, List.all_cons, List.all_map]; rfl
theorem inV_nil : ∀ l : List (List Nat), inV (.str (S [])) ((l.map S).map V.str) = l.any (fun d => d.isEmpty)
  | [] => rfl
  | d :: l => by
    have ih := inV_nil l
    show (S d == S [] || _) = _
    rw [List.any_cons]
    have e : (S d == S []) = d.isEmpty := by
      rw [S_beq]
      cases d <;> rfl
    rw [e]
    exact congrArg (d.isEmpty || ·) ih
theorem flat_strs (l : List Str) : (l.map V.str).all flatV = true := by
  rw [List.all_map]
  exact List.all_eq_true.mpr fun _ _ => rfl
/-- a part with a zero ahead -/
def zer (d : List Nat) : Bool := decide (d.head? = some 48) && !decide (d = [48])
def zerV : V → V | .str z => .bl (zer z.cps.toList) | _ => .non
theorem zer_map (l : List (List Nat)) : ((l.map S).map V.str).map zerV = (l.map zer).map V.bl := by
  rw [List.map_map, List.map_map, List.map_map]
  rfl
theorem sign_eq (c e : Nat) : decide (V.str ⟨#[c]⟩ = V.str (S [e])) = decide (c = e) := by
  rw [Bool.eq_iff_iff, decide_eq_true_eq, decide_eq_true_eq]
  constructor
  · intro h
    have h := V.str.inj h
    have : S [c] = S [e] := h
    have := S_inj this
    injection this
  · rintro rfl
    rfl
theorem str_eq (a b : List Nat) : decide (V.str (S a) = V.str (S b)) = decide (a = b) := by
  rw [Bool.eq_iff_iff, decide_eq_true_eq, decide_eq_true_eq]
  exact ⟨fun h => S_inj (V.str.inj h), fun h => by rw [h]⟩
theorem sum_len (l : List (List Nat)) (n : Nat) (h : ∀ d ∈ l, d.length ≤ n) : ((l.map S).map (·.length)).sum ≤ l.length * n := by
  induction l with
  | nil => exact Nat.zero_le _
  | cons a l ih =>
    have i := ih fun d hd => h d (List.mem_cons_of_mem _ hd)
    have j := h a List.mem_cons_self
    rw [List.map_cons, List.map_cons, List.sum_cons, S_len, List.length_cons, Nat.succ_mul]
    omega
theorem sp_count (n : Nat) : ∀ q : List Nat, q.length ≤ n → (sp47 q).length ≤ q.length + 1 := by
  induction n with
  | zero =>
    intro q hq
    have : q = [] := List.length_eq_zero_iff.mp (by omega)
    subst this
    decide
  | succ n ih =>
    intro q hq
    rw [sp_cut]
    have e := cut_eq q
    unfold rst
    cases h2 : (cut q).2 with
    | none => simp
    | some r =>
      rw [h2] at e
      dsimp only at e ⊢
      have l := congrArg List.length e
      rw [List.length_append, List.length_cons] at l
      have := ih r (by omega)
      rw [List.length_cons]
      omega
theorem ds_count (a : List Nat) : (ds a).length ≤ a.length + 2 := by
  have : (ds a).length = (sp47 a).length := by rw [sp_cut]; rfl
  have := sp_count _ a (Nat.le_refl _)
  omega
theorem cut_mem (a : List Nat) : (∀ c ∈ (cut a).1, c ∈ a) ∧ ∀ q, (cut a).2 = some q → ∀ c ∈ q, c ∈ a := by
  have e := cut_eq a
  cases h : (cut a).2 with
  | none =>
    rw [h] at e
    dsimp only at e
    exact ⟨fun c hc => by rw [e]; exact hc, fun q z => nomatch z⟩
  | some q =>
    rw [h] at e
    dsimp only at e
    refine ⟨fun c hc => by rw [e]; exact List.mem_append_left _ hc, fun q' z c hc => ?_⟩
    cases z
    rw [e]
    exact List.mem_append_right _ (List.mem_cons_of_mem _ hc)
theorem sp_mem (n : Nat) : ∀ q : List Nat, q.length ≤ n → ∀ d ∈ sp47 q, ∀ c ∈ d, c ∈ q := by
  induction n with
  | zero =>
    intro q hq d hd
    have : q = [] := List.length_eq_zero_iff.mp (by omega)
    subst this
    rw [sp_none (by simp)] at hd
    rw [List.mem_singleton.mp hd]
    exact fun c h => h
  | succ n ih =>
    intro q hq d hd
    rw [sp_cut] at hd
    have e := cut_eq q
    have cm := cut_mem q
    rcases List.mem_cons.mp hd with z | z
    · rw [z]; exact cm.1
    · unfold rst at z
      cases h2 : (cut q).2 with
      | none => rw [h2] at z; cases z
      | some r =>
        rw [h2] at e z
        dsimp only at e z
        have l := congrArg List.length e
        rw [List.length_append, List.length_cons] at l
        exact fun c hc => cm.2 r h2 c (ih r (by omega) d z c hc)
theorem ds_mem (a : List Nat) : ∀ d ∈ ds a, ∀ c ∈ d, c ∈ a := by
  intro d hd c hc
  have cm := cut_mem a
  rcases List.mem_cons.mp hd with z | z
  · rw [z] at hc
    refine cm.1 c ?_
    unfold unsig at hc
    split at hc
    · rename_i r e
      rw [e]
      exact List.mem_cons_of_mem _ hc
    · exact hc
  · unfold rst at z
    cases h2 : (cut a).2 with
    | none => rw [h2] at z; cases z
    | some r =>
      rw [h2] at z
      exact cm.2 r h2 c (sp_mem _ r (Nat.le_refl _) d z c hc)
theorem asc_join (a : List Nat) (h : ∀ c ∈ a, c < 128) : (Txt.join ("" : Str) ((ds a).map S)).cps.all (· < 128) = true := by
  rw [show ("" : Str) = S [] by decide +kernel, ← Array.all_toList, join_digits, List.all_eq_true]
  intro c hc
  obtain ⟨d, hd, hc⟩ := List.mem_flatten.mp hc
  exact decide_eq_true (h c (ds_mem a d hd c hc))
end NumT

namespace Hk
open PySem PySem.Spec PyProof.Rows L2 HotX L2H
section
variable {P : Program} {w : World} {K : Fr} {mg : Str → Option Value} {base : Heap}
theorem hotC_n {X : Cx} {p : Addr × Obj} (h : Hot1 X.A p) (m : p ∈ X.pn) : HotC X := ⟨p, h, m⟩
/-- as BodyH, the body letting nothing out -/
abbrev BodyHn (P : Program) (w : World) (K : Fr) (mg : Str → Option Value) (base : Heap) (k : Nat) (d : Dx) (N ps : List Str) (sp : Sp) : Prop :=
  ∀ (cdv : Value) (A : Around) (outer : List Env) (s : Shared) (H : Hp) (vs : List V) (Q : VK) (E : XK) (p : Addr × Obj), Hot1 A p → RoomH k (A.deeper (envOfC d.ql (defScope d.st) s.heap.objs.size (d.ad K) cdv)) → sp vs H Q E →
      ∃ t, PSs (cxH CX0 P w K mg base N d.ql (defScope d.st) (d.ad K) cdv A outer s H E p).nox (defBody d.st) t ∧ t { nx := fun _ H' => Q .non H', rt := Q } (L2.start N vs) H
theorem calh_n {k : Nat} {d : Dx} {N ps : List Str} {sp : Sp} {x : Str} (D : ∃ fd, DAt K d fd) (hv : d.df = []) (S : FnScope N ps (defScope d.st)) (hm : mg x = some (.ref (d.ad K)))
    (hbi : ∀ (kV doc pm : Value) (an : Option Addr) (cdv ct : Value) (us : List Value), us.length = ps.length → bindArgs (PySem.W.fnOf d.nm d.ql (defArgs d.st) (defBody d.st) (defScope d.st) .none kV doc pm an cdv ct) ⟨us, []⟩ = pure (ps.zip us))
    (len : ∀ vs H Q E, sp vs H Q E → vs.length = ps.length) (hb : BodyHn P w K mg base k d N ps sp) : CalH P w K mg base (k + 1) x (d.ad K) ps sp :=
  calh_of D hv S hm hbi len fun cdv A outer s H vs Q E p hot hr h => by
    obtain ⟨t, c, q⟩ := hb cdv A outer s H vs Q E p hot hr h
    exact ⟨t, c.nox, q⟩
theorem okh_n {k : Nat} {d : Dx} {N ps : List Str} {sp : Sp} {fd : FuncData} (D : DAt K d fd) (S : FnScope N ps (defScope d.st)) (len : ∀ vs H Q E, sp vs H Q E → vs.length = ps.length) (hb : BodyHn P w K mg base k d N ps sp) :
    FnH P w K mg base CX0 (k + 1) (d.ad K) fd ps sp :=
  okh_of D S len fun cdv A outer s H vs Q E p hot hr h => by
    obtain ⟨t, c, q⟩ := hb cdv A outer s H vs Q E p hot hr h
    exact ⟨t, c.nox, q⟩
end
theorem iteTd {c A B : Prop} [Decidable c] (hc : c) (h : A) : if decide c = true then A else B := by
  rw [decide_eq_true hc]
  exact iteT h
theorem iteFd {c A B : Prop} [Decidable c] (hc : ¬ c) (h : B) : if decide c = true then A else B := by
  rw [decide_eq_false hc]
  exact iteF h
theorem unH {k : Nat} {A : Around} (r : RoomH k A) : A.units + 64 < cLine := by have := r.un; omega
/-- both branches give one value -/
theorem if_te {b : Bool} {ta tb : TE} {σ : L2.St} {H : Hp} {Q : VK} (v : V) (hq : Q v H) (ha : b = true → ∀ Q' : VK, Q' v H → ta σ H Q') (hb : b = false → ∀ Q' : VK, Q' v H → tb σ H Q') : if b = true then ta σ H Q else tb σ H Q := by
  cases b with
  | true => exact iteT (ha rfl Q hq)
  | false => exact iteF (hb rfl Q hq)
theorem cutV_from1 (x : V) (xs : List V) : cutV (x :: xs) (some 1) none = xs := by
  unfold cutV
  have e1 : HT.sIx (x :: xs).length 0 (some 1) = 1 := by
    show (if (1 : Int) < 0 then ((1 : Int) + ((x :: xs).length : Int)).toNat else min (1 : Int).toNat (x :: xs).length) = 1
    rw [if_neg (by decide), List.length_cons]
    show min 1 _ = 1
    omega
  rw [e1]
  show (List.drop 1 (x :: xs)).take ((x :: xs).length - 1) = xs
  rw [List.drop_one, List.tail_cons, List.length_cons]
  exact List.take_of_length_le (by omega)
/-! ### comprehensions of a function of each item -/
theorem lc_fn {K : Fr} {a : Addr} {xs : List V} {i : Nat} {te : TE} {σ : L2.St} {H1 : Hp} {D : Addr} {Qd : Hp → Prop} (f : V → V) (nD : H1 D = none) (hl : SqL K H1 a xs) (hz : xs.length ≤ 100000)
    (hs : ∀ x ∈ xs, ∀ (H : Hp) (R : VK), Same H1 H → (∀ H', Same H H' → R (f x) H') → te ((σ.set i none).set i (some x)) H R)
    (hd : ∀ H, Same H1 H → H D = some (.lst (xs.map f)) → Qd H) :
    ∃ W : Nat → Nat → Hp → Prop, (∃ m, W 0 m (upd H1 D (.lst []))) ∧ ∀ j m H, W j m H →
      ((Itl K a).stop j H ∧ Qd H) ∨ ((Itl K a).go j H ∧ ∃ Nx : Hp → Prop, (∀ H', Nx H' → ∃ m', m' < m ∧ W (j + 1) m' H') ∧ ∀ x H', (Itl K a).yld j H x H' → gName i x (wipe σ [i]) H' fun σ2 H2 => wipe σ2 [i] = wipe σ [i] ∧ tYes σ2 H2 fun b H3 =>
        if b = true then te σ2 H3 fun y H4 => ∃ acc, H4 D = some (.lst acc) ∧ acc.length < sizeLine ∧ Nx (upd H4 D (.lst (acc ++ [y]))) else Nx H3) := by
  refine lc_list (xs := xs) (fun j H' => Same H1 H' ∧ H' D = some (.lst ((xs.take j).map f))) ⟨same_upd nD, upd_same⟩ (fun j H' _ h => h.1.seq hl) ?_ ?_
  · rintro j x H hx ⟨s1, hD⟩
    have hj := (List.getElem?_eq_some_iff.mp hx).1
    refine ⟨by show ((σ.set i none).set i (some x)).set i none = σ.set i none; rw [List.set_set, List.set_set], ?_⟩
    unfold tYes
    dsimp only
    rw [if_pos rfl]
    refine hs x (List.mem_of_getElem? hx) H _ s1 fun H' s2 => ⟨_, s2 _ _ hD, ?_, same_upd' (s1.trans s2) nD, ?_⟩
    · rw [List.length_map, List.length_take]
      have : (100000 : Nat) < sizeLine := by decide
      omega
    · rw [upd_same, List.take_add_one, hx, List.map_append]
      rfl
  · rintro H ⟨s1, hD⟩
    rw [List.take_length] at hD
    exact hd H s1 hD
theorem lc_fnS {z : Str} {i : Nat} {te : TE} {σ : L2.St} {H1 : Hp} {D : Addr} {Qd : Hp → Prop} (f : Nat → V) (nD : H1 D = none) (hz : z.cps.size ≤ 100000)
    (hs : ∀ c ∈ z.cps.toList, ∀ (H : Hp) (R : VK), Same H1 H → (∀ H', Same H H' → R (f c) H') → te ((σ.set i none).set i (some (.str ⟨#[c]⟩))) H R)
    (hd : ∀ H, Same H1 H → H D = some (.lst (z.cps.toList.map f)) → Qd H) :
    ∃ W : Nat → Nat → Hp → Prop, (∃ m, W 0 m (upd H1 D (.lst []))) ∧ ∀ j m H, W j m H →
      ((Its z).stop j H ∧ Qd H) ∨ ((Its z).go j H ∧ ∃ Nx : Hp → Prop, (∀ H', Nx H' → ∃ m', m' < m ∧ W (j + 1) m' H') ∧ ∀ x H', (Its z).yld j H x H' → gName i x (wipe σ [i]) H' fun σ2 H2 => wipe σ2 [i] = wipe σ [i] ∧ tYes σ2 H2 fun b H3 =>
        if b = true then te σ2 H3 fun y H4 => ∃ acc, H4 D = some (.lst acc) ∧ acc.length < sizeLine ∧ Nx (upd H4 D (.lst (acc ++ [y]))) else Nx H3) := by
  refine lc_it walk_str (fun j H' => Same H1 H' ∧ H' D = some (.lst ((z.cps.toList.take j).map f))) ⟨same_upd nD, upd_same⟩ (fun _ _ _ _ => trivial) ?_ ?_
  · rintro j x H H' hj ⟨s1, hD⟩ ⟨e, c, hc, ex⟩
    subst e ex
    have hx : z.cps.toList[j]? = some c := by rw [Array.getElem?_toList]; exact hc
    refine ⟨by show ((σ.set i none).set i (some _)).set i none = σ.set i none; rw [List.set_set, List.set_set], ?_⟩
    unfold tYes
    dsimp only
    rw [if_pos rfl]
    refine hs c (List.mem_of_getElem? hx) _ _ s1 fun H' s2 => ⟨_, s2 _ _ hD, ?_, same_upd' (s1.trans s2) nD, ?_⟩
    · rw [List.length_map, List.length_take]
      have : (100000 : Nat) < sizeLine := by decide
      omega
    · rw [upd_same, List.take_add_one, hx, List.map_append]
      rfl
  · rintro H ⟨s1, hD⟩
    have e : z.cps.toList.take z.cps.size = z.cps.toList := by
      rw [← Array.length_toList]
      exact List.take_length
    rw [e] at hD
    exact hd H s1 hD
end Hk

/-! Tuples taken apart where an exception is handled. -/
namespace Hk
open PySem PySem.Spec PyProof.Rows L2 HotX L2H
section
variable {prog : Program} {w : World} {A : Around} {E : Value → Shared → Prop} {s : Shared}
theorem tuple_end_hot {it t x1 : Addr} {i : Nat} {items} {Q : Option Value → Shared → Prop} (hot : HotAt A x1 s.heap) (ne : x1 ≠ it)
    (hit : IsTupIter s.heap it t i) (ht : IsTup s.heap t items) (hx : items[i]? = none)
    (hQ : ∀ h', (∀ b o, b ≠ it → s.heap.get? b = some o → h'.get? b = some o) → Q none { s with heap := h' }) : wpAny (model prog w) A (pyNext (.ref it)) Q E s := by
  obtain ⟨o, ho, hc, hd⟩ := id hit
  obtain ⟨ol, hol, _, nl, hdl⟩ := ht
  obtain ⟨hh, o1, vs1, h1, d1, c1⟩ := hot
  unfold pyNext
  refine wpAny_bind (wpAny_attempt (wpAny_callSpecial?_slot (name := Str.ofString "__next__") hit.typeIs slot_tupleiter_next
    (wpAny_call_entry slot_tupleiter_next hit.typeIs entry_tupleiter_next ?_ (args_tupleiter_next _))))
  show wpAny _ _ (field (.ref it) 0 >>= _) _ _ s
  refine wpAny_bind (wpAny_field ho hd (x := .ref t) rfl ?_)
  show wpAny _ _ (if (Value.ref t == Value.none) = true then _ else _) _ _ s
  rw [if_neg (show ¬ ((Value.ref t == Value.none) = true) from Bool.false_ne_true)]
  show wpAny _ _ (field (.ref it) 1 >>= _) _ _ s
  refine wpAny_bind (wpAny_field ho hd (x := .int i 0) rfl ?_)
  show wpAny _ _ (seqItems? (.ref t) >>= _) _ _ s
  refine wpAny_bind (wpAny_seqItems hol hdl ?_)
  simp only [Int.toNat_natCast, hx]
  refine wpAny_bind (wpAny_rule (wpAny_bind (wpAny_setField ho hd (by simp) ?_)))
  show wpAny _ _ (newExc (.type "StopIteration") [] >>= _) _ _ _
  refine wpAny_bind ?_
  simp only [newExc, newTuple]
  refine wpAny_bind (wpAny_newObj_type ?_ (by size_fits))
  refine wpAny_bind (m := firstArgMember _ _) (wpAny_of_eq (a := Value.none) (by first | rfl | (simp only [firstArgMember]; rfl)) ?_)
  refine wpAny_newObj_type ?_ (by size_fits)
  have g1 := fun {f : Obj → Obj} => (Heap.get?_update_other s.heap f (Ne.symm ne)).trans h1
  refine raiseNew_hot ⟨hh, o1, vs1, Heap.get?_push_of_some _ (Heap.get?_push_of_some _ g1), d1, c1⟩ (Nat.ne_of_lt (Heap.lt_size (Heap.get?_push_of_some _ g1))) (Heap.get?_push_size _ rfl) rfl (by first | (simp; done) | (simp; omega) | decide) ?_
  refine wpAny_bind (wpAny_isInstance (T := "StopIteration") (b := true) ⟨_, Heap.get?_update_self _ (Heap.get?_push_size _ rfl) rfl, rfl⟩ isSubtype_stop ?_)
  refine wpAny_pure (hQ _ fun b o hb e => ?_)
  have g2 := fun {f : Obj → Obj} => (Heap.get?_update_other s.heap f (Ne.symm hb)).trans e
  rw [Heap.get?_update_other _ _ (Nat.ne_of_gt (Heap.lt_size (Heap.get?_push_of_some _ g2)))]
  exact Heap.get?_push_of_some _ (Heap.get?_push_of_some _ g2)
theorem unpackItems_tupleH {x1 t : Addr} {items : Array Value} {Q : List Value → Shared → Prop} (hot : HotAt A x1 s.heap) (ht : IsTup s.heap t items)
    (hQ : ∀ h', Heap.ExtBut s.heap.objs.size s.heap h' → Q items.toList { s with heap := h' }) : wpAny (model prog w) A (unpackItems (.ref t) items.size none) Q E s := by
  have hlt : t ≠ s.heap.objs.size := by obtain ⟨o, ho, _⟩ := ht; exact Nat.ne_of_lt (Heap.lt_size ho)
  obtain ⟨hh, o1, vs1, h1, d1, c1⟩ := hot
  have hx1 : x1 ≠ s.heap.objs.size := Nat.ne_of_lt (Heap.lt_size h1)
  unfold unpackItems
  refine wpAny_bind ?_
  · unfold notIterableAtAll
    refine wpAny_bind (wpAny_specialOf ht.typeIs slot_tuple_iter.lookup ?_)
    refine wpAny_pure ?_
    simp only [Bool.false_eq_true, if_false]
    refine wpAny_bind (wpAny_holding (iter_tuple ht ?_))
    refine wpAny_bind (wpAny_holding (draw_tuple hlt items.size 0 _ _ ⟨_, Heap.get?_push_size _ rfl, rfl, rfl⟩ (ht.push _) (by omega) fun h₁ hit₁ hs₁ => ?_))
    have hall : List.take items.size (List.drop 0 items.toList) = items.toList := by
      rw [List.drop_zero]; exact List.take_of_length_le (by simp)
    rw [hall]
    rw [if_neg (by simp)]
    have ht₁ : IsTup h₁ t items := (ht.push _).extBut hs₁.extBut hlt
    have hg : h₁.get? x1 = some o1 := hs₁.extBut x1 o1 hx1 (Heap.get?_push_of_some _ h1)
    refine wpAny_bind (wpAny_holding (tuple_end_hot (x1 := x1) ⟨hh, o1, vs1, hg, d1, c1⟩ hx1 hit₁ ht₁ (by simp) fun h₂ he₂ => ?_))
    simp only [Option.isSome_none, Bool.false_eq_true, if_false]
    refine wpAny_pure (hQ h₂ fun b o hb e => he₂ b o hb (hs₁.extBut b o hb (Heap.get?_push_of_some _ e)))
theorem assign_Tuple_tupleH {env : Env} {elts : List Expr} {k1} {pos : Pos} {x1 t : Addr} {items : Array Value} {Q : Unit → Shared → Prop} (hot : HotAt A x1 s.heap) (ht : IsTup s.heap t items)
    (hn : (assignEach elts env).length = items.size) (hstar : (assignEach elts env).findIdx? (·.1) = none)
    (h : ∀ h', Heap.ExtBut s.heap.objs.size s.heap h' → wpAny (model prog w) A (assignInOrder ((assignEach elts env).map (·.2)) items.toList) Q E { s with heap := h' }) :
    wpAny (model prog w) A (assign (.Tuple elts k1 pos) env (.ref t)) Q E s := by
  rw [assign_Tuple]
  refine wpAny_bind (wpAny_standAt ?_)
  unfold unpack
  rw [hn, hstar]
  exact wpAny_bind (wpAny_holding (unpackItems_tupleH hot ht h))
end
section
variable {X : Cx}
theorem ps_parH {i j : Nat} {x y : Str} {a b : Expr} {ta : TA} {px py pt pos : Pos} {kt k2 pt2} (hc : HotC X) (hN : X.N.Nodup) (hi : X.N[i]? = some x) (hj : X.N[j]? = some y) (hij : i ≠ j)
    (hx : X.env.scope.names.lookup x = some .local) (hy : X.env.scope.names.lookup y = some .local) (ha : PA X [a, b] ta)
    (hw : swappedStores [.Tuple [.Name x px, .Name y py] kt pt] (.Tuple [a, b] k2 pt2) X.env = pure (some [x, y]))
    (hs : swapsWithSole [.Tuple [.Name x px, .Name y py] kt pt] (.Tuple [a, b] k2 pt2) pos.line X.env = pure false := by rfl) :
    PS X (.Assign [.Tuple [.Name x px, .Name y py] kt pt] (.Tuple [a, b] k2 pt2) pos) (tPar i j ta) := by
  refine ⟨fun pins s σ H D I h => ?_⟩
  rw [exec_Assign_arm]
  refine wpAny_bind (wpAny_standAt ?_)
  rw [hs]
  refine wpAny_bind (wpAny_pure ?_)
  rw [if_neg (by decide)]
  refine wpAny_bind (Tuple_ (thn (ha.run _ pins s σ H _ I h) fun us s1 ⟨vs, H1, I1, r1, q1⟩ => ?_))
  obtain ⟨v, w, e1, q1⟩ := q1
  subst e1
  obtain ⟨u1, u2, rfl, rv, rw'⟩ : ∃ u1 u2, us = [u1, u2] ∧ RelV v u1 ∧ RelV w u2 := by
    cases r1 with
    | cons p q =>
      cases q with
      | cons p' q' =>
        cases q'
        exact ⟨_, _, rfl, p, p'⟩
  refine wpAny_newObj_type ?_ (by show 2 ≤ sizeLine; decide)
  have I2 : Inv X pins σ H1 { s1 with heap := s1.heap.push { cls := .type "tuple", data := .seq [u1, u2].toArray } } := I1.kept (t' := s1.toks) fun b o e => Heap.get?_push_of_some _ e
  rw [hw]
  refine wpAny_bind (wpAny_pure ?_)
  obtain ⟨x1, hot⟩ := hc.at I2
  show wpAny (model X.prog X.w) X.A (do rule "assign.swapped-stores"; let items ← unpackItems (.ref s1.heap.objs.size) 2 none; assignInOrder [fun v => bindName X.env y v, fun v => bindName X.env x v] items.reverse; pure Flow.next) _ _ _
  refine wpAny_bind (wpAny_rule (wpAny_bind (unpackItems_tupleH (items := #[u1, u2]) hot (IsTup.new s1.heap _) fun h' hx' => ?_)))
  have I3 := I2.kept (h' := h') (t' := s1.toks) fun b o e => hx' b o (Nat.ne_of_lt (Heap.lt_size e)) e
  show wpAny _ _ (assignInOrder [fun v => bindName X.env y v, fun v => bindName X.env x v] [u2, u1] >>= fun _ => pure Flow.next) _ _ _
  refine wpAny_bind (assignInOrder_cons (wpAny_bindName (store_ok I3 hN hj (.inl hy) rw' (fun s2 I4 => ?_) (.inr hy))))
  refine assignInOrder_cons (wpAny_bindName (store_ok I4 hN hi (.inl hx) rv (fun s3 I5 => assignInOrder_nil (wpAny_pure ?_)) (.inr hx)))
  rw [List.set_comm _ _ (Ne.symm hij)] at I5
  exact ⟨_, H1, I5, q1⟩
end
end Hk

/-! repr of data wherever there is room; one of two rules. -/
namespace Hk
open PySem PySem.Spec PyProof.Rows L2 HotX L2H
section
variable {X : Cx}
theorem callr_or {f : Value} {r1 r2 : List V → Hp → VK → Prop} (h1 : CallR X f r1) (h2 : CallR X f r2) : CallR X f (fun xs H Q => r1 xs H Q ∨ r2 xs H Q) := by
  intro pins s σ H xs us Q I r h
  rcases h with h | h
  · exact h1 pins s σ H xs us Q I r h
  · exact h2 pins s σ H xs us Q I r h
theorem call_reprDU (hc : Calm X.A) (hu : X.A.units + 200 < cLine) : CallR X (.builtin "repr") (rRepr X.K) := by
  intro pins s σ H xs us Q I r h
  obtain ⟨x, d, rfl, hd, hs, hdp, hz, q⟩ := h
  obtain ⟨u, rfl, ru⟩ := r.one
  cases hd with
  | non =>
    cases ru
    rw [PyData.shown_none] at q
    exact PySem.P.repr_of_none ⟨.str _, H, I.tok _, ⟨_, rfl⟩, q⟩
  | bl b =>
    cases ru
    rw [PyData.shown_bool] at q
    refine PySem.P.repr_of_bool ⟨.str _, H, I.tok _, ⟨_, rfl⟩, ?_⟩
    cases b <;> exact q
  | int i =>
    obtain ⟨t, rfl⟩ := ru
    rw [PyData.shown_int] at q
    refine PySem.P.repr_of_int ?_ ⟨.str _, H, I.tok _, ⟨_, rfl⟩, q⟩
    simpa [PyData.showable] using hs
  | str y =>
    obtain ⟨t, rfl⟩ := ru
    rw [PyData.shown_str] at q hz
    exact PySem.P.repr_of_str ⟨.str _, H, I.tok _, ⟨_, rfl⟩, q⟩ hz
  | @lst a ys ds h1 h2 =>
    have e : u = Value.ref a := ru
    subst e
    have nd := Dp.noDict _ _ (Dp.lst h1 h2)
    obtain ⟨as, hr'⟩ := Dp.reads I (.list ds) _ _ (Dp.lst h1 h2) rfl
    refine PySem.repr_of_reads' hr' hs (fun z => by rw [nd] at z; exact nomatch z) hc ?_ (fun b o z => z) (fun h' u tk kp => ⟨.str _, H, I.kept kp, ⟨_, rfl⟩, q⟩) hz
    omega
  | @tup a ys ds h1 h2 =>
    have e : u = Value.ref a := ru
    subst e
    have nd := Dp.noDict _ _ (Dp.tup h1 h2)
    obtain ⟨as, hr'⟩ := Dp.reads I (.tuple ds) _ _ (Dp.tup h1 h2) rfl
    refine PySem.repr_of_reads' hr' hs (fun z => by rw [nd] at z; exact nomatch z) hc ?_ (fun b o z => z) (fun h' u tk kp => ⟨.str _, H, I.kept kp, ⟨_, rfl⟩, q⟩) hz
    omega
/-- repr of data or of an own instance -/
def rRp (K : Fr) (C : Addr) (sp : Sp) : List V → Hp → VK → Prop := fun xs H Q => rRepr K xs H Q ∨ rText C sp xs H Q
theorem takesN0 (X : Cx) : L2N.Takes X (fun _ _ _ _ => False) := fun _ _ ⟨_, _, _, _, _, _, _, _, _, _, _, _, _, _, _, _, w⟩ => w.elim
theorem hotC_suite {a : Addr} {oe : Obj} {cls : Value} {d : Option Addr} {pn : List (Addr × Obj)} (hz : L2N.Zn cls d oe) (hf : ∃ vs, oe.data = .fields vs) : HotC (X.suite a ((a, oe) :: pn)) := by
  obtain ⟨vs, hv⟩ := hf
  exact hotC_n (p := (a, oe)) ⟨rfl, vs, hv, hz.2.2 vs hv⟩ List.mem_cons_self
end
end Hk

/-! Operands of a Number's operators, their promises. -/
namespace Hk
open PySem PySem.Spec PyProof.Rows L2 NumM NumT SX
/-- a Number u/c, or the int u (c = 1) -/
def Opd (C : Addr) (H : Hp) (y : V) (u c : Int) : Prop := (∃ q, y = .ref q ∧ NumAt C H q u c) ∨ (y = .int u ∧ c = 1)
theorem Opd.same {C : Addr} {H H' : Hp} {y : V} {u c : Int} (o : Opd C H y u c) (s : Same H H') : Opd C H' y u c := by
  rcases o with ⟨q, rfl, N⟩ | ⟨rfl, rfl⟩
  · exact .inl ⟨q, rfl, N.same s⟩
  · exact .inr ⟨rfl, rfl⟩
theorem Opd.pos {C : Addr} {H : Hp} {y : V} {u c : Int} (o : Opd C H y u c) : 0 < c := by
  rcases o with ⟨q, rfl, N⟩ | ⟨rfl, rfl⟩
  · exact N.pos
  · decide
/-- small enough to be multiplied -/
abbrev Sm (n : Int) : Prop := n.natAbs < 2 ^ 450
theorem sm_mul {x y : Int} (h : Sm x) (g : Sm y) : (x * y).natAbs < 2 ^ 900 := wide_lt h g
theorem sm_sz {x : Int} (h : Sm x) : Sz x := Nat.lt_of_lt_of_le h (by decide +kernel)
theorem p900 : (2 : Nat) ^ 900 + 2 ^ 900 ≤ 2 ^ 1000 := by decide +kernel
theorem sz_mulS {x y : Int} (h : Sm x) (g : Sm y) : Sz (x * y) := by
  have := sm_mul h g
  have := p900
  exact Nat.lt_of_lt_of_le (sm_mul h g) (by omega)
theorem sz_add {x y z u : Int} (h : Sm x) (g : Sm y) (h' : Sm z) (g' : Sm u) : Sz (x * y + z * u) := by
  have a := sm_mul h g
  have b := sm_mul h' g'
  have e := p900
  have t : (x * y + z * u).natAbs ≤ (x * y).natAbs + (z * u).natAbs := Int.natAbs_add_le _ _
  exact Nat.lt_of_lt_of_le (show (x * y + z * u).natAbs < 2 ^ 900 + 2 ^ 900 by omega) e
theorem sz_sub {x y z u : Int} (h : Sm x) (g : Sm y) (h' : Sm z) (g' : Sm u) : Sz (x * y - z * u) := by
  have a := sm_mul h g
  have b := sm_mul h' g'
  have e := p900
  have t : (x * y - z * u).natAbs ≤ (x * y).natAbs + (z * u).natAbs := Int.natAbs_sub_le _ _
  exact Nat.lt_of_lt_of_le (show (x * y - z * u).natAbs < 2 ^ 900 + 2 ^ 900 by omega) e
theorem cm {x y : Int} (h : Sm x) (g : Sm y) : CMulW x y := wide_mul h g (by decide) (by decide) (by decide)
/-- as_number -/
def spAsN (C : Addr) : Sp := fun vs H Q _ => ∃ (y : V) (u c : Int), vs = [y] ∧ Opd C H y u c ∧ Sz u ∧ ∀ (H' : Hp) (q : Addr), Same H H' → NumAt C H' q u c → Q (.ref q) H'
/-- a two-place method: num and den of the new fraction -/
def spBin (C : Addr) (num : Int → Int → Int → Int → Int) (den : Int → Int → Int → Int → Int) (ok : Int → Int → Int → Int → Prop) : Sp := fun vs H Q _ => ∃ (p : Addr) (y : V) (t b u c : Int), vs = [.ref p, y] ∧ NumAt C H p t b ∧ Opd C H y u c ∧ Sm t ∧ Sm b ∧ Sm u ∧ Sm c ∧ ok t b u c ∧
  ∀ (H' : Hp) (q : Addr), Same H H' → NumAt C H' q (lowT (num t b u c) (den t b u c)) (lowB (num t b u c) (den t b u c)) → Q (.ref q) H'
/-- the reflected one: an int first -/
def spRbin (C : Addr) (num : Int → Int → Int → Int) : Sp := fun vs H Q _ => ∃ (p : Addr) (i t b : Int), vs = [.ref p, .int i] ∧ NumAt C H p t b ∧ Sm t ∧ Sm b ∧ Sm i ∧
  ∀ (H' : Hp) (q : Addr), Same H H' → NumAt C H' q (lowT (num i t b) (1 * b)) (lowB (num i t b) (1 * b)) → Q (.ref q) H'
def spUn (C : Addr) (g : Int → Int) : Sp := fun vs H Q _ => ∃ (p : Addr) (t b : Int), vs = [.ref p] ∧ NumAt C H p t b ∧ Sm t ∧ Sm b ∧ ∀ (H' : Hp) (q : Addr), Same H H' → NumAt C H' q (g t) b → Q (.ref q) H'
end Hk

/-! Lists of Numbers, of pairs. -/
namespace Hk
open PySem PySem.Spec PyProof.Rows L2 NumM NumT SX
abbrev Ok2 (w : Int × Int) : Prop := 0 < w.2 ∧ Sz w.1 ∧ Sz w.2
theorem ok_low {h d : Int} (hd : d ≠ 0) (sh : Sz h) (sd : Sz d) : Ok2 (lowT h d, lowB h d) := ⟨low_pos hd, Nat.lt_of_le_of_lt (lowT_le hd) sh, Nat.lt_of_le_of_lt (lowB_le hd) sd⟩
/-- the text of a pair -/
abbrev tx (w : Int × Int) : Str := S (fL w.1 w.2)
def Nums (C : Addr) (H : Hp) : List V → List (Int × Int) → Prop
  | [], [] => True
  | v :: r, w :: s => (∃ p, v = .ref p ∧ NumAt C H p w.1 w.2) ∧ Nums C H r s
  | _, _ => False
theorem Nums.get {C : Addr} {H : Hp} : ∀ {rs : List V} {W : List (Int × Int)}, Nums C H rs W → ∀ {i : Nat} {x : V}, rs[i]? = some x → ∃ w p, W[i]? = some w ∧ x = .ref p ∧ NumAt C H p w.1 w.2
  | [], [], _, i, x, h => by simp at h
  | v :: r, w :: s, h, 0, x, e => by
    obtain ⟨⟨p, e1, N⟩, _⟩ := h
    simp only [List.getElem?_cons_zero, Option.some.injEq] at e
    subst e
    exact ⟨w, p, rfl, e1, N⟩
  | v :: r, w :: s, h, i + 1, x, e => by
    simp only [List.getElem?_cons_succ] at e ⊢
    exact Nums.get h.2 e
  | [], _ :: _, h, _, _, _ => h.elim
  | _ :: _, [], h, _, _, _ => h.elim
theorem Nums.len {C : Addr} {H : Hp} : ∀ {rs : List V} {W : List (Int × Int)}, Nums C H rs W → rs.length = W.length
  | [], [], _ => rfl
  | v :: r, w :: s, h => by
    simp only [List.length_cons]
    rw [Nums.len h.2]
  | [], _ :: _, h => h.elim
  | _ :: _, [], h => h.elim
theorem Nums.same {C : Addr} {H H' : Hp} (sm : Same H H') : ∀ {rs : List V} {W : List (Int × Int)}, Nums C H rs W → Nums C H' rs W
  | [], [], _ => trivial
  | v :: r, w :: s, h => by
    obtain ⟨⟨p, e1, N⟩, h2⟩ := h
    exact ⟨⟨p, e1, N.same sm⟩, Nums.same sm h2⟩
  | [], _ :: _, h => h.elim
  | _ :: _, [], h => h.elim
def Prs (H : Hp) : List V → List (Int × Int) → Prop
  | [], [] => True
  | v :: r, w :: s => (∃ p, v = .ref p ∧ H p = some (.tup [.int w.1, .int w.2])) ∧ Prs H r s
  | _, _ => False
theorem Prs.get {H : Hp} : ∀ {rs : List V} {W : List (Int × Int)}, Prs H rs W → ∀ {i : Nat} {x : V}, rs[i]? = some x → ∃ w p, W[i]? = some w ∧ x = .ref p ∧ H p = some (.tup [.int w.1, .int w.2])
  | [], [], _, i, x, h => by simp at h
  | v :: r, w :: s, h, 0, x, e => by
    obtain ⟨⟨p, e1, N⟩, _⟩ := h
    simp only [List.getElem?_cons_zero, Option.some.injEq] at e
    subst e
    exact ⟨w, p, rfl, e1, N⟩
  | v :: r, w :: s, h, i + 1, x, e => by
    simp only [List.getElem?_cons_succ] at e ⊢
    exact Prs.get h.2 e
  | [], _ :: _, h, _, _, _ => h.elim
  | _ :: _, [], h, _, _, _ => h.elim
theorem Prs.len {H : Hp} : ∀ {rs : List V} {W : List (Int × Int)}, Prs H rs W → rs.length = W.length
  | [], [], _ => rfl
  | v :: r, w :: s, h => by
    simp only [List.length_cons]
    rw [Prs.len h.2]
  | [], _ :: _, h => h.elim
  | _ :: _, [], h => h.elim
theorem Prs.same {H H' : Hp} (sm : Same H H') : ∀ {rs : List V} {W : List (Int × Int)}, Prs H rs W → Prs H' rs W
  | [], [], _ => trivial
  | v :: r, w :: s, h => by
    obtain ⟨⟨p, e1, N⟩, h2⟩ := h
    exact ⟨⟨p, e1, sm _ _ N⟩, Prs.same sm h2⟩
  | [], _ :: _, h => h.elim
  | _ :: _, [], h => h.elim
theorem take_snoc {α : Type} {W : List α} {i : Nat} {w : α} (h : W[i]? = some w) : W.take (i + 1) = W.take i ++ [w] := by
  rw [List.take_add_one, h]
  rfl
theorem tx_asc (W : List (Int × Int)) : ∀ x ∈ W.map tx, Asc x := fun x hx => by
  obtain ⟨w, _, rfl⟩ := List.mem_map.mp hx
  exact S_asc (fL_small _ _)
end Hk
namespace Hk
open PySem PySem.Spec PyProof.Rows L2 NumM NumT SX
theorem Nums.app {C : Addr} {H : Hp} : ∀ {a : List V} {A : List (Int × Int)} {b : List V} {B : List (Int × Int)}, Nums C H a A → Nums C H b B → Nums C H (a ++ b) (A ++ B)
  | [], [], _, _, _, h => h
  | v :: r, w :: s, _, _, h, g => ⟨h.1, Nums.app h.2 g⟩
  | [], _ :: _, _, _, h, _ => h.elim
  | _ :: _, [], _, _, h, _ => h.elim
theorem Prs.app {H : Hp} : ∀ {a : List V} {A : List (Int × Int)} {b : List V} {B : List (Int × Int)}, Prs H a A → Prs H b B → Prs H (a ++ b) (A ++ B)
  | [], [], _, _, _, h => h
  | v :: r, w :: s, _, _, h, g => ⟨h.1, Prs.app h.2 g⟩
  | [], _ :: _, _, _, h, _ => h.elim
  | _ :: _, [], _, _, h, _ => h.elim
theorem take_tx {W : List (Int × Int)} {i : Nat} {w : Int × Int} (h : W[i]? = some w) : ((W.take i).map tx).map V.str ++ [V.str (tx w)] = ((W.take (i + 1)).map tx).map V.str := by
  rw [take_snoc h, List.map_append, List.map_append]
  rfl
end Hk
namespace Hk
open PySem PySem.Spec PyProof.Rows L2 NumM NumT SX
theorem low_cross {h b h' b' : Int} (hb : b ≠ 0) (hb' : b' ≠ 0) (e : h * b' = h' * b) : lowT h b = lowT h' b' ∧ lowB h b = lowB h' b' := by
  refine low_of hb (low_pos hb') (low_cop hb') ?_
  have l := low_eq (h := h') (b := b') hb'
  refine Int.eq_of_mul_eq_mul_right hb' ?_
  grind
theorem Prs.old {a : Addr} {xs : List V} {H H' : Hp} (ha : H a = some (.lst xs)) (o : Old a H H') : ∀ {rs : List V} {W : List (Int × Int)}, Prs H rs W → Prs H' rs W
  | [], [], _ => trivial
  | v :: r, w :: s, h => by
    obtain ⟨⟨p, e1, N⟩, h2⟩ := h
    exact ⟨⟨p, e1, o _ _ N (ne_of N ha (by intro z; exact nomatch z))⟩, Prs.old ha o h2⟩
  | [], _ :: _, h => h.elim
  | _ :: _, [], h => h.elim
theorem Prs.three {H : Hp} {rs : List V} {W : List (Int × Int)} (h : Prs H rs W) (l : rs.length = 3) : ∃ p0 p1 p2 w0 w1 w2, rs = [.ref p0, .ref p1, .ref p2] ∧ W = [w0, w1, w2] ∧ H p0 = some (.tup [.int w0.1, .int w0.2]) ∧ H p1 = some (.tup [.int w1.1, .int w1.2]) ∧ H p2 = some (.tup [.int w2.1, .int w2.2]) := by
  match rs, W, h, l with
  | [_, _, _], [w0, w1, w2], h, _ =>
    obtain ⟨⟨p0, rfl, h0⟩, ⟨p1, rfl, h1⟩, ⟨p2, rfl, h2⟩, _⟩ := h
    exact ⟨p0, p1, p2, w0, w1, w2, rfl, rfl, h0, h1, h2⟩
  | [_, _, _], [], h, _ => exact h.elim
  | [_, _, _], [_], h, _ => exact h.2.elim
  | [_, _, _], [_, _], h, _ => exact h.2.2.elim
  | [_, _, _], _ :: _ :: _ :: _ :: _, h, _ => exact h.2.2.2.elim
theorem join_if {t : TS} {D : Ends} {σ : L2.St} {H : Hp} {b : Bool} (R : L2.St → Hp → Prop) (rest : ∀ σ' H', R σ' H' → D.nx σ' H') (h1 : b = true → (∀ σ' H', R σ' H' → D.nx σ' H') → t D σ H) (h2 : b = false → R σ H) : if b = true then t D σ H else tNext D σ H := by
  cases b with
  | true => exact iteT (h1 rfl rest)
  | false => exact iteF (rest _ _ (h2 rfl))
theorem if_cv {b : Bool} {y z : V} {i : Nat} {σ : L2.St} {H : Hp} {Q : VK} (hz : σ[i]? = some (some z)) (h : ∀ v, v = (if b = true then y else z) → Q v H) : if b = true then tC y σ H Q else tVar i σ H Q := by
  cases b with
  | true => exact iteT (h _ rfl)
  | false => exact iteF ⟨_, hz, h _ rfl⟩
theorem numF_no {m : Str} (h1 : ¬ (m = ("_top" : Str))) (h2 : ¬ (m = ("_bottom" : Str))) (t b : Int) : (numF t b).lookup m = none := by
  rw [← numF_eq, lookup_putF, if_neg h2, lookup_putF, if_neg h1]
  rfl
end Hk
namespace Hk
open PySem PySem.Spec PyProof.Rows L2 NumM NumT SX
theorem atI_end {α : Type} {xs : List α} {i : Nat} {v : α} (h : xs[i]? = some v) (hl : xs.length = i + 1) : atI xs (-1) = some v := by
  have e : xs = xs.take i ++ [v] := by
    rw [← take_snoc h, ← hl, List.take_length]
  rw [e]
  exact atI_last _ _
def pows (t b : Int) (i : Nat) : List (Int × Int) := (List.range (i + 1)).map fun k => (t ^ k, b ^ k)
theorem pows_zero (t b : Int) : pows t b 0 = [(1, 1)] := by simp [pows]
theorem pows_len (t b : Int) (i : Nat) : (pows t b i).length = i + 1 := by simp [pows]
theorem pows_get {t b : Int} {i k : Nat} (h : k ≤ i) : (pows t b i)[k]? = some (t ^ k, b ^ k) := by
  unfold pows
  rw [List.getElem?_map, List.getElem?_range (by omega)]
  rfl
theorem pows_succ (t b : Int) (i : Nat) : pows t b (i + 1) = pows t b i ++ [(t ^ (i + 1), b ^ (i + 1))] := by
  unfold pows
  rw [List.range_succ, List.map_append]
  rfl
theorem low_zero {b : Int} (hb : b ≠ 0) : lowT (0 * b) b = 0 ∧ lowB (0 * b) b = 1 := low_of hb (by decide) (by simp) (by simp)
theorem low_zero' {t b : Int} (hb : b ≠ 0) : lowT (0 * t) b = 0 ∧ lowB (0 * t) b = 1 := low_of hb (by decide) (by simp) (by simp)
/-- a sum of n + 1 equal fractions from one of n -/
theorem low_next {n t b : Int} (hb : 0 < b) : lowT (lowT (n * t) b * b + t * lowB (n * t) b) (lowB (n * t) b * b) = lowT ((n + 1) * t) b ∧ lowB (lowT (n * t) b * b + t * lowB (n * t) b) (lowB (n * t) b * b) = lowB ((n + 1) * t) b := by
  have l := low_eq (h := n * t) (b := b) (by omega)
  have p := low_pos (h := n * t) (b := b) (by omega)
  refine low_cross (Int.mul_ne_zero (by omega) (by omega)) (by omega) ?_
  generalize lowT (n * t) b = x at *
  generalize lowB (n * t) b = y at *
  grind
theorem Prs.at {H : Hp} {rs : List V} {W : List (Int × Int)} (h : Prs H rs W) {k : Nat} {w : Int × Int} (hw : W[k]? = some w) : ∃ p, rs[k]? = some (.ref p) ∧ H p = some (.tup [.int w.1, .int w.2]) := by
  have hk : k < rs.length := by rw [h.len]; exact (List.getElem?_eq_some_iff.mp hw).1
  obtain ⟨w', p, h1, h2, h3⟩ := h.get (i := k) (x := rs[k]) (by simp [hk])
  rw [hw] at h1
  cases h1
  exact ⟨p, by rw [← h2]; simp [hk], h3⟩
end Hk

namespace K03
open PySem PySem.Spec PyProof.Rows L2 Hk
def top (i : Nat) : Stmt := PySem.Challenge.pw_delaynets_k03_whole_number_texts.main.body.getD i (.Pass ⟨0, 0, 0, 0⟩)
abbrev s_wall : Stmt := top 1
def d_wall : Dx := ⟨gAd "_wall", "_wall", "_wall", s_wall, []⟩
theorem sc_wall : FnScope ["k"] ["k"] (defScope s_wall) := ⟨rfl, rfl, rfl, by decide +kernel, rfl, by decide +kernel, by decide +kernel⟩
abbrev s_InvalidText_init : Stmt := inClass (top 4) 0
def d_InvalidText_init : Dx := ⟨mAd "InvalidText" "__init__", "__init__", "InvalidText.__init__", s_InvalidText_init, []⟩
theorem sc_InvalidText_init : FnScope ["self", "value"] ["self", "value"] (defScope s_InvalidText_init) := ⟨rfl, rfl, rfl, by decide +kernel, rfl, by decide +kernel, by decide +kernel⟩
abbrev s_InvalidCount_init : Stmt := inClass (top 5) 0
def d_InvalidCount_init : Dx := ⟨mAd "InvalidCount" "__init__", "__init__", "InvalidCount.__init__", s_InvalidCount_init, []⟩
theorem sc_InvalidCount_init : FnScope ["self", "value"] ["self", "value"] (defScope s_InvalidCount_init) := ⟨rfl, rfl, rfl, by decide +kernel, rfl, by decide +kernel, by decide +kernel⟩
abbrev s_NotANumber_init : Stmt := inClass (top 6) 0
def d_NotANumber_init : Dx := ⟨mAd "NotANumber" "__init__", "__init__", "NotANumber.__init__", s_NotANumber_init, []⟩
theorem sc_NotANumber_init : FnScope ["self", "value"] ["self", "value"] (defScope s_NotANumber_init) := ⟨rfl, rfl, rfl, by decide +kernel, rfl, by decide +kernel, by decide +kernel⟩
abbrev s_is_integer : Stmt := top 11
def d_is_integer : Dx := ⟨gAd "is_integer", "is_integer", "is_integer", s_is_integer, []⟩
theorem sc_is_integer : FnScope ["value"] ["value"] (defScope s_is_integer) := ⟨rfl, rfl, rfl, by decide +kernel, rfl, by decide +kernel, by decide +kernel⟩
abbrev s_as_number : Stmt := top 12
def d_as_number : Dx := ⟨gAd "as_number", "as_number", "as_number", s_as_number, []⟩
theorem sc_as_number : FnScope ["value"] ["value"] (defScope s_as_number) := ⟨rfl, rfl, rfl, by decide +kernel, rfl, by decide +kernel, by decide +kernel⟩
abbrev s_Number_init : Stmt := inClass (top 13) 0
def d_Number_init : Dx := ⟨mAd "Number" "__init__", "__init__", "Number.__init__", s_Number_init, [.int 1]⟩
theorem sc_Number_init : FnScope ["self", "top", "bottom", "shared"] ["self", "top", "bottom"] (defScope s_Number_init) := ⟨rfl, rfl, rfl, by decide +kernel, rfl, by decide +kernel, by decide +kernel⟩
abbrev s_Number_read : Stmt := inClass (top 13) 1
def d_Number_read : Dx := ⟨statAd "Number" "read", "read", "Number.read", s_Number_read, []⟩
theorem sc_Number_read : FnScope ["text", "number"] ["text"] (defScope s_Number_read) := ⟨rfl, rfl, rfl, by decide +kernel, rfl, by decide +kernel, by decide +kernel⟩
abbrev s_Number_top : Stmt := inClass (top 13) 2
def d_Number_top : Dx := ⟨getAd "Number" "top", "top", "Number.top", s_Number_top, []⟩
theorem sc_Number_top : FnScope ["self"] ["self"] (defScope s_Number_top) := ⟨rfl, rfl, rfl, by decide +kernel, rfl, by decide +kernel, by decide +kernel⟩
abbrev s_Number_bottom : Stmt := inClass (top 13) 3
def d_Number_bottom : Dx := ⟨getAd "Number" "bottom", "bottom", "Number.bottom", s_Number_bottom, []⟩
theorem sc_Number_bottom : FnScope ["self"] ["self"] (defScope s_Number_bottom) := ⟨rfl, rfl, rfl, by decide +kernel, rfl, by decide +kernel, by decide +kernel⟩
abbrev s_Number_sign : Stmt := inClass (top 13) 4
def d_Number_sign : Dx := ⟨getAd "Number" "sign", "sign", "Number.sign", s_Number_sign, []⟩
theorem sc_Number_sign : FnScope ["self"] ["self"] (defScope s_Number_sign) := ⟨rfl, rfl, rfl, by decide +kernel, rfl, by decide +kernel, by decide +kernel⟩
abbrev s_Number_over : Stmt := inClass (top 13) 5
def d_Number_over : Dx := ⟨mAd "Number" "over", "over", "Number.over", s_Number_over, []⟩
theorem sc_Number_over : FnScope ["self", "other"] ["self", "other"] (defScope s_Number_over) := ⟨rfl, rfl, rfl, by decide +kernel, rfl, by decide +kernel, by decide +kernel⟩
abbrev s_Number_add : Stmt := inClass (top 13) 6
def d_Number_add : Dx := ⟨mAd "Number" "__add__", "__add__", "Number.__add__", s_Number_add, []⟩
theorem sc_Number_add : FnScope ["self", "other", "right"] ["self", "other"] (defScope s_Number_add) := ⟨rfl, rfl, rfl, by decide +kernel, rfl, by decide +kernel, by decide +kernel⟩
abbrev s_Number_radd : Stmt := inClass (top 13) 7
def d_Number_radd : Dx := ⟨mAd "Number" "__radd__", "__radd__", "Number.__radd__", s_Number_radd, []⟩
theorem sc_Number_radd : FnScope ["self", "other"] ["self", "other"] (defScope s_Number_radd) := ⟨rfl, rfl, rfl, by decide +kernel, rfl, by decide +kernel, by decide +kernel⟩
abbrev s_Number_sub : Stmt := inClass (top 13) 8
def d_Number_sub : Dx := ⟨mAd "Number" "__sub__", "__sub__", "Number.__sub__", s_Number_sub, []⟩
theorem sc_Number_sub : FnScope ["self", "other", "right"] ["self", "other"] (defScope s_Number_sub) := ⟨rfl, rfl, rfl, by decide +kernel, rfl, by decide +kernel, by decide +kernel⟩
abbrev s_Number_rsub : Stmt := inClass (top 13) 9
def d_Number_rsub : Dx := ⟨mAd "Number" "__rsub__", "__rsub__", "Number.__rsub__", s_Number_rsub, []⟩
theorem sc_Number_rsub : FnScope ["self", "other"] ["self", "other"] (defScope s_Number_rsub) := ⟨rfl, rfl, rfl, by decide +kernel, rfl, by decide +kernel, by decide +kernel⟩
abbrev s_Number_mul : Stmt := inClass (top 13) 10
def d_Number_mul : Dx := ⟨mAd "Number" "__mul__", "__mul__", "Number.__mul__", s_Number_mul, []⟩
theorem sc_Number_mul : FnScope ["self", "other", "right"] ["self", "other"] (defScope s_Number_mul) := ⟨rfl, rfl, rfl, by decide +kernel, rfl, by decide +kernel, by decide +kernel⟩
abbrev s_Number_rmul : Stmt := inClass (top 13) 11
def d_Number_rmul : Dx := ⟨mAd "Number" "__rmul__", "__rmul__", "Number.__rmul__", s_Number_rmul, []⟩
theorem sc_Number_rmul : FnScope ["self", "other"] ["self", "other"] (defScope s_Number_rmul) := ⟨rfl, rfl, rfl, by decide +kernel, rfl, by decide +kernel, by decide +kernel⟩
abbrev s_Number_neg : Stmt := inClass (top 13) 12
def d_Number_neg : Dx := ⟨mAd "Number" "__neg__", "__neg__", "Number.__neg__", s_Number_neg, []⟩
theorem sc_Number_neg : FnScope ["self"] ["self"] (defScope s_Number_neg) := ⟨rfl, rfl, rfl, by decide +kernel, rfl, by decide +kernel, by decide +kernel⟩
abbrev s_Number_abs : Stmt := inClass (top 13) 13
def d_Number_abs : Dx := ⟨mAd "Number" "__abs__", "__abs__", "Number.__abs__", s_Number_abs, []⟩
theorem sc_Number_abs : FnScope ["self"] ["self"] (defScope s_Number_abs) := ⟨rfl, rfl, rfl, by decide +kernel, rfl, by decide +kernel, by decide +kernel⟩
abbrev s_Number_pow : Stmt := inClass (top 13) 14
def d_Number_pow : Dx := ⟨mAd "Number" "__pow__", "__pow__", "Number.__pow__", s_Number_pow, []⟩
theorem sc_Number_pow : FnScope ["self", "other", "power", "_"] ["self", "other"] (defScope s_Number_pow) := ⟨rfl, rfl, rfl, by decide +kernel, rfl, by decide +kernel, by decide +kernel⟩
abbrev s_Number_eq : Stmt := inClass (top 13) 15
def d_Number_eq : Dx := ⟨mAd "Number" "__eq__", "__eq__", "Number.__eq__", s_Number_eq, []⟩
theorem sc_Number_eq : FnScope ["self", "other"] ["self", "other"] (defScope s_Number_eq) := ⟨rfl, rfl, rfl, by decide +kernel, rfl, by decide +kernel, by decide +kernel⟩
abbrev s_Number_str : Stmt := inClass (top 13) 16
def d_Number_str : Dx := ⟨mAd "Number" "__str__", "__str__", "Number.__str__", s_Number_str, []⟩
theorem sc_Number_str : FnScope ["self"] ["self"] (defScope s_Number_str) := ⟨rfl, rfl, rfl, by decide +kernel, rfl, by decide +kernel, by decide +kernel⟩
abbrev s_Number_repr : Stmt := inClass (top 13) 17
def d_Number_repr : Dx := ⟨mAd "Number" "__repr__", "__repr__", "Number.__repr__", s_Number_repr, []⟩
theorem sc_Number_repr : FnScope ["self"] ["self"] (defScope s_Number_repr) := ⟨rfl, rfl, rfl, by decide +kernel, rfl, by decide +kernel, by decide +kernel⟩
abbrev s_number_in : Stmt := top 14
def d_number_in : Dx := ⟨gAd "_number_in", "_number_in", "_number_in", s_number_in, []⟩
theorem sc_number_in : FnScope ["text", "top", "slash", "bottom"] ["text"] (defScope s_number_in) := ⟨rfl, rfl, rfl, by decide +kernel, rfl, by decide +kernel, by decide +kernel⟩
abbrev s_is_digits : Stmt := top 15
def d_is_digits : Dx := ⟨gAd "_is_digits", "_is_digits", "_is_digits", s_is_digits, []⟩
theorem sc_is_digits : FnScope ["text"] ["text"] (defScope s_is_digits) := ⟨rfl, rfl, rfl, by decide +kernel, rfl, by decide +kernel, by decide +kernel⟩
abbrev s_l_spring : Stmt := top 17
def d_l_spring : Dx := ⟨gAd "_law_spring", "_law_spring", "_law_spring", s_l_spring, []⟩
theorem sc_l_spring : FnScope ["_law_script", "_law_spot", "_law_mixed", "_law_at", "_law_own", "_law_digits"] ["_law_script", "_law_spot"] (defScope s_l_spring) := ⟨rfl, rfl, rfl, by decide +kernel, rfl, by decide +kernel, by decide +kernel⟩
abbrev s_l_next : Stmt := top 18
def d_l_next : Dx := ⟨gAd "_law_next", "_law_next", "_law_next", s_l_next, []⟩
theorem sc_l_next : FnScope ["_law_spring_here", "_law_many", "_law_digit", "_law_state"] ["_law_spring_here", "_law_many"] (defScope s_l_next) := ⟨rfl, rfl, rfl, by decide +kernel, rfl, by decide +kernel, by decide +kernel⟩
abbrev s_l_one : Stmt := top 19
def d_l_one : Dx := ⟨gAd "_law_one", "_law_one", "_law_one", s_l_one, []⟩
theorem sc_l_one : FnScope ["_law_spring_here", "_law_things"] ["_law_spring_here", "_law_things"] (defScope s_l_one) := ⟨rfl, rfl, rfl, by decide +kernel, rfl, by decide +kernel, by decide +kernel⟩
abbrev s_l_low : Stmt := top 20
def d_l_low : Dx := ⟨gAd "_law_low", "_law_low", "_law_low", s_l_low, []⟩
theorem sc_l_low : FnScope ["_law_top", "_law_bottom", "_law_one_here", "_law_two", "_law_sign"] ["_law_top", "_law_bottom"] (defScope s_l_low) := ⟨rfl, rfl, rfl, by decide +kernel, rfl, by decide +kernel, by decide +kernel⟩
abbrev s_l_written : Stmt := top 21
def d_l_written : Dx := ⟨gAd "_law_written", "_law_written", "_law_written", s_l_written, []⟩
theorem sc_l_written : FnScope ["_law_pair"] ["_law_pair"] (defScope s_l_written) := ⟨rfl, rfl, rfl, by decide +kernel, rfl, by decide +kernel, by decide +kernel⟩
abbrev s_l_is_text : Stmt := top 22
def d_l_is_text : Dx := ⟨gAd "_law_is_text", "_law_is_text", "_law_is_text", s_l_is_text, []⟩
theorem sc_l_is_text : FnScope ["_law_line", "_law_parts_here", "_law_body", "_law_digits", "_law_sign", "_law_part", "_law_top", "_law_bottom"] ["_law_line"] (defScope s_l_is_text) := ⟨rfl, rfl, rfl, by decide +kernel, rfl, by decide +kernel, by decide +kernel⟩
abbrev s_l_bent : Stmt := top 23
def d_l_bent : Dx := ⟨gAd "_law_bent", "_law_bent", "_law_bent", s_l_bent, []⟩
theorem sc_l_bent : FnScope ["_law_spring_here", "_law_line", "_law_way", "_law_at", "_law_sign", "_law_stop"] ["_law_spring_here", "_law_line"] (defScope s_l_bent) := ⟨rfl, rfl, rfl, by decide +kernel, rfl, by decide +kernel, by decide +kernel⟩
abbrev s_l_read_right : Stmt := top 24
def d_l_read_right : Dx := ⟨gAd "_law_read_right", "_law_read_right", "_law_read_right", s_l_read_right, []⟩
theorem sc_l_read_right : FnScope ["_law_line", "_law_told", "e", "_law_kinds", "_law_each"] ["_law_line"] (defScope s_l_read_right) := ⟨rfl, rfl, rfl, by decide +kernel, rfl, by decide +kernel, by decide +kernel⟩
abbrev s_l_right : Stmt := top 25
def d_l_right : Dx := ⟨gAd "_law_right", "_law_right", "_law_right", s_l_right, []⟩
theorem sc_l_right : FnScope ["_law_spring_here", "_law_pair", "_law_line", "_law_bent_here", "_law_each"] ["_law_spring_here"] (defScope s_l_right) := ⟨rfl, rfl, rfl, by decide +kernel, rfl, by decide +kernel, by decide +kernel⟩
abbrev s_law : Stmt := top 26
def d_law : Dx := ⟨gAd "law", "law", "law", s_law, []⟩
theorem sc_law : FnScope ["_law_script", "_law_good", "_law_bad", "_law_line", "_law_spot", "_law_spring_here", "_law_turn"] ["_law_script"] (defScope s_law) := ⟨rfl, rfl, rfl, by decide +kernel, rfl, by decide +kernel, by decide +kernel⟩
def FN : List Dx := [d_wall, d_InvalidText_init, d_InvalidCount_init, d_NotANumber_init, d_is_integer, d_as_number, d_Number_init, d_Number_read, d_Number_top, d_Number_bottom, d_Number_sign, d_Number_over, d_Number_add, d_Number_radd, d_Number_sub, d_Number_rsub, d_Number_mul, d_Number_rmul, d_Number_neg, d_Number_abs, d_Number_pow, d_Number_eq, d_Number_str, d_Number_repr, d_number_in, d_is_digits, d_l_spring, d_l_next, d_l_one, d_l_low, d_l_written, d_l_is_text, d_l_bent, d_l_read_right, d_l_right, d_law]
def FA : List Tst := [tGlo "_wall",
  tGlo "is_integer",
  tGlo "as_number",
  tGlo "_number_in",
  tGlo "_is_digits",
  tGlo "_law_spring",
  tGlo "_law_next",
  tGlo "_law_one",
  tGlo "_law_low",
  tGlo "_law_written",
  tGlo "_law_is_text",
  tGlo "_law_bent",
  tGlo "_law_read_right",
  tGlo "_law_right",
  tGlo "law",
  tBlt "gcd" "math.gcd",
  tInt "MAX_POWER" 20,
  tFree "RuntimeError",
  tFree "ValueError",
  tFree "abs",
  tFree "all",
  tFree "any",
  tFree "bool",
  tFree "int",
  tFree "isinstance",
  tFree "len",
  tFree "max",
  tFree "min",
  tFree "property",
  tFree "range",
  tFree "repr",
  tFree "staticmethod",
  tFree "str",
  tGlo "InputError",
  tGlo "InvalidText",
  tGlo "InvalidCount",
  tGlo "NotANumber",
  tGlo "StateError",
  tGlo "DividedByZero",
  tGlo "Number",
  tCls "Number",
  tMkr "Number",
  tNoat "Number" "_top",
  tNoat "Number" "_bottom",
  tProp "Number" "top",
  tProp "Number" "bottom",
  tProp "Number" "sign",
  tMeth "Number" "__init__",
  tMeth "Number" "__str__",
  tMeth "Number" "__repr__",
  tMeth "Number" "__eq__",
  tNe "Number",
  tIns "Number",
  tStat "Number" "read",
  tKitO "Number" "Number" true,
  tKit "int" "Number" false,
  tFst "Number" "int",
  tKit "str" "Number" false,
  tFst "Number" "str",
  tKit "tuple" "Number" false,
  tFst "Number" "tuple",
  tKit "NoneType" "Number" false,
  tFst "Number" "NoneType",
  tFstO "Number",
  tOex "InvalidText",
  tXfc "InvalidText",
  tNof "InvalidText" "value",
  tInit "InvalidText",
  tExc "InvalidText",
  tExm "InvalidText" "InvalidText" true,
  tKitO "InvalidText" "InputError" true,
  tKitO "InvalidText" "InvalidCount" false,
  tKitB "InvalidText" "ValueError" true,
  tKitB "Number" "str" false]
abbrev Sy (K : Fr) : Prop := Says FA FN K
theorem f_glo_wall {K : Fr} (c : Sy K) : (tGlo "_wall") K = true := c.tst 0
theorem f_glo_is_integer {K : Fr} (c : Sy K) : (tGlo "is_integer") K = true := c.tst 1
theorem f_glo_as_number {K : Fr} (c : Sy K) : (tGlo "as_number") K = true := c.tst 2
theorem f_glo_number_in {K : Fr} (c : Sy K) : (tGlo "_number_in") K = true := c.tst 3
theorem f_glo_is_digits {K : Fr} (c : Sy K) : (tGlo "_is_digits") K = true := c.tst 4
theorem f_glo_l_spring {K : Fr} (c : Sy K) : (tGlo "_law_spring") K = true := c.tst 5
theorem f_glo_l_next {K : Fr} (c : Sy K) : (tGlo "_law_next") K = true := c.tst 6
theorem f_glo_l_one {K : Fr} (c : Sy K) : (tGlo "_law_one") K = true := c.tst 7
theorem f_glo_l_low {K : Fr} (c : Sy K) : (tGlo "_law_low") K = true := c.tst 8
theorem f_glo_l_written {K : Fr} (c : Sy K) : (tGlo "_law_written") K = true := c.tst 9
theorem f_glo_l_is_text {K : Fr} (c : Sy K) : (tGlo "_law_is_text") K = true := c.tst 10
theorem f_glo_l_bent {K : Fr} (c : Sy K) : (tGlo "_law_bent") K = true := c.tst 11
theorem f_glo_l_read_right {K : Fr} (c : Sy K) : (tGlo "_law_read_right") K = true := c.tst 12
theorem f_glo_l_right {K : Fr} (c : Sy K) : (tGlo "_law_right") K = true := c.tst 13
theorem f_glo_law {K : Fr} (c : Sy K) : (tGlo "law") K = true := c.tst 14
theorem f_blt_gcd {K : Fr} (c : Sy K) : (tBlt "gcd" "math.gcd") K = true := c.tst 15
theorem f_int_MAX_POWER {K : Fr} (c : Sy K) : (tInt "MAX_POWER" 20) K = true := c.tst 16
theorem f_free_RuntimeError {K : Fr} (c : Sy K) : (tFree "RuntimeError") K = true := c.tst 17
theorem f_free_ValueError {K : Fr} (c : Sy K) : (tFree "ValueError") K = true := c.tst 18
theorem f_free_abs {K : Fr} (c : Sy K) : (tFree "abs") K = true := c.tst 19
theorem f_free_all {K : Fr} (c : Sy K) : (tFree "all") K = true := c.tst 20
theorem f_free_any {K : Fr} (c : Sy K) : (tFree "any") K = true := c.tst 21
theorem f_free_bool {K : Fr} (c : Sy K) : (tFree "bool") K = true := c.tst 22
theorem f_free_int {K : Fr} (c : Sy K) : (tFree "int") K = true := c.tst 23
theorem f_free_isinstance {K : Fr} (c : Sy K) : (tFree "isinstance") K = true := c.tst 24
theorem f_free_len {K : Fr} (c : Sy K) : (tFree "len") K = true := c.tst 25
theorem f_free_max {K : Fr} (c : Sy K) : (tFree "max") K = true := c.tst 26
theorem f_free_min {K : Fr} (c : Sy K) : (tFree "min") K = true := c.tst 27
theorem f_free_property {K : Fr} (c : Sy K) : (tFree "property") K = true := c.tst 28
theorem f_free_range {K : Fr} (c : Sy K) : (tFree "range") K = true := c.tst 29
theorem f_free_repr {K : Fr} (c : Sy K) : (tFree "repr") K = true := c.tst 30
theorem f_free_staticmethod {K : Fr} (c : Sy K) : (tFree "staticmethod") K = true := c.tst 31
theorem f_free_str {K : Fr} (c : Sy K) : (tFree "str") K = true := c.tst 32
theorem f_glo_InputError {K : Fr} (c : Sy K) : (tGlo "InputError") K = true := c.tst 33
theorem f_glo_InvalidText {K : Fr} (c : Sy K) : (tGlo "InvalidText") K = true := c.tst 34
theorem f_glo_InvalidCount {K : Fr} (c : Sy K) : (tGlo "InvalidCount") K = true := c.tst 35
theorem f_glo_NotANumber {K : Fr} (c : Sy K) : (tGlo "NotANumber") K = true := c.tst 36
theorem f_glo_StateError {K : Fr} (c : Sy K) : (tGlo "StateError") K = true := c.tst 37
theorem f_glo_DividedByZero {K : Fr} (c : Sy K) : (tGlo "DividedByZero") K = true := c.tst 38
theorem f_glo_Number {K : Fr} (c : Sy K) : (tGlo "Number") K = true := c.tst 39
theorem f_cls_Number {K : Fr} (c : Sy K) : (tCls "Number") K = true := c.tst 40
theorem f_mkr_Number {K : Fr} (c : Sy K) : (tMkr "Number") K = true := c.tst 41
theorem f_noat_top {K : Fr} (c : Sy K) : (tNoat "Number" "_top") K = true := c.tst 42
theorem f_noat_bot {K : Fr} (c : Sy K) : (tNoat "Number" "_bottom") K = true := c.tst 43
theorem f_prop_top {K : Fr} (c : Sy K) : (tProp "Number" "top") K = true := c.tst 44
theorem f_prop_bottom {K : Fr} (c : Sy K) : (tProp "Number" "bottom") K = true := c.tst 45
theorem f_prop_sign {K : Fr} (c : Sy K) : (tProp "Number" "sign") K = true := c.tst 46
theorem f_meth_init {K : Fr} (c : Sy K) : (tMeth "Number" "__init__") K = true := c.tst 47
theorem f_meth_str {K : Fr} (c : Sy K) : (tMeth "Number" "__str__") K = true := c.tst 48
theorem f_meth_repr {K : Fr} (c : Sy K) : (tMeth "Number" "__repr__") K = true := c.tst 49
theorem f_meth_eq {K : Fr} (c : Sy K) : (tMeth "Number" "__eq__") K = true := c.tst 50
theorem f_ne {K : Fr} (c : Sy K) : (tNe "Number") K = true := c.tst 51
theorem f_ins {K : Fr} (c : Sy K) : (tIns "Number") K = true := c.tst 52
theorem f_stat_read {K : Fr} (c : Sy K) : (tStat "Number" "read") K = true := c.tst 53
theorem f_kitO {K : Fr} (c : Sy K) : (tKitO "Number" "Number" true) K = true := c.tst 54
theorem f_kit_int {K : Fr} (c : Sy K) : (tKit "int" "Number" false) K = true := c.tst 55
theorem f_fst_int {K : Fr} (c : Sy K) : (tFst "Number" "int") K = true := c.tst 56
theorem f_kit_str {K : Fr} (c : Sy K) : (tKit "str" "Number" false) K = true := c.tst 57
theorem f_fst_str {K : Fr} (c : Sy K) : (tFst "Number" "str") K = true := c.tst 58
theorem f_kit_tuple {K : Fr} (c : Sy K) : (tKit "tuple" "Number" false) K = true := c.tst 59
theorem f_fst_tuple {K : Fr} (c : Sy K) : (tFst "Number" "tuple") K = true := c.tst 60
theorem f_kit_NoneType {K : Fr} (c : Sy K) : (tKit "NoneType" "Number" false) K = true := c.tst 61
theorem f_fst_NoneType {K : Fr} (c : Sy K) : (tFst "Number" "NoneType") K = true := c.tst 62
theorem f_fstO {K : Fr} (c : Sy K) : (tFstO "Number") K = true := c.tst 63
theorem f_oex_text {K : Fr} (c : Sy K) : (tOex "InvalidText") K = true := c.tst 64
theorem f_xfc_text {K : Fr} (c : Sy K) : (tXfc "InvalidText") K = true := c.tst 65
theorem f_nof_text {K : Fr} (c : Sy K) : (tNof "InvalidText" "value") K = true := c.tst 66
theorem f_init_text {K : Fr} (c : Sy K) : (tInit "InvalidText") K = true := c.tst 67
theorem f_exc_text {K : Fr} (c : Sy K) : (tExc "InvalidText") K = true := c.tst 68
theorem f_exm_text {K : Fr} (c : Sy K) : (tExm "InvalidText" "InvalidText" true) K = true := c.tst 69
theorem f_kit_text_in {K : Fr} (c : Sy K) : (tKitO "InvalidText" "InputError" true) K = true := c.tst 70
theorem f_kit_text_count {K : Fr} (c : Sy K) : (tKitO "InvalidText" "InvalidCount" false) K = true := c.tst 71
theorem f_kitB_text_ve {K : Fr} (c : Sy K) : (tKitB "InvalidText" "ValueError" true) K = true := c.tst 72
theorem f_kitB_num_str {K : Fr} (c : Sy K) : (tKitB "Number" "str" false) K = true := c.tst 73
structure Tx (K : Fr) (mg : Str → Option Value) : Prop where
  c : Sy K
  g : ∃ h, K.In h ∧ h.Ns mainGlobals mg
theorem g_wall {K : Fr} {mg : Str → Option Value} (T : Tx K mg) : mg "_wall" = some (.ref (gAd "_wall" K)) := by
  obtain ⟨h, X, G⟩ := T.g
  exact He.glo_ok X G (f_glo_wall T.c)
theorem g_is_integer {K : Fr} {mg : Str → Option Value} (T : Tx K mg) : mg "is_integer" = some (.ref (gAd "is_integer" K)) := by
  obtain ⟨h, X, G⟩ := T.g
  exact He.glo_ok X G (f_glo_is_integer T.c)
theorem g_as_number {K : Fr} {mg : Str → Option Value} (T : Tx K mg) : mg "as_number" = some (.ref (gAd "as_number" K)) := by
  obtain ⟨h, X, G⟩ := T.g
  exact He.glo_ok X G (f_glo_as_number T.c)
theorem g_number_in {K : Fr} {mg : Str → Option Value} (T : Tx K mg) : mg "_number_in" = some (.ref (gAd "_number_in" K)) := by
  obtain ⟨h, X, G⟩ := T.g
  exact He.glo_ok X G (f_glo_number_in T.c)
theorem g_is_digits {K : Fr} {mg : Str → Option Value} (T : Tx K mg) : mg "_is_digits" = some (.ref (gAd "_is_digits" K)) := by
  obtain ⟨h, X, G⟩ := T.g
  exact He.glo_ok X G (f_glo_is_digits T.c)
theorem g_l_spring {K : Fr} {mg : Str → Option Value} (T : Tx K mg) : mg "_law_spring" = some (.ref (gAd "_law_spring" K)) := by
  obtain ⟨h, X, G⟩ := T.g
  exact He.glo_ok X G (f_glo_l_spring T.c)
theorem g_l_next {K : Fr} {mg : Str → Option Value} (T : Tx K mg) : mg "_law_next" = some (.ref (gAd "_law_next" K)) := by
  obtain ⟨h, X, G⟩ := T.g
  exact He.glo_ok X G (f_glo_l_next T.c)
theorem g_l_one {K : Fr} {mg : Str → Option Value} (T : Tx K mg) : mg "_law_one" = some (.ref (gAd "_law_one" K)) := by
  obtain ⟨h, X, G⟩ := T.g
  exact He.glo_ok X G (f_glo_l_one T.c)
theorem g_l_low {K : Fr} {mg : Str → Option Value} (T : Tx K mg) : mg "_law_low" = some (.ref (gAd "_law_low" K)) := by
  obtain ⟨h, X, G⟩ := T.g
  exact He.glo_ok X G (f_glo_l_low T.c)
theorem g_l_written {K : Fr} {mg : Str → Option Value} (T : Tx K mg) : mg "_law_written" = some (.ref (gAd "_law_written" K)) := by
  obtain ⟨h, X, G⟩ := T.g
  exact He.glo_ok X G (f_glo_l_written T.c)
theorem g_l_is_text {K : Fr} {mg : Str → Option Value} (T : Tx K mg) : mg "_law_is_text" = some (.ref (gAd "_law_is_text" K)) := by
  obtain ⟨h, X, G⟩ := T.g
  exact He.glo_ok X G (f_glo_l_is_text T.c)
theorem g_l_bent {K : Fr} {mg : Str → Option Value} (T : Tx K mg) : mg "_law_bent" = some (.ref (gAd "_law_bent" K)) := by
  obtain ⟨h, X, G⟩ := T.g
  exact He.glo_ok X G (f_glo_l_bent T.c)
theorem g_l_read_right {K : Fr} {mg : Str → Option Value} (T : Tx K mg) : mg "_law_read_right" = some (.ref (gAd "_law_read_right" K)) := by
  obtain ⟨h, X, G⟩ := T.g
  exact He.glo_ok X G (f_glo_l_read_right T.c)
theorem g_l_right {K : Fr} {mg : Str → Option Value} (T : Tx K mg) : mg "_law_right" = some (.ref (gAd "_law_right" K)) := by
  obtain ⟨h, X, G⟩ := T.g
  exact He.glo_ok X G (f_glo_l_right T.c)
theorem g_law {K : Fr} {mg : Str → Option Value} (T : Tx K mg) : mg "law" = some (.ref (gAd "law" K)) := by
  obtain ⟨h, X, G⟩ := T.g
  exact He.glo_ok X G (f_glo_law T.c)
theorem m_gcd {K : Fr} {mg : Str → Option Value} (T : Tx K mg) : mg "gcd" = some (.builtin "math.gcd") := by
  obtain ⟨h, X, G⟩ := T.g
  exact blt_ok X G (f_blt_gcd T.c)
theorem i_MAX_POWER {K : Fr} {mg : Str → Option Value} (T : Tx K mg) : ∃ t, mg "MAX_POWER" = some (.int 20 t) := by
  obtain ⟨h, X, G⟩ := T.g
  exact He.int_ok X G (f_int_MAX_POWER T.c)
theorem n_RuntimeError {K : Fr} {mg : Str → Option Value} (T : Tx K mg) : mg "RuntimeError" = none := by
  obtain ⟨h, X, G⟩ := T.g
  exact He.free_ok X G (f_free_RuntimeError T.c)
theorem n_ValueError {K : Fr} {mg : Str → Option Value} (T : Tx K mg) : mg "ValueError" = none := by
  obtain ⟨h, X, G⟩ := T.g
  exact He.free_ok X G (f_free_ValueError T.c)
theorem n_abs {K : Fr} {mg : Str → Option Value} (T : Tx K mg) : mg "abs" = none := by
  obtain ⟨h, X, G⟩ := T.g
  exact He.free_ok X G (f_free_abs T.c)
theorem n_all {K : Fr} {mg : Str → Option Value} (T : Tx K mg) : mg "all" = none := by
  obtain ⟨h, X, G⟩ := T.g
  exact He.free_ok X G (f_free_all T.c)
theorem n_any {K : Fr} {mg : Str → Option Value} (T : Tx K mg) : mg "any" = none := by
  obtain ⟨h, X, G⟩ := T.g
  exact He.free_ok X G (f_free_any T.c)
theorem n_bool {K : Fr} {mg : Str → Option Value} (T : Tx K mg) : mg "bool" = none := by
  obtain ⟨h, X, G⟩ := T.g
  exact He.free_ok X G (f_free_bool T.c)
theorem n_int {K : Fr} {mg : Str → Option Value} (T : Tx K mg) : mg "int" = none := by
  obtain ⟨h, X, G⟩ := T.g
  exact He.free_ok X G (f_free_int T.c)
theorem n_isinstance {K : Fr} {mg : Str → Option Value} (T : Tx K mg) : mg "isinstance" = none := by
  obtain ⟨h, X, G⟩ := T.g
  exact He.free_ok X G (f_free_isinstance T.c)
theorem n_len {K : Fr} {mg : Str → Option Value} (T : Tx K mg) : mg "len" = none := by
  obtain ⟨h, X, G⟩ := T.g
  exact He.free_ok X G (f_free_len T.c)
theorem n_max {K : Fr} {mg : Str → Option Value} (T : Tx K mg) : mg "max" = none := by
  obtain ⟨h, X, G⟩ := T.g
  exact He.free_ok X G (f_free_max T.c)
theorem n_min {K : Fr} {mg : Str → Option Value} (T : Tx K mg) : mg "min" = none := by
  obtain ⟨h, X, G⟩ := T.g
  exact He.free_ok X G (f_free_min T.c)
theorem n_property {K : Fr} {mg : Str → Option Value} (T : Tx K mg) : mg "property" = none := by
  obtain ⟨h, X, G⟩ := T.g
  exact He.free_ok X G (f_free_property T.c)
theorem n_range {K : Fr} {mg : Str → Option Value} (T : Tx K mg) : mg "range" = none := by
  obtain ⟨h, X, G⟩ := T.g
  exact He.free_ok X G (f_free_range T.c)
theorem n_repr {K : Fr} {mg : Str → Option Value} (T : Tx K mg) : mg "repr" = none := by
  obtain ⟨h, X, G⟩ := T.g
  exact He.free_ok X G (f_free_repr T.c)
theorem n_staticmethod {K : Fr} {mg : Str → Option Value} (T : Tx K mg) : mg "staticmethod" = none := by
  obtain ⟨h, X, G⟩ := T.g
  exact He.free_ok X G (f_free_staticmethod T.c)
theorem n_str {K : Fr} {mg : Str → Option Value} (T : Tx K mg) : mg "str" = none := by
  obtain ⟨h, X, G⟩ := T.g
  exact He.free_ok X G (f_free_str T.c)
theorem g_InputError {K : Fr} {mg : Str → Option Value} (T : Tx K mg) : mg "InputError" = some (.ref (gAd "InputError" K)) := by
  obtain ⟨h, X, G⟩ := T.g
  exact He.glo_ok X G (f_glo_InputError T.c)
theorem g_InvalidText {K : Fr} {mg : Str → Option Value} (T : Tx K mg) : mg "InvalidText" = some (.ref (gAd "InvalidText" K)) := by
  obtain ⟨h, X, G⟩ := T.g
  exact He.glo_ok X G (f_glo_InvalidText T.c)
theorem g_InvalidCount {K : Fr} {mg : Str → Option Value} (T : Tx K mg) : mg "InvalidCount" = some (.ref (gAd "InvalidCount" K)) := by
  obtain ⟨h, X, G⟩ := T.g
  exact He.glo_ok X G (f_glo_InvalidCount T.c)
theorem g_NotANumber {K : Fr} {mg : Str → Option Value} (T : Tx K mg) : mg "NotANumber" = some (.ref (gAd "NotANumber" K)) := by
  obtain ⟨h, X, G⟩ := T.g
  exact He.glo_ok X G (f_glo_NotANumber T.c)
theorem g_StateError {K : Fr} {mg : Str → Option Value} (T : Tx K mg) : mg "StateError" = some (.ref (gAd "StateError" K)) := by
  obtain ⟨h, X, G⟩ := T.g
  exact He.glo_ok X G (f_glo_StateError T.c)
theorem g_DividedByZero {K : Fr} {mg : Str → Option Value} (T : Tx K mg) : mg "DividedByZero" = some (.ref (gAd "DividedByZero" K)) := by
  obtain ⟨h, X, G⟩ := T.g
  exact He.glo_ok X G (f_glo_DividedByZero T.c)
theorem g_Number {K : Fr} {mg : Str → Option Value} (T : Tx K mg) : mg "Number" = some (.ref (gAd "Number" K)) := by
  obtain ⟨h, X, G⟩ := T.g
  exact He.glo_ok X G (f_glo_Number T.c)
theorem a_wall {K : Fr} (c : Sy K) : ∃ fd, DAt K d_wall fd := c.dat 0
theorem a_InvalidText_init {K : Fr} (c : Sy K) : ∃ fd, DAt K d_InvalidText_init fd := c.dat 1
theorem a_InvalidCount_init {K : Fr} (c : Sy K) : ∃ fd, DAt K d_InvalidCount_init fd := c.dat 2
theorem a_NotANumber_init {K : Fr} (c : Sy K) : ∃ fd, DAt K d_NotANumber_init fd := c.dat 3
theorem a_is_integer {K : Fr} (c : Sy K) : ∃ fd, DAt K d_is_integer fd := c.dat 4
theorem a_as_number {K : Fr} (c : Sy K) : ∃ fd, DAt K d_as_number fd := c.dat 5
theorem a_Number_init {K : Fr} (c : Sy K) : ∃ fd, DAt K d_Number_init fd := c.dat 6
theorem a_Number_read {K : Fr} (c : Sy K) : ∃ fd, DAt K d_Number_read fd := c.dat 7
theorem a_Number_top {K : Fr} (c : Sy K) : ∃ fd, DAt K d_Number_top fd := c.dat 8
theorem a_Number_bottom {K : Fr} (c : Sy K) : ∃ fd, DAt K d_Number_bottom fd := c.dat 9
theorem a_Number_sign {K : Fr} (c : Sy K) : ∃ fd, DAt K d_Number_sign fd := c.dat 10
theorem a_Number_over {K : Fr} (c : Sy K) : ∃ fd, DAt K d_Number_over fd := c.dat 11
theorem a_Number_add {K : Fr} (c : Sy K) : ∃ fd, DAt K d_Number_add fd := c.dat 12
theorem a_Number_radd {K : Fr} (c : Sy K) : ∃ fd, DAt K d_Number_radd fd := c.dat 13
theorem a_Number_sub {K : Fr} (c : Sy K) : ∃ fd, DAt K d_Number_sub fd := c.dat 14
theorem a_Number_rsub {K : Fr} (c : Sy K) : ∃ fd, DAt K d_Number_rsub fd := c.dat 15
theorem a_Number_mul {K : Fr} (c : Sy K) : ∃ fd, DAt K d_Number_mul fd := c.dat 16
theorem a_Number_rmul {K : Fr} (c : Sy K) : ∃ fd, DAt K d_Number_rmul fd := c.dat 17
theorem a_Number_neg {K : Fr} (c : Sy K) : ∃ fd, DAt K d_Number_neg fd := c.dat 18
theorem a_Number_abs {K : Fr} (c : Sy K) : ∃ fd, DAt K d_Number_abs fd := c.dat 19
theorem a_Number_pow {K : Fr} (c : Sy K) : ∃ fd, DAt K d_Number_pow fd := c.dat 20
theorem a_Number_eq {K : Fr} (c : Sy K) : ∃ fd, DAt K d_Number_eq fd := c.dat 21
theorem a_Number_str {K : Fr} (c : Sy K) : ∃ fd, DAt K d_Number_str fd := c.dat 22
theorem a_Number_repr {K : Fr} (c : Sy K) : ∃ fd, DAt K d_Number_repr fd := c.dat 23
theorem a_number_in {K : Fr} (c : Sy K) : ∃ fd, DAt K d_number_in fd := c.dat 24
theorem a_is_digits {K : Fr} (c : Sy K) : ∃ fd, DAt K d_is_digits fd := c.dat 25
theorem a_l_spring {K : Fr} (c : Sy K) : ∃ fd, DAt K d_l_spring fd := c.dat 26
theorem a_l_next {K : Fr} (c : Sy K) : ∃ fd, DAt K d_l_next fd := c.dat 27
theorem a_l_one {K : Fr} (c : Sy K) : ∃ fd, DAt K d_l_one fd := c.dat 28
theorem a_l_low {K : Fr} (c : Sy K) : ∃ fd, DAt K d_l_low fd := c.dat 29
theorem a_l_written {K : Fr} (c : Sy K) : ∃ fd, DAt K d_l_written fd := c.dat 30
theorem a_l_is_text {K : Fr} (c : Sy K) : ∃ fd, DAt K d_l_is_text fd := c.dat 31
theorem a_l_bent {K : Fr} (c : Sy K) : ∃ fd, DAt K d_l_bent fd := c.dat 32
theorem a_l_read_right {K : Fr} (c : Sy K) : ∃ fd, DAt K d_l_read_right fd := c.dat 33
theorem a_l_right {K : Fr} (c : Sy K) : ∃ fd, DAt K d_l_right fd := c.dat 34
theorem a_law {K : Fr} (c : Sy K) : ∃ fd, DAt K d_law fd := c.dat 35
abbrev R : PySem.W.OpenRow := PySem.W.OpenLaw.row PySem.Challenge.rw_delaynets_k03_whole_number_texts
abbrev hk : PySem.W.Hook := hook 5 FA FN
def ob (s : PySem.W.SharedT) : Al2 := lookG 5 FA FN (HeadRun.getT s)
theorem ob_eq (s : PySem.W.SharedT) : ob s = hk.obs s.abs := lookG_eq (HeadRun.getT_eq s)
def loose0 : List Str := ["_wall", "InputError", "InvalidText", "InvalidCount", "NotANumber", "StateError", "DividedByZero", "MAX_POWER", "is_integer", "as_number", "Number", "_number_in", "_is_digits", "_law_spring", "_law_next", "_law_one", "_law_low", "_law_written", "_law_is_text", "_law_bent", "_law_read_right", "_law_right"]
abbrev loose : List Str := loose0
abbrev qv : Program := PySem.W.view R.prog [0, 26]
abbrev lawAt : Nat := 26
end K03

namespace K03
open PySem PySem.Spec PyProof.Rows L2 Hk NumM NumT SX
open TL (numL)
section
variable {P : Program} {w : World} {K : Fr} {mg : Str → Option Value} {base : Heap}
/-- a spring's list: the digits left, the state, the count -/
structure Spr (d e c : Int) : Prop where
  d0 : 0 ≤ d
  e0 : 0 ≤ e
  e1 : e < 1000000007
  c0 : 0 ≤ c
def sprL (d e c : Int) : List V := [.int d, .int e, .int c]
/-- draws a number below many, turns the spring's list alone -/
def spNext : Sp := fun vs H Q _ => ∃ (a : Addr) (m d e c : Int), vs = [.ref a, .int m] ∧ H a = some (.lst (sprL d e c)) ∧ Spr d e c ∧ 0 < m ∧ m.natAbs < 2 ^ 200 ∧
  ∀ (v d' e' c' : Int), 0 ≤ v → v < m → Spr d' e' c' → Q (.int v) (upd H a (.lst (sprL d' e' c')))
theorem c_next (T : Tx K mg) : Cal P w K mg base 1 "_law_next" (gAd "_law_next" K) ["_law_spring_here", "_law_many"] spNext := by
  refine cal_of (d := d_l_next) (N := ["_law_spring_here", "_law_many", "_law_digit", "_law_state"]) (a_l_next T.c) rfl sc_l_next (g_l_next T) (fun _ _ _ _ _ _ us hl => match us, hl with | [_, _], _ => rfl) (fun vs H Q E h => ?_) (fun cdv A outer s H vs Q E hr h => ?_)
  · obtain ⟨a, m, d, e, c, rfl, _⟩ := h
    rfl
  · obtain ⟨a, m, d, e, c, rfl, hH, hs, hm, hm2, k⟩ := h
    refine ⟨_, pss_cons (ps_asg (pe_op op_add (pe_ix ix_list (pv 0) pe_int (fun _ _ => rfl)) pe_int) (pg_sub (pv 0) pe_int set_list))
      (pss_cons (ps_if (pt_cmpR op_gt (pe_ix ix_list (pv 0) pe_int (fun _ _ => rfl)) pe_int (nomark _))
        (pss_cons (ps_set (i := 2) sc_l_next.nd rfl (.inl rfl) (pe_op op_modN (pe_callTy call_int1 (by rfl) (n_int T) bo_int (pa_cons (pe_ix ix_list (pv 0) pe_int (fun _ _ => rfl)) pa_nil)) (pv 1)))
        (pss_cons (ps_asg (pe_op op_fdivW (pe_ix ix_list (pv 0) pe_int (fun _ _ => rfl)) (pv 1)) (pg_sub (pv 0) pe_int set_list))
        (pss_one (ps_ret (pv 2))))) pss_nil)
      (pss_cons (ps_set (i := 3) sc_l_next.nd rfl (.inl rfl) (pe_callTy call_int1 (by rfl) (n_int T) bo_int (pa_cons (pe_ix ix_list (pv 0) pe_int (fun _ _ => rfl)) pa_nil)))
      (pss_cons (ps_asg (pe_op op_mod (pe_callTy call_int1 (by rfl) (n_int T) bo_int (pa_cons
          (pe_op op_add (pe_op op_add (pe_op op_mul (pv 3) (pe_op op_add (pe_op op_mod (pv 3) pe_int) pe_int)) (pe_op op_mul pe_int (pe_ix ix_list (pv 0) pe_int (fun _ _ => rfl)))) pe_int) pa_nil)) pe_int) (pg_sub (pv 0) pe_int set_list))
      (pss_one (ps_ret (pe_op op_modN (pe_callTy call_int1 (by rfl) (n_int T) bo_int (pa_cons (pe_op op_fdiv (pe_ix ix_list (pv 0) pe_int (fun _ _ => rfl)) pe_int) pa_nil)) (pv 1))))))), ?_⟩
    refine ⟨_, rfl, a, _, 2, _, rfl, rfl, .inl (.inl hH), rfl, c, 1, rfl, rfl, _, rfl, a, _, 2, 2, rfl, rfl, hH, rfl, ?_⟩
    -- h[0] > 0
    refine ⟨_, rfl, a, _, 0, _, rfl, rfl, .inl (.inl upd_same), rfl, _, _, rfl, rfl, _, rfl, ?_⟩
    refine ite2 (fun hd => ?_) (fun hd => ?_)
    · have hd : 0 < d := of_decide_eq_true hd
      refine ⟨_, rfl, a, _, 0, _, rfl, rfl, .inl (.inl upd_same), rfl, .inl ⟨_, rfl, _, rfl, _, _, rfl, rfl, (by omega), ?_⟩⟩
      refine ⟨_, rfl, a, _, 0, _, rfl, rfl, .inl (.inl upd_same), rfl, _, rfl, _, _, rfl, rfl, wide_div hm hm2 (by decide) (by decide), _, rfl, a, _, 0, 0, rfl, rfl, upd_same, rfl, ?_⟩
      refine ⟨_, rfl, ?_⟩
      show Q _ _
      rw [upd_upd]
      refine k _ (d / m) e (c + 1) (Int.fmod_nonneg_of_pos _ hm) (Int.fmod_lt_of_pos _ hm) ⟨Int.ediv_nonneg hs.d0 (by omega), hs.e0, hs.e1, by have := hs.c0; omega⟩
    · refine ⟨_, rfl, a, _, 1, _, rfl, rfl, .inl (.inl upd_same), rfl, .inl ⟨_, rfl, ?_⟩⟩
      refine ⟨_, rfl, _, rfl, _, _, rfl, rfl, (by show (0 : Int) < 65521; decide), _, _, rfl, rfl, _, _, rfl, rfl, .inl ⟨by have := hs.e0; omega, by have := hs.e1; omega⟩, ?_⟩
      refine ⟨_, rfl, a, _, 2, _, rfl, rfl, .inl (.inl upd_same), rfl, _, _, rfl, rfl, .inl ⟨by decide, by decide⟩, _, _, rfl, rfl, _, _, rfl, rfl, .inl ⟨_, rfl, _, _, rfl, rfl, (by show (0 : Int) < 1000000007; decide), _, rfl, a, _, 1, 1, rfl, rfl, upd_same, rfl, ?_⟩⟩
      refine ⟨_, rfl, a, _, 1, _, rfl, rfl, .inl (.inl upd_same), rfl, _, _, rfl, rfl, ⟨by decide, by decide⟩, .inl ⟨_, rfl, _, rfl, _, _, rfl, rfl, (by omega), ?_⟩⟩
      show Q _ _
      rw [upd_upd]
      exact k _ d _ (c + 1) (Int.fmod_nonneg_of_pos _ hm) (Int.fmod_lt_of_pos _ hm) ⟨hs.d0, Int.emod_nonneg _ (by decide), Int.emod_lt_of_pos _ (by decide), by have := hs.c0; omega⟩
abbrev CN (K : Fr) : Addr := He.ga K "Number"
theorem c_isint (T : Tx K mg) : Cal P w K mg base 1 "is_integer" (gAd "is_integer" K) ["value"] spIsInt := by
  refine cal_of (d := d_is_integer) (N := ["value"]) (a_is_integer T.c) rfl sc_is_integer (g_is_integer T) (fun _ _ _ _ _ _ us hl => match us, hl with | [_], _ => rfl) (fun vs H Q E h => ?_) (fun cdv A outer s H vs Q E hr h => ?_)
  · obtain ⟨i, rfl, _⟩ := h
    rfl
  · obtain ⟨i, rfl, k⟩ := h
    refine ⟨_, (pss_one (ps_ret (pe_and (pe_callB call_isi (by rfl) (n_isinstance T) bo_isinstance (pa_cons (pv 0) (pa_cons (pe_bltn (v := .ty "int") (by rfl) (n_int T) (by decide +kernel) rfl) pa_nil)))
      (pe_one (pe_not (pe_callB call_isi (by rfl) (n_isinstance T) bo_isinstance (pa_cons (pv 0) (pa_cons (pe_bltn (v := .ty "bool") (by rfl) (n_bool T) (by decide +kernel) rfl) pa_nil)))))))), ?_⟩
    refine ⟨_, rfl, _, _, .type "int", .type "int", true, rfl, .ty _, .base (.int i), kit_ty (by decide +kernel), true, rfl, iteT ?_⟩
    exact ⟨_, rfl, _, _, .type "int", .type "bool", false, rfl, .ty _, .base (.int i), kit_ty (by decide +kernel), false, rfl, k⟩
theorem f_init (T : Tx K mg) : ∃ fd, DAt K d_Number_init fd ∧ FnOk P w K mg base CX0 2 (d_Number_init.ad K) fd ["self", "top", "bottom"] (spInit (CN K)) := by
  obtain ⟨fd, D⟩ := a_Number_init T.c
  have C_is_integer := c_isint (P := P) (w := w) (base := base) T
  refine ⟨fd, D, ok_of (N := ["self", "top", "bottom", "shared"]) D sc_Number_init (fun vs H Q E h => ?_) (fun cdv A outer s H vs Q E hr h => ?_)⟩
  · obtain ⟨p, dx, h, b, rfl, _⟩ := h
    rfl
  · obtain ⟨p, dx, h, b, rfl, hp, hb, sb, k⟩ := h
    refine ⟨_, (pss_cons (ps_if (pt_not (pt_val (pe_c C_is_integer hr (pa_cons (pv 1) pa_nil)))) (pss_one ps_never) pss_nil)
      (pss_cons (ps_if (pt_not (pt_val (pe_c C_is_integer hr (pa_cons (pv 2) pa_nil)))) (pss_one ps_never) pss_nil)
      (pss_cons (ps_if (pt_cmpR op_eq (pv 2) pe_int (nomark _)) (pss_one ps_never) pss_nil)
      (pss_cons (ps_set (i := 3) sc_Number_init.nd rfl (.inl rfl) (pe_callBfun cr_gcd rfl (m_gcd T) (pa_cons (pv 1) (pa_cons (pv 2) pa_nil))))
      (pss_cons (ps_if (pt_cmpR op_lt (pv 2) pe_int (nomark _)) (pss_one (ps_set (i := 3) sc_Number_init.nd rfl (.inl rfl) (pe_un un_neg (pv 3)))) pss_nil)
      (pss_cons (ps_fld (pv 0) (pe_op op_fdivG (pv 1) (pv 3)) rfl)
      (pss_one (ps_fld (pv 0) (pe_op op_fdivG (pv 2) (pv 3)) rfl)))))))), ?_⟩
    refine ⟨_, rfl, h, rfl, _, rfl, iteF ?_⟩
    refine ⟨_, rfl, b, rfl, _, rfl, iteF ?_⟩
    refine ⟨_, rfl, rfl, _, rfl, ?_⟩
    refine ite2 (fun z => absurd (V.int.inj (of_decide_eq_true z)) hb) (fun _ => ?_)
    refine ⟨_, rfl, _, rfl, h, b, rfl, ?_⟩
    have cl := He.cls_ok (f_cls_Number T.c)
    have sz : CDivG h (shr h b) := ⟨shr_ne hb, by
      have := log2_sz (i := shr h b) (Nat.lt_of_le_of_lt (shr_le (h := h) hb) sb)
      omega⟩
    have szb : CDivG b (shr h b) := sz
    refine ⟨_, rfl, _, _, rfl, rfl, _, rfl, ?_⟩
    have fin : ∀ x : Int, x = shr h b → (fun (σ : L2.St) (H : Hp) => L2.tSeq (sFld K (tVar 0) (tOp (rI CDivG fun i j => .int (i.fdiv j)) (tVar 1) (tVar 3)) "_top") (sFld K (tVar 0) (tOp (rI CDivG fun i j => .int (i.fdiv j)) (tVar 2) (tVar 3)) "_bottom") { nx := fun _ H' => Q .non H', rt := Q } σ H) [some (.ref p), some (.int h), some (.int b), some (.int x)] H := by
      rintro x rfl
      refine ⟨_, rfl, _, rfl, h, _, rfl, rfl, sz, _, rfl, p, CN K, dx, _, rfl, hp, cl, He.noat_ok (f_noat_top T.c), (by show 0 < 1000; decide), ?_⟩
      refine ⟨_, rfl, _, rfl, b, _, rfl, rfl, szb, _, rfl, p, CN K, dx, _, rfl, upd_same, cl, He.noat_ok (f_noat_bot T.c), (by show 1 < 1000; decide), ?_⟩
      show Q .non _
      rw [upd_upd]
      rw [numF_eq, init_top hb, init_bot hb]
      exact k
    refine ite2 (fun z => ?_) (fun z => ?_)
    · refine ⟨_, rfl, _, rfl, ?_⟩
      exact fin _ (by unfold shr; rw [if_pos (of_decide_eq_true z)]; rfl)
    · exact fin _ (by unfold shr; rw [if_neg (fun q => z (decide_eq_true q))]; rfl)
theorem cl (T : Tx K mg) : Cls K (CN K) := He.cls_ok (f_cls_Number T.c)
theorem nT (T : Tx K mg) : NoAttr K (CN K) "_top" := He.noat_ok (f_noat_top T.c)
theorem nB (T : Tx K mg) : NoAttr K (CN K) "_bottom" := He.noat_ok (f_noat_bot T.c)
theorem f_str (T : Tx K mg) : ∃ fd, DAt K d_Number_str fd ∧ FnOk P w K mg base CX0 1 (d_Number_str.ad K) fd ["self"] (spGet (CN K) fun t b => .str (S (fL t b))) := by
  obtain ⟨fd, D⟩ := a_Number_str T.c
  refine ⟨fd, D, ok_of (N := ["self"]) D sc_Number_str (fun vs H Q E h => ?_) (fun cdv A outer s H vs Q E hr h => ?_)⟩
  · obtain ⟨p, t, b, rfl, _⟩ := h
    rfl
  · obtain ⟨p, t, b, rfl, ⟨⟨dx, hp⟩, _, _⟩, st, sb, k⟩ := h
    refine ⟨_, (pss_cons (ps_if (pt_cmpR op_eq (pe_fld (pv 0) rfl) pe_int (nomark _)) (pss_one (ps_ret (pe_callTy call_str_int (by rfl) (n_str T) bo_str (pa_cons (pe_fld (pv 0) rfl) pa_nil)))) pss_nil)
      (pss_one (ps_ret (pe_joined (.cons (pe_fmt (pe_fld (pv 0) rfl)) (.cons pe_str (.cons (pe_fmt (pe_fld (pv 0) rfl)) .nil))))))), ?_⟩
    refine ⟨_, rfl, p, CN K, dx, _, _, rfl, hp, cl T, nB T, numF_bot _ _, rfl, _, rfl, ?_⟩
    have l1 := i_len st
    have l2 := i_len sb
    refine ite2 (fun z => ?_) (fun z => ?_)
    · have e : b = 1 := V.int.inj (of_decide_eq_true z)
      refine ⟨_, rfl, p, CN K, dx, _, _, rfl, hp, cl T, nT T, numF_top _ _, _, rfl, log2_small st, ?_⟩
      show Q (.str _) H
      rw [toS]
      have k' : Q (.str (S (fL t b))) H := k
      unfold fL at k'
      rw [if_pos e] at k'
      exact k'
    · have e : ¬ b = 1 := fun q => z (decide_eq_true (by rw [q]))
      refine ⟨_, rfl, p, CN K, dx, _, _, rfl, hp, cl T, nT T, numF_top _ _, .inr ⟨_, rfl, log2_small st, _, rfl, ?_, _, rfl, ?_, ?_⟩⟩
      · rw [toS, empty_S, S_cat, S_len]
        exact line_ge (by rw [List.nil_append]; omega)
      · rw [toS, empty_S, slash_S, S_cat, S_cat, S_len]
        exact line_ge (by rw [List.nil_append, List.length_append]; simp; omega)
      · refine ⟨_, rfl, p, CN K, dx, _, _, rfl, hp, cl T, nB T, numF_bot _ _, .inr ⟨_, rfl, log2_small sb, _, rfl, ?_, ?_⟩⟩
        · rw [toS, toS, empty_S, slash_S, S_cat, S_cat, S_cat, S_len]
          exact line_ge (by rw [List.nil_append, List.length_append, List.length_append]; simp; omega)
        · show Q (.str _) H
          rw [toS, toS, empty_S, slash_S, S_cat, S_cat, S_cat, List.nil_append, List.append_assoc]
          have k' : Q (.str (S (fL t b))) H := k
          unfold fL at k'
          rw [if_neg e] at k'
          exact k'
theorem c_digits (T : Tx K mg) : Cal P w K mg base 1 "_is_digits" (gAd "_is_digits" K) ["text"] spDigits := by
  refine cal_of (d := d_is_digits) (N := ["text"]) (a_is_digits T.c) rfl sc_is_digits (g_is_digits T) (fun _ _ _ _ _ _ us hl => match us, hl with | [_], _ => rfl) (fun vs H Q E h => ?_) (fun cdv A outer s H vs Q E hr h => ?_)
  · obtain ⟨a, rfl, _⟩ := h
    rfl
  · obtain ⟨a, rfl, k⟩ := h
    refine ⟨_, (pss_one (ps_ret (pe_and (pe_bm0 PySem.F.plainAttrs_str PySem.F.slot_str_isascii PySem.F.type_str_isascii mt_isascii (pv 0)) (pe_one (pe_bm0 PySem.F.plainAttrs_str PySem.F.slot_str_isdigit PySem.F.type_str_isdigit mt_isdigit (pv 0)))))), ?_⟩
    have e := both_S a
    refine ⟨_, rfl, rfl, _, rfl, rfl, trivial, _, rfl, ?_⟩
    refine ite2 (fun z => ?_) (fun z => ?_)
    · refine ⟨_, rfl, rfl, _, rfl, rfl, trivial, ?_⟩
      rw [z, Bool.true_and] at e
      rw [e]
      exact k
    · rw [show Txt.isascii (S a) = false by simpa using z, Bool.false_and] at e
      rw [← e] at k
      exact k
theorem f_repr (T : Tx K mg) : ∃ fd, DAt K d_Number_repr fd ∧ FnOk P w K mg base CX0 4 (d_Number_repr.ad K) fd ["self"] (spGet (CN K) fun t b => .str (("Number(" : Str) ++ S (fL t b) ++ (")" : Str))) := by
  obtain ⟨fd, D⟩ := a_Number_repr T.c
  obtain ⟨fs, Ds, Fs⟩ := f_str (P := P) (w := w) (base := base) T
  have bs : Binds K fs ["self"] [] := FunD.bindsN Ds fun _ _ _ _ _ _ us hl => match us, hl with | [_], _ => rfl
  refine ⟨fd, D, ok_of (N := ["self"]) D sc_Number_repr (fun vs H Q E h => ?_) (fun cdv A outer s H vs Q E hr h => ?_)⟩
  · obtain ⟨p, t, b, rfl, _⟩ := h
    rfl
  · obtain ⟨p, t, b, rfl, N, st, sb, k⟩ := h
    obtain ⟨dx, hp⟩ := id N.at_
    refine ⟨_, (pss_one (ps_ret (pe_joined (.cons pe_str (.cons (pe_fmt (pe_callTy (call_strO (own_ok (f_meth_str T.c)) Fs bs hr) (by rfl) (n_str T) bo_str (pa_cons (pv 0) pa_nil))) (.cons pe_str .nil)))))), ?_⟩
    have l := f_len st sb
    have e1 : Str.empty ++ ("Number(" : Str) = ("Number(" : Str) := by decide +kernel
    have l1 : ("Number(" : Str).length = 7 := by decide +kernel
    have l2 : (")" : Str).length = 1 := by decide +kernel
    have lap : ∀ x y : Str, (x ++ y).length = x.length + y.length := fun x y => by
      show (x.cps ++ y.cps).size = _
      rw [Array.size_append]
      rfl
    refine ⟨_, rfl, ?_, _, rfl, p, dx, _, rfl, hp, p, t, b, rfl, N, st, sb, _, rfl, .inl ⟨_, rfl, ?_, _, rfl, ?_, _, rfl, ?_, ?_⟩⟩
    · rw [e1, l1]
      exact line_ge (by decide)
    · rw [S_len]
      exact line_ge (by omega)
    · rw [e1, lap, l1, S_len]
      exact line_ge (by omega)
    · rw [e1, lap, lap, l1, l2, S_len]
      exact line_ge (by omega)
    · show Q (.str _) H
      rw [e1]
      exact k
theorem f_eq (T : Tx K mg) : ∃ fd, DAt K d_Number_eq fd ∧ FnOk P w K mg base CX0 1 (d_Number_eq.ad K) fd ["self", "other"] (spEq (CN K) K) := by
  obtain ⟨fd, D⟩ := a_Number_eq T.c
  refine ⟨fd, D, ok_of (N := ["self", "other"]) D sc_Number_eq (fun vs H Q E h => ?_) (fun cdv A outer s H vs Q E hr h => ?_)⟩
  · obtain ⟨p, t, b, y, rfl, _⟩ := h
    rfl
  · obtain ⟨p, t, b, y, rfl, ⟨⟨dx, hp⟩, _, _⟩, h⟩ := h
    refine ⟨_, (pss_one (ps_ret (pe_and (pe_callB call_isi (by rfl) (n_isinstance T) bo_isinstance (pa_cons (pv 1) (pa_cons (pe_glob (v := .ref (gAd "Number" K)) rfl (g_Number T) rfl) pa_nil)))
      (pe_and (pe_cmpR op_eq (pe_fld (pv 0) rfl) (pe_fld (pv 1) rfl) (nomark _)) (pe_one (pe_cmpR op_eq (pe_fld (pv 0) rfl) (pe_fld (pv 1) rfl) (nomark _))))))), ?_⟩
    rcases h with ⟨q, u, c, rfl, ⟨⟨dy, hq⟩, _, _⟩, k⟩ | ⟨ty, hty, hk, k⟩
    · refine ⟨_, rfl, _, _, _, _, true, rfl, .own _, .base (ins_ok (f_ins T.c) hq (cl T)), of_decide_eq_true (f_kitO T.c), true, rfl, iteT ?_⟩
      refine ⟨_, rfl, p, CN K, dx, _, _, rfl, hp, cl T, nT T, numF_top _ _, _, rfl, q, CN K, dy, _, _, rfl, hq, cl T, nT T, numF_top _ _, rfl, _, rfl, ?_⟩
      have e1 : ∀ x y : Int, decide (V.int x = V.int y) = decide (x = y) := fun x y => by
        by_cases h : x = y
        · subst h; simp
        · rw [decide_eq_false h, decide_eq_false fun z => h (V.int.inj z)]
      rw [e1]
      refine ite2 (fun z => ?_) (fun z => ?_)
      · refine ⟨_, rfl, p, CN K, dx, _, _, rfl, hp, cl T, nB T, numF_bot _ _, _, rfl, q, CN K, dy, _, _, rfl, hq, cl T, nB T, numF_bot _ _, rfl, ?_⟩
        show Q (.bl _) H
        rw [e1]
        rw [z, Bool.true_and] at k
        exact k
      · rw [show decide (t = u) = false by simpa using z, Bool.false_and] at k
        exact k
    · exact ⟨_, rfl, _, _, _, _, false, rfl, .own _, hty, hk, false, rfl, iteF k⟩
theorem mkN (T : Tx K mg) : Mk K (CN K) (d_Number_init.ad K) := He.mkr_ok (f_mkr_Number T.c)
theorem b_init2 {fd : FuncData} (D : DAt K d_Number_init fd) : Binds K fd ["self", "top", "bottom"] [] := by
  obtain ⟨ds, r, b⟩ := FunD.binds1 (ps := ["self", "top", "bottom"]) D 3 1 (by intro z; exact nomatch z) rfl (fun T kV doc pm an cdv ct us its hu hi => match us, its, hu, hi with | [_, _, _], [_], _, _ => ⟨_, rfl, rfl⟩)
  cases r
  exact b
theorem b_init1 {fd : FuncData} (D : DAt K d_Number_init fd) : ∃ ds, Vals [.int 1] ds ∧ Binds K fd ["self", "top", "bottom"] ds :=
  FunD.binds1 (ps := ["self", "top", "bottom"]) D 2 0 (by intro z; exact nomatch z) rfl (fun T kV doc pm an cdv ct us its hu hi => match us, its, hu, hi with | [_, _], [_], _, _ => ⟨_, rfl, rfl⟩)
/-- a new spring from the script -/
def spSpring (K : Fr) : Sp := fun vs H Q _ => ∃ (a : Addr) (ns : List Int) (j : Nat), vs = [.ref a, .int j] ∧ SqL K H a (ns.map V.int) ∧ ns.length ≤ 63 ∧ j ≤ 63 ∧
  ∀ (p : Addr) (d e c : Int), H p = none → Spr d e c → Q (.ref p) (upd H p (.lst (sprL d e c)))
theorem c_spring (T : Tx K mg) : Cal P w K mg base 1 "_law_spring" (gAd "_law_spring" K) ["_law_script", "_law_spot"] (spSpring K) := by
  refine cal_of (d := d_l_spring) (N := ["_law_script", "_law_spot", "_law_mixed", "_law_at", "_law_own", "_law_digits"]) (a_l_spring T.c) rfl sc_l_spring (g_l_spring T) (fun _ _ _ _ _ _ us hl => match us, hl with | [_, _], _ => rfl) (fun vs H Q E h => ?_) (fun cdv A outer s H vs Q E hr h => ?_)
  · obtain ⟨a, ns, j, rfl, _⟩ := h
    rfl
  · obtain ⟨a, ns, j, rfl, hS, hn, hj, k⟩ := h
    refine ⟨_, (pss_cons (ps_set (i := 2) sc_l_spring.nd rfl (.inl rfl) pe_int)
 (pss_cons (ps_for PassesOwn.never rfl (pi_range1 (by rfl) (n_range T) (pa_cons (pe_callB (call_min2 rfl) (by rfl) (n_min T) bo_min (pa_cons (pe_callB call_len_seq (by rfl) (n_len T) bo_len (pa_cons (pv 0) pa_nil)) (pa_cons pe_int pa_nil))) pa_nil)) (pg_name (i := 3) sc_l_spring.nd rfl (.inl rfl))
 (pss_one (ps_set (i := 2) sc_l_spring.nd rfl (.inl rfl) (pe_op op_mod (pe_callTy call_int1 (by rfl) (n_int T) bo_int (pa_cons (pe_op op_add (pe_op op_add (pe_op op_mul (pv 2) pe_int) (pe_op op_mul (pe_ix ix_list (pv 0) (pv 3) (fun _ _ => rfl)) (pe_op op_add (pv 3) pe_int))) pe_int) pa_nil)) pe_int))))
 (pss_cons (ps_set (i := 4) sc_l_spring.nd rfl (.inl rfl) (pe_ifExp (pt_cmpR op_lt (pv 1) (pe_callB call_len_seq (by rfl) (n_len T) bo_len (pa_cons (pv 0) pa_nil)) (nomark _)) (pe_ix ix_list (pv 0) (pv 1) (fun _ _ => rfl)) (pe_op op_add (pe_op op_mul (pv 2) pe_int) (pe_op op_mul (pv 1) pe_int))))
 (pss_cons (ps_set (i := 5) sc_l_spring.nd rfl (.inl rfl) (pe_ifExp (PW.pt (pw_or (pt_cmpR op_lt (pv 4) pe_int (nomark _)) (pw_or1 (pt_cmpR op_ge (pv 4) (pe_op op_pow pe_int pe_int) (nomark _))))) (pe_callB call_abs (by rfl) (n_abs T) bo_abs (pa_cons (pv 4) pa_nil)) pe_int))
 (pss_one (ps_ret (pe_lst (pa_cons (pv 5) (pa_cons (pe_op op_mod (pe_callTy call_int1 (by rfl) (n_int T) bo_int (pa_cons (pe_op op_add (pe_op op_add (pe_op op_mul (pv 4) pe_int) (pv 2)) pe_int) pa_nil)) pe_int) (pa_cons pe_int pa_nil)))))))))), ?_⟩
    -- mixed = 23; for at in range(min(len(script), 5))
    have hlen : ((ns.map V.int).length : Int) = (ns.length : Int) := by rw [List.length_map]
    refine ⟨_, rfl, a, _, rfl, .inl hS, _, _, rfl, _, rfl, ?_, ?_, ?_⟩
    · rw [hlen]; split <;> omega
    · rw [hlen]; split <;> omega
    rw [hlen]
    generalize hm : (if (5 : Int) < (ns.length : Int) then (5 : Int) else (ns.length : Int)) = m
    have hm2 : m ≤ ns.length := by rw [← hm]; split <;> omega
    refine for_range (lo := 0) (n := m.toNat) (fun i σ H' => H' = H ∧ ∃ (x : Int) (y : Option V), σ = [some (.ref a), some (.int j), some (.int x), y, none, none]) ⟨rfl, 23, none, rfl⟩ ?_ ?_
    · rintro i σ H' hi ⟨rfl, x, y, rfl⟩
      have hi2 : i < ns.length := by omega
      obtain ⟨n, h1, h2⟩ := map_int_get hi2
      have e0 : (0 : Int) + (i : Int) = ((i : Nat) : Int) := by omega
      rw [e0]
      refine ⟨_, rfl, _, _, rfl, rfl, .inr ⟨by decide, by decide⟩, _, rfl, _, rfl, a, _, _, _, rfl, rfl, hS, h2, _, rfl, _, _, rfl, rfl, _, _, rfl, rfl, .inr ⟨by omega, by omega⟩, ?_⟩
      refine ⟨_, _, rfl, rfl, _, _, rfl, rfl, .inl ⟨_, rfl, _, _, rfl, rfl, (by show (0 : Int) < 1000000007; decide), rfl, _, _, rfl⟩⟩
    · rintro σ H' ⟨rfl, x, y, rfl⟩
      -- own
      refine ⟨_, rfl, _, rfl, a, _, rfl, .inl hS, _, _, rfl, rfl, _, rfl, ?_⟩
      have fin : ∀ o : Int, (fun (σ : L2.St) (H : Hp) => L2.tSeq (tAsg (tIf (tOr (tTest (tOp (rI0 fun i j => V.bl (decide (i < j))) (tVar 4) (tC (.int 0)))) (tTest (tOp (rI0 fun i j => V.bl (decide (j ≤ i))) (tVar 4) (tOp (rI CPow fun i j => V.int (i ^ j.toNat)) (tC (.int 10)) (tC (.int 18)))))) (tCB (fun xs H Q => ∃ i, xs = [.int i] ∧ Q (.int (if i < 0 then -i else i)) H) (tCons (tVar 4) tNil)) (tC (.int 0))) (gName 5))
          (tRet (tLst (tCons (tVar 5) (tCons (tOp (rI (fun _ j => 0 < j) fun i j => V.int (i % j)) (tCB (fun xs H Q => (∃ i, xs = [V.int i] ∧ Q (V.int i) H) ∨ ∃ k, xs = [V.bl k] ∧ Q (V.int (if k then 1 else 0)) H) (tCons (tOp (rI0 fun i j => V.int (i + j)) (tOp (rI0 fun i j => V.int (i + j)) (tOp (rI CMul fun i j => V.int (i * j)) (tVar 4) (tC (.int 2654435))) (tVar 2)) (tC (.int 12345))) tNil)) (tC (.int 1000000007))) (tCons (tC (.int 0)) tNil))))) { nx := fun _ H' => Q .non H', rt := Q } σ H) [some (.ref a), some (.int j), some (.int x), y, some (.int o), none] H' := by
        intro o
        refine ⟨_, rfl, _, _, rfl, rfl, _, rfl, ?_⟩
        have last : ∀ d : Int, 0 ≤ d → (fun (σ : L2.St) (H : Hp) => tRet (tLst (tCons (tVar 5) (tCons (tOp (rI (fun _ j => 0 < j) fun i j => V.int (i % j)) (tCB (fun xs H Q => (∃ i, xs = [V.int i] ∧ Q (V.int i) H) ∨ ∃ k, xs = [V.bl k] ∧ Q (V.int (if k then 1 else 0)) H) (tCons (tOp (rI0 fun i j => V.int (i + j)) (tOp (rI0 fun i j => V.int (i + j)) (tOp (rI CMul fun i j => V.int (i * j)) (tVar 4) (tC (.int 2654435))) (tVar 2)) (tC (.int 12345))) tNil)) (tC (.int 1000000007))) (tCons (tC (.int 0)) tNil)))) { nx := fun _ H' => Q .non H', rt := Q } σ H) [some (.ref a), some (.int j), some (.int x), y, some (.int o), some (.int d)] H' := by
          intro d hd
          refine ⟨_, rfl, _, rfl, _, _, rfl, rfl, .inr ⟨by decide, by decide⟩, _, rfl, _, _, rfl, rfl, _, _, rfl, rfl, .inl ⟨_, rfl, _, _, rfl, rfl, (by show (0 : Int) < 1000000007; decide), (by show 3 ≤ sizeLine; decide), fun p np => ?_⟩⟩
          exact k p _ _ 0 np ⟨hd, Int.emod_nonneg _ (by decide), Int.emod_lt_of_pos _ (by decide), by decide⟩
        refine ite2 (fun z => ?_) (fun z => ?_)
        · refine iteT ⟨_, rfl, _, rfl, ?_⟩
          exact last _ (by have := of_decide_eq_true z; split <;> omega)
        · refine ⟨_, rfl, _, _, rfl, rfl, ⟨by decide, by decide, by decide⟩, _, _, rfl, rfl, _, rfl, ?_⟩
          refine ite2 (fun z2 => ⟨_, rfl, _, rfl, ?_⟩) (fun z2 => ?_)
          · exact last _ (by split <;> omega)
          · exact last 0 (by omega)
      refine ite2 (fun z => ?_) (fun z => ?_)
      · have hj2 : j < ns.length := by
          have := of_decide_eq_true z
          rw [hlen] at this
          omega
        obtain ⟨n, h1, h2⟩ := map_int_get hj2
        exact ⟨_, rfl, _, rfl, a, _, _, _, rfl, rfl, hS, h2, fin n⟩
      · exact ⟨_, rfl, _, _, rfl, rfl, .inr ⟨by decide, by decide⟩, _, rfl, _, _, rfl, rfl, .inr ⟨by decide, by decide⟩, _, _, rfl, rfl, fin _⟩

end
end K03

namespace K03
open PySem PySem.Spec PyProof.Rows L2 Hk NumM NumT SX
open TL (numL)
/-- any text of some length is looked at -/
def spIn (C : Addr) : Sp := fun vs H Q _ => ∃ a : List Nat, vs = [.str (S a)] ∧ a.length ≤ 299 ∧ (look a = none → ∀ H', Same H H' → Q .non H') ∧ (∀ h d, look a = some (h, d) → NewNum C H Q (lowT h d) (lowB h d))
theorem sval_sz {a : List Nat} (h : dig (unsig a) = true) (hl : a.length ≤ 299) : Sz (sval a) := by
  have l : (unsig a).length ≤ 300 := by
    unfold unsig
    split
    · rename_i r
      rw [List.length_cons] at hl
      omega
    · omega
  have z := dval_lt h l
  unfold sval
  split
  · show (-((dval _ : Nat) : Int)).natAbs < _
    rw [Int.natAbs_neg]
    exact z
  · rename_i hn
    have e2 : unsig a = a := by
      unfold unsig
      split
      · rename_i r
        exact absurd rfl (hn r)
      · rfl
    rw [e2] at z
    exact z
section
variable {P : Program} {w : World} {K : Fr} {mg : Str → Option Value} {base : Heap}
/-- behind the parts -/
theorem in_rest {H H1 : Hp} {Q : VK} {C : Addr} {p q : List Nat} (s1 : Same H H1) (hp : p.length ≤ 299) (hq : q.length ≤ 299) (R : Option (Int × Int)) (hR : R = if dig (unsig p) = true ∧ dig q = true ∧ dval q ≠ 0 then some (sval p, ((dval q : Nat) : Int)) else none)
    (k0 : R = none → ∀ H', Same H H' → Q .non H') (k1 : ∀ h d, R = some (h, d) → NewNum C H Q (lowT h d) (lowB h d)) :
    (dig (unsig p) = false → Q .non H1) ∧ (dig (unsig p) = true → (dig q = false → Q .non H1) ∧ (dig q = true → intText? (S q) = some ((dval q : Nat) : Int) ∧ intText? (S p) = some (sval p) ∧ (dval q = 0 → Q .non H1) ∧
      (dval q ≠ 0 → ∀ x dx, H1 x = none → H1 dx = none → dx ≠ x → spInit C [.ref x, .int (sval p), .int ((dval q : Nat) : Int)] (upd (upd H1 dx (.own x)) x (.ins C dx [])) (fun v H2 => v = .non ∧ Q (.ref x) H2) E0))) := by
  refine ⟨fun e => k0 ?_ _ s1, fun e1 => ⟨fun e => k0 ?_ _ s1, fun e2 => ⟨int_dig e2 (by omega), int_sig e1 (by omega), fun e => k0 ?_ _ s1, fun e3 => mk_num (by omega) ?_ ?_⟩⟩⟩
  · rw [hR, if_neg (by rw [e]; simp)]
  · rw [hR, if_neg (by rw [e]; simp)]
  · rw [hR, if_neg (by rw [e]; simp)]
  · show (((dval q : Nat) : Int)).natAbs < _
    exact dval_lt e2 (by omega)
  · intro H2 p2 s2 np N
    exact k1 _ _ (by rw [hR, if_pos ⟨e1, e2, e3⟩]) H2 p2 (s1.trans s2) (s1.free np) N
theorem c_number_in (T : Tx K mg) : Cal P w K mg base 4 "_number_in" (gAd "_number_in" K) ["text"] (spIn (CN K)) := by
  have C_is_digits := c_digits (P := P) (w := w) (base := base) T
  obtain ⟨fi, Di, Fi⟩ := f_init (P := P) (w := w) (base := base) T
  refine cal_of (d := d_number_in) (N := ["text", "top", "slash", "bottom"]) (a_number_in T.c) rfl sc_number_in (g_number_in T) (fun _ _ _ _ _ _ us hl => match us, hl with | [_], _ => rfl) (fun vs H Q E h => ?_) (fun cdv A outer s H vs Q E hr h => ?_)
  · obtain ⟨a, rfl, _⟩ := h
    rfl
  · obtain ⟨a, rfl, hl, k0, k1⟩ := h
    have hr1 : Room 1 _ := hr.mono (by decide)
    refine ⟨_, (pss_cons (ps_asg (pe_partition (pv 0) pe_str) (pg_tup (by rfl) (pgs_cons (pg_name (i := 1) sc_number_in.nd rfl (.inl rfl)) (pgs_cons (pg_name (i := 2) sc_number_in.nd rfl (.inl rfl)) (pgs_cons (pg_name (i := 3) sc_number_in.nd rfl (.inl rfl)) pgs_nil)))))
      (pss_cons (ps_if (pt_not (pt_truth (pv 2) (by intro _; rfl))) (pss_one (ps_set (i := 3) sc_number_in.nd rfl (.inl rfl) pe_str)) pss_nil)
      (pss_cons (ps_if (PW.pt (pw_or (pt_not (pt_val (pe_c C_is_digits hr1 (pa_cons (pe_bm PySem.F.plainAttrs_str PySem.F.slot_str_removeprefix PySem.F.type_str_removeprefix mt_removeprefix (pv 1) (pa_cons pe_str pa_nil)) pa_nil))))
          (pw_or1 (pt_not (pt_val (pe_c C_is_digits hr1 (pa_cons (pv 3) pa_nil))))))) (pss_one (ps_ret pe_non)) pss_nil)
      (pss_cons (ps_if (pt_cmpR op_eq (pe_callTy call_int_str (by rfl) (n_int T) bo_int (pa_cons (pv 3) pa_nil)) pe_int (nomark _)) (pss_one (ps_ret pe_non)) pss_nil)
      (pss_one (ps_ret (pe_make (mkN T) Fi hr rfl (g_Number T) (b_init2 Di) .nil pass0 (pa_cons (pe_callTy call_int_str (by rfl) (n_int T) bo_int (pa_cons (pv 1) pa_nil)) (pa_cons (pe_callTy call_int_str (by rfl) (n_int T) bo_int (pa_cons (pv 3) pa_nil)) pa_nil))))))))), ?_⟩
    refine ⟨_, rfl, ⟨_, rfl⟩, _, _, rfl, rfl, by decide +kernel, (by rw [S_len]; exact line_ge (by omega)), fun p np => ?_⟩
    rw [slash_S, part_cut]
    have cl := cut_len a
    have hlk : look a = if dig (unsig (cut a).1) = true ∧ dig (((cut a).2).getD [49]) = true ∧ dval (((cut a).2).getD [49]) ≠ 0 then some (sval (cut a).1, ((dval (((cut a).2).getD [49]) : Nat) : Int)) else none := rfl
    have e45 : Txt.removeprefix (S (cut a).1) ("-" : Str) = S (unsig (cut a).1) := by rw [minus_S, rmp_all]
    have hp : (cut a).1.length ≤ 299 := by omega
    cases ec : (cut a).2 with
    | some q =>
      have hq : q.length ≤ 299 := by have := cl.2 q ec; omega
      rw [ec] at hlk
      dsimp only [Option.getD] at hlk ⊢
      refine ⟨p, _, rfl, .inl (.inl upd_same), rfl, _, _, rfl, _, _, rfl, _, _, rfl, rfl, ?_⟩
      refine ⟨_, rfl, true, truS (a := [47]) (by decide), iteF ?_⟩
      have s1 : Same H (upd H p (.tup [.str (S (cut a).1), .str (S [47]), .str (S q)])) := same_upd np
      have Z := in_rest s1 hp hq (look a) hlk k0 k1
      refine ⟨_, rfl, rfl, _, _, rfl, rfl, (by rw [S_len]; exact line_ge (by omega)), unsig (cut a).1, (by rw [e45]; rfl), dig (unsig (cut a).1), rfl, ?_⟩
      cases e1 : dig (unsig (cut a).1) with
      | false => exact iteT (iteT (Z.1 e1))
      | true =>
      have Z1 := Z.2 e1
      refine iteF ?_
      refine ⟨_, rfl, q, rfl, dig q, rfl, ?_⟩
      cases e2 : dig q with
      | false => exact iteT (Z1.1 e2)
      | true =>
      obtain ⟨i1, i2, z0, z1⟩ := Z1.2 e2
      refine iteF ?_
      refine ⟨_, rfl, _, _, rfl, i1, (by rw [S_len]; omega), rfl, _, rfl, ?_⟩
      refine ite2 (fun z => z0 ?_) (fun z => ?_)
      · have z := V.int.inj (of_decide_eq_true z)
        omega
      · have hz : dval q ≠ 0 := fun e => z (decide_eq_true (by rw [e]; rfl))
        refine ⟨_, rfl, _, _, rfl, i2, (by rw [S_len]; omega), _, rfl, _, _, rfl, i1, (by rw [S_len]; omega), ?_⟩
        exact z1 hz
    | none =>
      have hq : ([49] : List Nat).length ≤ 299 := by decide
      rw [ec] at hlk
      dsimp only [Option.getD] at hlk ⊢
      have e1 : ("1" : Str) = S [49] := by decide +kernel
      refine ⟨p, _, rfl, .inl (.inl upd_same), rfl, _, _, rfl, _, _, rfl, _, _, rfl, rfl, ?_⟩
      refine ⟨_, rfl, false, truS (a := []) (by decide), iteT ?_⟩
      rw [e1]
      have s1 : Same H (upd H p (.tup [.str (S (cut a).1), .str (S []), .str (S [])])) := same_upd np
      have Z := in_rest s1 hp hq (look a) hlk k0 k1
      refine ⟨_, rfl, rfl, _, _, rfl, rfl, (by rw [S_len]; exact line_ge (by omega)), unsig (cut a).1, (by rw [e45]; rfl), dig (unsig (cut a).1), rfl, ?_⟩
      cases e1 : dig (unsig (cut a).1) with
      | false => exact iteT (iteT (Z.1 e1))
      | true =>
      have Z1 := Z.2 e1
      refine iteF ?_
      refine ⟨_, rfl, [49], rfl, dig [49], rfl, ?_⟩
      cases e2 : dig [49] with
      | false => exact iteT (Z1.1 e2)
      | true =>
      obtain ⟨i1, i2, z0, z1⟩ := Z1.2 e2
      refine iteF ?_
      refine ⟨_, rfl, _, _, rfl, i1, (by rw [S_len]; omega), rfl, _, rfl, ?_⟩
      refine ite2 (fun z => z0 ?_) (fun z => ?_)
      · have z := V.int.inj (of_decide_eq_true z)
        omega
      · have hz : dval [49] ≠ 0 := fun e => z (decide_eq_true (by rw [e]; rfl))
        refine ⟨_, rfl, _, _, rfl, i2, (by rw [S_len]; omega), _, rfl, _, _, rfl, i1, (by rw [S_len]; omega), ?_⟩
        exact z1 hz
end
end K03

namespace K03
open PySem PySem.Spec PyProof.Rows L2 Hk NumM NumT SX
open TL (numL)
/-- InvalidText with this value is let out -/
abbrev BadText (K : Fr) (H : Hp) (E : XK) (x : V) : Prop := ∀ (H' : Hp) (d : Addr), Same H H' → H' d = none → E (.ref (He.ga K "InvalidText")) (some d) (upd H' d (.xd [("value", x)]))
/-- any value is read: a text of some length, or what is no text -/
def spReadX (C : Addr) (K : Fr) : Sp := fun vs H Q E => ∃ x : V, vs = [x] ∧
  ((∃ a : List Nat, x = .str (S a) ∧ a.length ≤ 299 ∧ (∀ t b : Int, a = fL t b → isT a = true → Sz t → Sz b → NewNum C H Q t b) ∧ (isT a = false → BadText K H E x)) ∨
   (∃ ty, TyX K H x ty ∧ PySem.W.kitOne K ty (.type "str") = some false ∧ BadText K H E x))
theorem look_sz {a : List Nat} {h d : Int} (e : NumT.look a = some (h, d)) (hl : a.length ≤ 299) : Sz (lowT h d) ∧ Sz (lowB h d) := by
  unfold NumT.look at e
  dsimp only at e
  split at e
  · rename_i c
    cases e
    have cl := cut_len a
    have hp := sval_sz c.1 (by omega)
    have hq : (((cut a).2).getD [49]).length ≤ 299 := by
      cases ec : (cut a).2 with
      | none => decide
      | some q => exact Nat.le_trans (cl.2 q ec) hl
    have hd : Sz ((dval (((cut a).2).getD [49]) : Nat) : Int) := by
      show (((dval _ : Nat) : Int)).natAbs < _
      exact dval_lt c.2.1 (by omega)
    have nz : ((dval (((cut a).2).getD [49]) : Nat) : Int) ≠ 0 := by
      have := c.2.2
      omega
    exact ⟨Nat.lt_of_le_of_lt (lowT_le nz) hp, Nat.lt_of_le_of_lt (lowB_le nz) hd⟩
  · exact nomatch e
section
variable {P : Program} {w : World} {K : Fr} {mg : Str → Option Value} {base : Heap}
theorem xr_text (T : Tx K mg) : XrC P w K mg base "InvalidText" "value" := by
  obtain ⟨c1, c2⟩ := He.ba (f_init_text T.c)
  obtain ⟨fd, D⟩ := a_InvalidText_init T.c
  have b : Binds K fd [("self" : Str), "value"] [] := FunD.bindsN D fun _ _ _ _ _ _ us hl => match us, hl with | [_, _], _ => rfl
  refine ⟨oexB_ok (f_oex_text T.c), (own_ok c1).at_, of_decide_eq_true c2, g_InvalidText T, fd, xin_ok D sc_InvalidText_init (oexB_ok (f_oex_text T.c)) (He.eqO_ok (f_nof_text T.c)) fun cdv A outer s H E => pss_one (ps_ost (pv 0) (pv 1)), b⟩
theorem f_readX (T : Tx K mg) : ∃ fd, DAt K d_Number_read fd ∧ FnOk P w K mg base (L2N.CX P w) 6 (d_Number_read.ad K) fd ["text"] (spReadX (CN K) K) := by
  obtain ⟨fd, D⟩ := a_Number_read T.c
  have C_number_in := c_number_in (P := P) (w := w) (base := base) T
  obtain ⟨fs, Ds, Fs⟩ := f_str (P := P) (w := w) (base := base) T
  have bs : Binds K fs ["self"] [] := FunD.bindsN Ds fun _ _ _ _ _ _ us hl => match us, hl with | [_], _ => rfl
  have XT := xr_text (P := P) (w := w) (base := base) T
  refine ⟨fd, D, okn_of (N := ["text", "number"]) D sc_Number_read (fun vs H Q E h => ?_) (fun cdv A outer s H vs Q E hr h => ?_)⟩
  · obtain ⟨x, rfl, _⟩ := h
    rfl
  · obtain ⟨x, rfl, h⟩ := h
    refine ⟨_, (pss_cons (ps_if (pt_not (pt_val (pe_callB call_isi (by rfl) (n_isinstance T) bo_isinstance (pa_cons (pv 0) (pa_cons (pe_bltn (v := .ty "str") (by rfl) (n_str T) (by decide +kernel) rfl) pa_nil)))))
        (pss_one (ps_rz XT (hr.mono (by decide)) rfl (L2N.takes_of rfl rfl rfl rfl) (pa_cons (pv 0) pa_nil))) pss_nil)
      (pss_cons (ps_set (i := 1) sc_Number_read.nd rfl (.inl rfl) (pe_c C_number_in (hr.mono (by decide)) (pa_cons (pv 0) pa_nil)))
      (pss_cons (ps_if (PW.pt (pw_or (pt_cmpR op_isN (pv 1) pe_non (nomark _)) (pw_or1 (pt_cmpR op_ne (pe_callTy (call_strO (own_ok (f_meth_str T.c)) Fs bs (hr.mono (by decide))) (by rfl) (n_str T) bo_str (pa_cons (pv 1) pa_nil)) (pv 0) (nomark _)))))
        (pss_one (ps_rz XT (hr.mono (by decide)) rfl (L2N.takes_of rfl rfl rfl rfl) (pa_cons (pv 0) pa_nil))) pss_nil)
      (pss_one (ps_ret (pv 1)))))), ?_⟩
    rcases h with ⟨a, rfl, hl, k1, k2⟩ | ⟨ty, hty, hk, k⟩
    · refine ⟨_, rfl, _, _, .type "str", .type "str", true, rfl, .ty _, .base (.str _), kit_ty (by decide +kernel), true, rfl, iteF ?_⟩
      have bad : (NumT.look a = none ∨ ∃ h d, NumT.look a = some (h, d) ∧ fL (lowT h d) (lowB h d) ≠ a) → isT a = false := fun z => by
        cases e : isT a with
        | false => rfl
        | true =>
          obtain ⟨h, d, e1, e2⟩ := (look_iff a).mpr e
          rcases z with z | ⟨h', d', z1, z2⟩
          · rw [z] at e1; cases e1
          · rw [z1] at e1; cases e1
            exact absurd e2 z2
      refine ⟨_, rfl, a, rfl, hl, fun e H1 s1 => ?_, fun h d e H1 p s1 np N => ?_⟩
      · refine ⟨_, rfl, rfl, _, rfl, iteT ?_⟩
        exact ⟨_, rfl, xin_mk fun dd nd => k2 (bad (.inl e)) H1 dd s1 nd⟩
      · obtain ⟨dx, hp⟩ := id N.at_
        have sz : Sz (lowT h d) ∧ Sz (lowB h d) := look_sz e hl
        refine ⟨_, rfl, rfl, _, rfl, iteF ?_⟩
        refine ⟨_, rfl, p, dx, _, rfl, hp, p, _, _, rfl, N, sz.1, sz.2, _, rfl, _, rfl, rfl, _, rfl, ?_⟩
        by_cases z : fL (lowT h d) (lowB h d) = a
        · refine iteNS (show V.str (S (fL (lowT h d) (lowB h d))) = V.str (S a) by rw [z]) ?_
          refine ⟨_, rfl, k1 _ _ z.symm ((look_iff a).mp ⟨h, d, e, z⟩) sz.1 sz.2 H1 p s1 np N⟩
        · refine iteNSn (fun q => z (S_inj (V.str.inj q))) ?_
          exact ⟨_, rfl, xin_mk fun dd nd => k2 (bad (.inr ⟨h, d, e, z⟩)) H1 dd s1 nd⟩
    · refine ⟨_, rfl, _, _, _, .type "str", false, rfl, .ty _, hty, hk, false, rfl, iteT ?_⟩
      exact ⟨_, rfl, xin_mk fun dd nd => k H dd (fun _ _ q => q) nd⟩
end
end K03

namespace K03
open PySem PySem.Spec PyProof.Rows L2 Hk NumM NumT SX L2H
open TL (numL)
def spLow : Sp := fun vs H Q _ => ∃ h b : Int, vs = [.int h, .int b] ∧ b ≠ 0 ∧ Sz h ∧ Sz b ∧ ∀ p : Addr, H p = none → Q (.ref p) (upd H p (.tup [.int (lowT h b), .int (lowB h b)]))
theorem eqv_pair (a b c d : Int) : PyData.eqv (.tuple [.int a, .int b]) (.tuple [.int c, .int d]) = (decide (a = c) && decide (b = d)) := by
  have e : ∀ x y : Int, (x == y) = decide (x = y) := fun x y => by rw [Bool.eq_iff_iff]; simp
  simp [PyData.eqv, PyData.eqvAll, e]
/-- the law's own reader, of any value -/
def spIsT (K : Fr) : Sp := fun vs H Q _ => ∃ x : V, vs = [x] ∧
  ((∃ a : List Nat, x = .str (S a) ∧ a.length ≤ 299 ∧ (∀ c ∈ a, c < 128) ∧ ∀ H', Same H H' → Q (.bl (isT a)) H') ∨
   (∃ ty, TyX K H x ty ∧ PySem.W.kitOne K ty (.type "str") = some false ∧ Q (.bl false) H))
abbrev N_l_is_text : List Str := ["_law_line", "_law_parts_here", "_law_body", "_law_digits", "_law_sign", "_law_part", "_law_top", "_law_bottom"]
section
variable {P : Program} {w : World} {K : Fr} {mg : Str → Option Value} {base : Heap}
theorem c_low (T : Tx K mg) : Cal P w K mg base 1 "_law_low" (gAd "_law_low" K) ["_law_top", "_law_bottom"] spLow := by
  refine cal_of (d := d_l_low) (N := ["_law_top", "_law_bottom", "_law_one_here", "_law_two", "_law_sign"]) (a_l_low T.c) rfl sc_l_low (g_l_low T) (fun _ _ _ _ _ _ us hl => match us, hl with | [_, _], _ => rfl) (fun vs H Q E h => ?_) (fun cdv A outer s H vs Q E hr h => ?_)
  · obtain ⟨h, b, rfl, _⟩ := h
    rfl
  · obtain ⟨h, b, rfl, hb, sh, sb, k⟩ := h
    refine ⟨_, (pss_cons (ps_par (i := 2) (j := 3) (by rfl) sc_l_low.nd rfl rfl (by decide) rfl rfl (pa_cons (pe_callB call_abs (by rfl) (n_abs T) bo_abs (pa_cons (pv 0) pa_nil)) (pa_cons (pe_callB call_abs (by rfl) (n_abs T) bo_abs (pa_cons (pv 1) pa_nil)) pa_nil)) (by rfl))
 (pss_cons (ps_while PassesOwn.never (pt_cmpR op_ne (pv 3) pe_int (nomark _))
 (pss_one (ps_par (i := 2) (j := 3) (by rfl) sc_l_low.nd rfl rfl (by decide) rfl rfl (pa_cons (pv 3) (pa_cons (pe_op op_modN (pv 2) (pv 3)) pa_nil)) (by rfl))))
 (pss_cons (ps_set (i := 4) sc_l_low.nd rfl (.inl rfl) (pe_ifExp (pt_cmpR op_lt (pv 1) pe_int (nomark _)) (pe_un un_neg pe_int) pe_int))
 (pss_one (ps_ret (pe_tup (pa_cons (pe_op op_fdivW (pe_op op_mul (pv 4) (pv 0)) (pv 2)) (pa_cons (pe_op op_fdivW (pe_op op_mul (pv 4) (pv 1)) (pv 2)) pa_nil)))))))), ?_⟩
    have abse : ∀ z : Int, (if z < 0 then -z else z) = ((z.natAbs : Nat) : Int) := fun z => by split <;> omega
    refine ⟨_, rfl, _, rfl, _, rfl, _, rfl, _, _, rfl, ?_⟩
    rw [abse, abse]
    refine while_by (fun σ H' => H' = H ∧ ∃ x y : Nat, σ = [some (.int h), some (.int b), some (.int x), some (.int y), none] ∧ Nat.gcd x y = Nat.gcd h.natAbs b.natAbs)
      (fun σ _ => match σ with | [_, _, _, some (.int y), _] => y.natAbs | _ => 0) ⟨rfl, h.natAbs, b.natAbs, rfl, rfl⟩ ?_ ?_
    · rintro σ H' ⟨rfl, x, y, rfl, hg⟩
      refine ⟨_, rfl, rfl, _, rfl, ?_⟩
      by_cases hy : y = 0
      · subst hy
        rw [show (V.int ((0 : Nat) : Int)) = V.int 0 from rfl]
        refine iteNS rfl ?_
        -- behind the loop
        rw [Nat.gcd_zero_right] at hg
        have hgd : ((x : Nat) : Int) = gd h b := by rw [hg]; rfl
        have hp := gd_pos (h := h) hb
        refine ⟨_, rfl, _, _, rfl, rfl, _, rfl, ?_⟩
        have fin : ∀ sg' : Int, sg' = sg b → (fun (σ : L2.St) (H : Hp) => tRet (tTup (tCons (tOp (rI CDivW fun i j => .int (i / j)) (tOp (rI CMul fun i j => .int (i * j)) (tVar 4) (tVar 0)) (tVar 2)) (tCons (tOp (rI CDivW fun i j => .int (i / j)) (tOp (rI CMul fun i j => .int (i * j)) (tVar 4) (tVar 1)) (tVar 2)) tNil))) { nx := fun _ H' => Q .non H', rt := Q } σ H) [some (.int h), some (.int b), some (.int x), some (.int ((0 : Nat) : Int)), some (.int sg')] H' := by
          rintro s' rfl
          rw [hgd]
          have sgs : CMul (sg b) h ∧ CMul (sg b) b := by unfold sg CMul; split <;> exact ⟨.inl ⟨by decide, by decide⟩, .inl ⟨by decide, by decide⟩⟩
          have dv : ∀ z : Int, CDivW z (gd h b) := fun z => wide_div hp (Nat.lt_of_le_of_lt (gd_le hb) sb) (by decide) (by decide)
          refine ⟨_, rfl, _, rfl, _, _, rfl, rfl, sgs.1, _, rfl, _, _, rfl, rfl, dv _, _, rfl, _, rfl, _, _, rfl, rfl, sgs.2, _, rfl, _, _, rfl, rfl, dv _, (by show 2 ≤ sizeLine; decide), fun p np => ?_⟩
          exact k p np
        refine ite2 (fun z => ?_) (fun z => ?_)
        · exact ⟨_, rfl, fin _ (by unfold sg; rw [if_pos (of_decide_eq_true z)])⟩
        · exact fin _ (by unfold sg; rw [if_neg (fun q => z (decide_eq_true q))])
      · have hd : (!decide (V.int ((y : Nat) : Int) = V.int 0)) = true := by
          rw [Bool.not_eq_true', decide_eq_false]
          intro q
          have := V.int.inj q
          omega
        rw [hd]
        refine iteT ?_
        refine ⟨_, rfl, _, rfl, _, rfl, _, _, rfl, rfl, (by show ((y : Nat) : Int) ≠ 0; omega), _, _, rfl, ⟨rfl, y, x % y, ?_, ?_⟩, ?_⟩
        · show [_, _, _, some (V.int ((x : Int).fmod (y : Int))), _] = _
          rw [show ((x : Nat) : Int).fmod ((y : Nat) : Int) = ((x % y : Nat) : Int) from by rw [Int.fmod_eq_emod_of_nonneg _ (by omega)]; rfl]
        · rw [Nat.gcd_comm, ← Nat.gcd_rec, Nat.gcd_comm, hg]
        · show ((x : Int).fmod (y : Int)).natAbs < (((y : Nat) : Int)).natAbs
          rw [show ((x : Nat) : Int).fmod ((y : Nat) : Int) = ((x % y : Nat) : Int) from by rw [Int.fmod_eq_emod_of_nonneg _ (by omega)]; rfl]
          have := Nat.mod_lt x (show 0 < y by omega)
          omega
    · rintro σ H' Q1 Q2 hm ⟨v, e, hsc, kk, ek, q⟩
      exact ⟨v, e, hsc, kk, ek, hm _ _ q⟩
theorem ch_low (T : Tx K mg) : CalH P w K mg base 1 "_law_low" (gAd "_law_low" K) ["_law_top", "_law_bottom"] spLow := by
  refine calh_n (d := d_l_low) (N := ["_law_top", "_law_bottom", "_law_one_here", "_law_two", "_law_sign"]) (a_l_low T.c) rfl sc_l_low (g_l_low T) (fun _ _ _ _ _ _ us hl => match us, hl with | [_, _], _ => rfl) (fun vs H Q E h => ?_) (fun cdv A outer s H vs Q E pp hot hr h => ?_)
  · obtain ⟨h, b, rfl, _⟩ := h
    rfl
  · obtain ⟨h, b, rfl, hb, sh, sb, k⟩ := h
    refine ⟨_, (pss_cons (ps_parH (i := 2) (j := 3) (hotC_n hot List.mem_cons_self) sc_l_low.nd rfl rfl (by decide) rfl rfl (pa_cons (pe_callB call_abs (by rfl) (n_abs T) bo_abs (pa_cons (pv 0) pa_nil)) (pa_cons (pe_callB call_abs (by rfl) (n_abs T) bo_abs (pa_cons (pv 1) pa_nil)) pa_nil)) (by rfl))
 (pss_cons (ps_while PassesOwn.never (pt_cmpR op_ne (pv 3) pe_int (nomark _))
 (pss_one (ps_parH (i := 2) (j := 3) (hotC_n hot List.mem_cons_self) sc_l_low.nd rfl rfl (by decide) rfl rfl (pa_cons (pv 3) (pa_cons (pe_op op_modN (pv 2) (pv 3)) pa_nil)) (by rfl))))
 (pss_cons (ps_set (i := 4) sc_l_low.nd rfl (.inl rfl) (pe_ifExp (pt_cmpR op_lt (pv 1) pe_int (nomark _)) (pe_un un_neg pe_int) pe_int))
 (pss_one (ps_ret (pe_tup (pa_cons (pe_op op_fdivW (pe_op op_mul (pv 4) (pv 0)) (pv 2)) (pa_cons (pe_op op_fdivW (pe_op op_mul (pv 4) (pv 1)) (pv 2)) pa_nil)))))))), ?_⟩
    have abse : ∀ z : Int, (if z < 0 then -z else z) = ((z.natAbs : Nat) : Int) := fun z => by split <;> omega
    refine ⟨_, rfl, _, rfl, _, rfl, _, rfl, _, _, rfl, ?_⟩
    rw [abse, abse]
    refine while_by (fun σ H' => H' = H ∧ ∃ x y : Nat, σ = [some (.int h), some (.int b), some (.int x), some (.int y), none] ∧ Nat.gcd x y = Nat.gcd h.natAbs b.natAbs)
      (fun σ _ => match σ with | [_, _, _, some (.int y), _] => y.natAbs | _ => 0) ⟨rfl, h.natAbs, b.natAbs, rfl, rfl⟩ ?_ ?_
    · rintro σ H' ⟨rfl, x, y, rfl, hg⟩
      refine ⟨_, rfl, rfl, _, rfl, ?_⟩
      by_cases hy : y = 0
      · subst hy
        rw [show (V.int ((0 : Nat) : Int)) = V.int 0 from rfl]
        refine iteNS rfl ?_
        -- behind the loop
        rw [Nat.gcd_zero_right] at hg
        have hgd : ((x : Nat) : Int) = gd h b := by rw [hg]; rfl
        have hp := gd_pos (h := h) hb
        refine ⟨_, rfl, _, _, rfl, rfl, _, rfl, ?_⟩
        have fin : ∀ sg' : Int, sg' = sg b → (fun (σ : L2.St) (H : Hp) => tRet (tTup (tCons (tOp (rI CDivW fun i j => .int (i / j)) (tOp (rI CMul fun i j => .int (i * j)) (tVar 4) (tVar 0)) (tVar 2)) (tCons (tOp (rI CDivW fun i j => .int (i / j)) (tOp (rI CMul fun i j => .int (i * j)) (tVar 4) (tVar 1)) (tVar 2)) tNil))) { nx := fun _ H' => Q .non H', rt := Q } σ H) [some (.int h), some (.int b), some (.int x), some (.int ((0 : Nat) : Int)), some (.int sg')] H' := by
          rintro s' rfl
          rw [hgd]
          have sgs : CMul (sg b) h ∧ CMul (sg b) b := by unfold sg CMul; split <;> exact ⟨.inl ⟨by decide, by decide⟩, .inl ⟨by decide, by decide⟩⟩
          have dv : ∀ z : Int, CDivW z (gd h b) := fun z => wide_div hp (Nat.lt_of_le_of_lt (gd_le hb) sb) (by decide) (by decide)
          refine ⟨_, rfl, _, rfl, _, _, rfl, rfl, sgs.1, _, rfl, _, _, rfl, rfl, dv _, _, rfl, _, rfl, _, _, rfl, rfl, sgs.2, _, rfl, _, _, rfl, rfl, dv _, (by show 2 ≤ sizeLine; decide), fun p np => ?_⟩
          exact k p np
        refine ite2 (fun z => ?_) (fun z => ?_)
        · exact ⟨_, rfl, fin _ (by unfold sg; rw [if_pos (of_decide_eq_true z)])⟩
        · exact fin _ (by unfold sg; rw [if_neg (fun q => z (decide_eq_true q))])
      · have hd : (!decide (V.int ((y : Nat) : Int) = V.int 0)) = true := by
          rw [Bool.not_eq_true', decide_eq_false]
          intro q
          have := V.int.inj q
          omega
        rw [hd]
        refine iteT ?_
        refine ⟨_, rfl, _, rfl, _, rfl, _, _, rfl, rfl, (by show ((y : Nat) : Int) ≠ 0; omega), _, _, rfl, ⟨rfl, y, x % y, ?_, ?_⟩, ?_⟩
        · show [_, _, _, some (V.int ((x : Int).fmod (y : Int))), _] = _
          rw [show ((x : Nat) : Int).fmod ((y : Nat) : Int) = ((x % y : Nat) : Int) from by rw [Int.fmod_eq_emod_of_nonneg _ (by omega)]; rfl]
        · rw [Nat.gcd_comm, ← Nat.gcd_rec, Nat.gcd_comm, hg]
        · show ((x : Int).fmod (y : Int)).natAbs < (((y : Nat) : Int)).natAbs
          rw [show ((x : Nat) : Int).fmod ((y : Nat) : Int) = ((x % y : Nat) : Int) from by rw [Int.fmod_eq_emod_of_nonneg _ (by omega)]; rfl]
          have := Nat.mod_lt x (show 0 < y by omega)
          omega
    · rintro σ H' Q1 Q2 hm ⟨v, e, hsc, kk, ek, q⟩
      exact ⟨v, e, hsc, kk, ek, hm _ _ q⟩
theorem c_is_text (T : Tx K mg) : Cal P w K mg base 2 "_law_is_text" (gAd "_law_is_text" K) ["_law_line"] (spIsT K) := by
  have C_l_low := c_low (P := P) (w := w) (base := base) T
  refine cal_of (d := d_l_is_text) (N := N_l_is_text) (a_l_is_text T.c) rfl sc_l_is_text (g_l_is_text T) (fun _ _ _ _ _ _ us hl => match us, hl with | [_], _ => rfl) (fun vs H Q E h => ?_) (fun cdv A outer s H vs Q E hr h => ?_)
  · obtain ⟨x, rfl, _⟩ := h
    rfl
  · obtain ⟨x, rfl, h⟩ := h
    refine ⟨_, (pss_cons (ps_if (pt_not (pt_val (pe_callB call_isi (by rfl) (n_isinstance T) bo_isinstance (pa_cons (pv 0) (pa_cons (pe_bltn (v := .ty "str") (by rfl) (n_str T) (by decide +kernel) rfl) pa_nil)))))
 (pss_one (ps_ret pe_bl))
 pss_nil)
 (pss_cons (ps_set (i := 1) sc_l_is_text.nd rfl (.inl rfl) (pe_split (pv 0) pe_str))
 (pss_cons (ps_set (i := 2) sc_l_is_text.nd rfl (.inl rfl) (pe_ifExp (pt_cmpR op_eq (pe_slice C8.sl_txt (pe_ix ix_list (pv 1) pe_int (fun _ _ => rfl)) po_none (po_some pe_int)) pe_str (nomark _)) (pe_slice C8.sl_txt (pe_ix ix_list (pv 1) pe_int (fun _ _ => rfl)) (po_some pe_int) po_none) (pe_ix ix_list (pv 1) pe_int (fun _ _ => rfl))))
 (pss_cons (ps_set (i := 3) sc_l_is_text.nd rfl (.inl rfl) (pe_op op_cat (pe_lst (pa_cons (pv 2) pa_nil)) (pe_slice sl_list (pv 1) (po_some pe_int) po_none)))
 (pss_cons (ps_if (PW.pt (pw_or (pt_cmpR op_gt (pe_callB call_len_seq (by rfl) (n_len T) bo_len (pa_cons (pv 3) pa_nil)) pe_int (nomark _)) (pw_or (pt_cmpR op_in_seq pe_str (pv 3) (by with_unfolding_all rfl)) (pw_or1 (pt_not (pt_val (pe_callB (cr_all rfl) (by rfl) (n_all T) bo_all (pa_cons (pe_lc (own := [("_law_sign", 4)]) (g := gName 4) (tt := tYes) rfl sc_l_is_text.nd (pi_str (pe_join pe_str (pv 3))) (blkOk_by (N := N_l_is_text) (sc := defScope s_l_is_text) (by decide +kernel)) (fun _ _ _ _ _ => pg_name (i := 4) sc_l_is_text.nd rfl (.inl rfl)) (fun _ _ _ _ _ => pts_nil) (fun _ _ _ _ _ => (pe_cmpR op_in_sign (pv 4) pe_str (by with_unfolding_all rfl)))) pa_nil))))))))
 (pss_one (ps_ret pe_bl))
 pss_nil)
 (pss_cons (ps_if (PW.pt (pw_or (pt_val (pe_callB (cr_any rfl) (by rfl) (n_any T) bo_any (pa_cons (pe_lc (own := [("_law_part", 5)]) (g := gName 5) (tt := tYes) rfl sc_l_is_text.nd (pi_list (pv 3)) (blkOk_by (N := N_l_is_text) (sc := defScope s_l_is_text) (by decide +kernel)) (fun _ _ _ _ _ => pg_name (i := 5) sc_l_is_text.nd rfl (.inl rfl)) (fun _ _ _ _ _ => pts_nil) (fun _ _ _ _ _ => (pe_and (pe_cmpR op_eq (pe_ix ix_str (pv 5) pe_int (fun _ _ => rfl)) pe_str (nomark _)) (pe_one (pe_cmpR op_ne (pv 5) pe_str (nomark _)))))) pa_nil))) (pw_or1 (pt_cmpR op_eq (pv 0) pe_str (nomark _)))))
 (pss_one (ps_ret pe_bl))
 pss_nil)
 (pss_cons (ps_if (pt_cmpR op_eq (pe_callB call_len_seq (by rfl) (n_len T) bo_len (pa_cons (pv 3) pa_nil)) pe_int (nomark _))
 (pss_one (ps_ret pe_bl))
 pss_nil)
 (pss_cons (ps_par (i := 6) (j := 7) (by rfl) sc_l_is_text.nd rfl rfl (by decide) rfl rfl (pa_cons (pe_callTy call_int_str (by rfl) (n_int T) bo_int (pa_cons (pe_ix ix_list (pv 3) pe_int (fun _ _ => rfl)) pa_nil)) (pa_cons (pe_callTy call_int_str (by rfl) (n_int T) bo_int (pa_cons (pe_ix ix_list (pv 3) pe_int (fun _ _ => rfl)) pa_nil)) pa_nil)) (by rfl))
 (pss_one (ps_ret (pe_and (pe_cmpR op_gt (pv 7) pe_int (nomark _)) (pe_one (pe_cmpR (op_eqD hr.units) (pe_c C_l_low hr (pa_cons (pv 6) (pa_cons (pv 7) pa_nil))) (pe_tup (pa_cons (pv 6) (pa_cons (pv 7) pa_nil))) (nomark _)))))))))))))), ?_⟩
    rcases h with ⟨a, rfl, hl, hasc, k⟩ | ⟨ty, hty, hk, k⟩
    · refine ⟨_, rfl, _, _, .type "str", .type "str", true, rfl, .ty _, .base (.str _), kit_ty (by decide +kernel), true, rfl, iteF ?_⟩
      -- parts
      refine ⟨_, rfl, ⟨_, rfl⟩, _, _, rfl, rfl, (by decide +kernel), (by rw [S_len]; exact line_ge (by omega)), fun p1 n1 => ?_⟩
      rw [slash_S, split_S (by decide) (by decide), show TL.spl [47] 0 [] a = sp47 a from rfl, sp_cut]
      have s1 : Same H (upd H p1 (.lst ((((cut a).1 :: rst a).map S).map V.str))) := same_upd n1
      have hp1 : (upd H p1 (.lst ((((cut a).1 :: rst a).map S).map V.str))) p1 = some (.lst ((((cut a).1 :: rst a).map S).map V.str)) := upd_same
      generalize upd H p1 (.lst ((((cut a).1 :: rst a).map S).map V.str)) = H1 at s1 hp1
      have cl := cut_len a
      -- body
      have at0 : atI ((((cut a).1 :: rst a).map S).map V.str) 0 = some (.str (S (cut a).1)) := atI_nat (j := 0) rfl
      refine ⟨_, rfl, p1, _, 0, _, rfl, rfl, .inl (.inl hp1), at0, _, rfl, _, rfl, (by rw [S_len]; exact line_ge (by omega)), rfl, _, rfl, ?_⟩
      rw [slice_to (by decide), minus_S, str_eq]
      refine if_te (.str (S (unsig (cut a).1))) ?_ (fun z Q' q => ?_) (fun z Q' q => ?_)
      rotate_left
      · refine ⟨_, rfl, p1, _, 0, _, rfl, rfl, .inl (.inl hp1), at0, _, rfl, _, rfl, (by rw [S_len]; exact line_ge (by omega)), ?_⟩
        rw [slice_from (by decide)]
        show Q' (.str (S ((cut a).1.drop 1))) H1
        rw [unsig_take (of_decide_eq_true z)]
        exact q
      · refine ⟨_, rfl, p1, _, 0, _, rfl, rfl, .inl (.inl hp1), at0, ?_⟩
        rw [unsig_not (of_decide_eq_false z)] at q
        exact q
      -- digits
      refine ⟨_, rfl, (by show 1 ≤ sizeLine; decide), fun p2 n2 => ?_⟩
      refine ⟨_, rfl, _, rfl, p1, _, rfl, .inl (.inl (same_upd n2 _ _ hp1)), fun p3 n3 => ?_⟩
      have ecut : cutV ((((cut a).1 :: rst a).map S).map V.str) (some 1) none = ((rst a).map S).map V.str := by
        rw [List.map_cons, List.map_cons, cutV_from1]
      have dlen := ds_count a
      refine ⟨p2, p3, [.str (S (unsig (cut a).1))], ((rst a).map S).map V.str, rfl, rfl, (by rw [upd_ne (ne_of_none upd_same n3)]; exact upd_same), (upd_same.trans (by rw [ecut])), (by
        rw [List.length_map, List.length_map]
        have e : (ds a).length = (rst a).length + 1 := rfl
        exact line_ge (by simp; omega)), fun p4 n4 => ?_⟩
      have s4 : Same H (upd (upd (upd H1 p2 (.lst [.str (S (unsig (cut a).1))])) p3 (.lst (cutV ((((cut a).1 :: rst a).map S).map V.str) (some 1) none))) p4 (.lst ([.str (S (unsig (cut a).1))] ++ ((rst a).map S).map V.str))) := same_upd' (same_upd' (same_upd' s1 (s1.free n2)) (s1.free ((same_upd n2).free n3))) (s1.free ((same_upd n2).free ((same_upd n3).free n4)))
      have hp4 : (upd (upd (upd H1 p2 (.lst [.str (S (unsig (cut a).1))])) p3 (.lst (cutV ((((cut a).1 :: rst a).map S).map V.str) (some 1) none))) p4 (.lst ([.str (S (unsig (cut a).1))] ++ ((rst a).map S).map V.str))) p4 = some (.lst (((ds a).map S).map V.str)) := upd_same
      generalize (upd (upd (upd H1 p2 (.lst [.str (S (unsig (cut a).1))])) p3 (.lst (cutV ((((cut a).1 :: rst a).map S).map V.str) (some 1) none))) p4 (.lst ([.str (S (unsig (cut a).1))] ++ ((rst a).map S).map V.str))) = H4 at s4 hp4
      have kf : isT a = false → ∀ H', Same H H' → Q (.bl false) H' := fun e H' s' => by
        have := k H' s'
        rw [e] at this
        exact this
      have kt : isT a = true → ∀ H', Same H H' → Q (.bl true) H' := fun e H' s' => by
        have := k H' s'
        rw [e] at this
        exact this
      have dl : ((((ds a).map S).map V.str).length : Int) = ((ds a).length : Int) := by rw [List.length_map, List.length_map]
      have dm := ds_len a
      -- len > 2
      refine ⟨_, rfl, _, _, rfl, .inl (.inl (.inl hp4)), _, _, rfl, rfl, _, rfl, ?_⟩
      rw [dl]
      refine ite2 (fun z => iteT (kf (isT_bad (.inl (by have := of_decide_eq_true z; omega))) _ s4)) (fun z2 => ?_)
      -- '' in digits
      refine ⟨_, rfl, _, _, rfl, .inl (.inl (.inl hp4)), rfl, flat_strs _, _, rfl, ?_⟩
      have e0 : inV (.str ("" : Str)) (((ds a).map S).map V.str) = (ds a).any (fun d => d.isEmpty) := by
        rw [show ("" : Str) = S [] by decide +kernel]
        exact inV_nil _
      have e0' : (if false = true then !inV (.str ("" : Str)) (((ds a).map S).map V.str) else inV (.str ("" : Str)) (((ds a).map S).map V.str)) = (ds a).any (fun d => d.isEmpty) := e0
      rw [e0']
      refine ite2 (fun z => iteT (kf (isT_bad (.inr ?_)) _ s4)) (fun z3 => ?_)
      · obtain ⟨d, hd, e⟩ := List.any_eq_true.mp z
        refine ⟨d, hd, ?_⟩
        cases d with
        | nil => rfl
        | cons => cases e
      -- all(digits)
      refine ⟨⟨_, rfl⟩, _, rfl, _, p4, (ds a).map S, rfl, rfl, .inl (.inl (.inl hp4)), ?_, _, rfl, fun D nD => ?_⟩
      · have := sum_len (ds a) a.length dm
        have m : (ds a).length * a.length ≤ 301 * 299 := Nat.mul_le_mul (by omega) hl
        have e : ("" : Str).length = 0 := by decide +kernel
        rw [e, Nat.mul_zero]
        omega
      have ej : (Txt.join ("" : Str) ((ds a).map S)).cps.toList = (ds a).flatten := by
        rw [show ("" : Str) = S [] by decide +kernel]
        exact join_digits _
      refine lc_fnS (fun c => .bl (isd c)) nD ?_ (fun c hc H5 R s5 q => ⟨_, rfl, c, _, rfl, rfl, ?_⟩) (fun H5 s5 h5 => ?_)
      · have := sum_len (ds a) a.length dm
        have m : (ds a).length * a.length ≤ 301 * 299 := Nat.mul_le_mul (by omega) hl
        rw [← Array.length_toList, ej, List.length_flatten]
        have e2 : ((ds a).map List.length).sum = (((ds a).map S).map (·.length)).sum := by
          rw [List.map_map]
          exact congrArg List.sum (List.map_congr_left fun d _ => (S_len d).symm)
        rw [e2]
        omega
      · rw [digs_mem]
        exact q _ (Same.refl _)
      rw [ej] at h5
      have h5' : H5 D = some (.lst (((ds a).flatten.map isd).map V.bl)) := by
        rw [h5, List.map_map]
        rfl
      refine ⟨D, _, rfl, .inl (.inl h5'), _, rfl, ?_⟩
      rw [all_flat]
      refine ite2 (fun z => kf (isT_bad (.inr ?_)) _ (s4.trans s5)) (fun z4 => ?_)
      · have z := (Bool.not_eq_true' _).mp z
        obtain ⟨d, hd, e⟩ := List.all_eq_false.mp z
        exact ⟨d, hd, canon_dig (by simpa using e)⟩
      have s5' := s4.trans s5
      have hp5 := s5 _ _ hp4
      have n3 : ∀ d ∈ ds a, d ≠ [] := fun d hd e => z3 (List.any_eq_true.mpr ⟨d, hd, by rw [e]; rfl⟩)
      have n4 : ∀ d ∈ ds a, d.all isd = true := by
        have : (ds a).all (fun d => d.all isd) = true := by
          cases e : (ds a).all (fun d => d.all isd) with
          | true => rfl
          | false => exact absurd (by rw [e]; rfl) z4
        exact fun d hd => List.all_eq_true.mp this d hd
      -- any zero ahead
      refine ⟨_, rfl, p4, rfl, ⟨_, .inl (.inl hp5)⟩, fun D2 nD2 => ?_⟩
      refine lc_fn (xs := ((ds a).map S).map V.str) zerV nD2 (.inl (.inl hp5)) (by rw [List.length_map, List.length_map]; omega) (fun x hx H6 R s6 q => ?_) (fun H6 s6 h6 => ?_)
      · obtain ⟨y, hy, rfl⟩ := List.mem_map.mp hx
        obtain ⟨d, hd, rfl⟩ := List.mem_map.mp hy
        have q0 := q _ (Same.refl _)
        match d, n3 d hd, dm d hd, q0 with
        | c :: r, _, hlr, q0 =>
          refine ⟨_, rfl, S (c :: r), 0, c, rfl, rfl, (by rw [S_len]; exact line_ge (by omega)), atI_nat (j := 0) rfl, rfl, _, rfl, ?_⟩
          have ez : ("0" : Str) = S [48] := by decide +kernel
          rw [ez, sign_eq]
          have q1 : R (.bl (decide (c = 48) && !decide (c :: r = [48]))) H6 := by
            have : zerV (.str (S (c :: r))) = .bl (decide (c = 48) && !decide (c :: r = [48])) := by
              show V.bl (decide (some c = some 48) && _) = _
              have e : decide (some c = some 48) = decide (c = 48) := by
                rw [Bool.eq_iff_iff, decide_eq_true_eq, decide_eq_true_eq]
                exact ⟨fun h => by injection h, fun h => by rw [h]⟩
              rw [e]
            rw [this] at q0
            exact q0
          refine ite2 (fun z => ?_) (fun z => ?_)
          · refine ⟨_, rfl, rfl, ?_⟩
            rw [str_eq]
            rw [z, Bool.true_and] at q1
            exact q1
          · rw [show decide (c = 48) = false by simpa using z, Bool.false_and] at q1
            exact q1
      rw [zer_map] at h6
      refine ⟨D2, _, rfl, .inl (.inl h6), _, rfl, ?_⟩
      have s6' := s5'.trans s6
      have hp6 := s6 _ _ hp5
      refine ite2 (fun z => iteT (kf (isT_bad (.inr ?_)) _ s6')) (fun z5 => ?_)
      · obtain ⟨b, hb, e⟩ := List.any_eq_true.mp z
        obtain ⟨d, hd, rfl⟩ := List.mem_map.mp hb
        have e : zer d = true := e
        unfold zer at e
        rw [Bool.and_eq_true, decide_eq_true_eq, Bool.not_eq_true', decide_eq_false_iff_not] at e
        exact ⟨d, hd, canon_zero e.1 e.2⟩
      have C : ∀ d ∈ ds a, canon d = true := fun d hd => canon_of (n3 d hd) (n4 d hd) fun e => z5 (List.any_eq_true.mpr ⟨true, List.mem_map.mpr ⟨d, hd, by unfold zer; rw [decide_eq_true e.1, decide_eq_false e.2]; rfl⟩, rfl⟩)
      refine ⟨_, rfl, rfl, _, rfl, ?_⟩
      rw [show ("-0" : Str) = S [45, 48] by decide +kernel, str_eq]
      refine ite2 (fun z => kf (by rw [of_decide_eq_true z]; exact isT_m0) _ s6') (fun z6 => ?_)
      have z6 : a ≠ [45, 48] := fun e => z6 (decide_eq_true e)
      -- len == 1
      refine ⟨_, rfl, _, _, rfl, .inl (.inl (.inl hp6)), rfl, _, rfl, ?_⟩
      rw [dl]
      have two : (ds a).length ≤ 2 := by
        have : ¬ (2 : Int) < ((ds a).length : Int) := fun h => z2 (decide_eq_true h)
        omega
      match hds : ds a with
      | [] => exact nomatch hds
      | [d] =>
        refine iteTd rfl ?_
        exact kt (isT_one hds (C d (by rw [hds]; exact List.mem_cons_self)) z6) _ s6'
      | d :: q :: e :: r => rw [hds] at two; simp at two
      | [d, q] =>
        refine iteFd (by show V.int 2 ≠ V.int 1; decide) ?_
        rw [hds] at hp6
        have cd := C d (by rw [hds]; exact List.mem_cons_self)
        have cq := C q (by rw [hds]; exact List.mem_cons_of_mem _ List.mem_cons_self)
        have ld := dm d (by rw [hds]; exact List.mem_cons_self)
        have lq := dm q (by rw [hds]; exact List.mem_cons_of_mem _ List.mem_cons_self)
        have dd := (numL_dval cd).1
        have dq := (numL_dval cq).1
        have hR := isT_two hds cd cq
        refine ⟨_, rfl, p4, _, 0, _, rfl, rfl, .inl (.inl hp6), atI_nat (j := 0) rfl, _, _, rfl, int_dig dd (by omega), (by rw [S_len]; omega), _, rfl, p4, _, 1, _, rfl, rfl, .inl (.inl hp6), atI_nat (j := 1) rfl, _, _, rfl, int_dig dq (by omega), (by rw [S_len]; omega), _, _, rfl, ?_⟩
        refine ⟨_, rfl, _, _, rfl, rfl, _, rfl, ?_⟩
        by_cases zq : 1 < dval q
        · rw [show decide ((1 : Int) < ((dval q : Nat) : Int)) = true from decide_eq_true (by omega)]
          refine iteT ?_
          have hb : (0 : Int) < ((dval q : Nat) : Int) := by omega
          refine ⟨_, rfl, _, rfl, _, _, rfl, (by omega), dval_lt dd (by omega), dval_lt dq (by omega), fun p7 n7 => ?_⟩
          refine ⟨_, rfl, _, rfl, (by show 2 ≤ sizeLine; decide), fun p8 n8 => ?_⟩
          have h7 : (upd (upd H6 p7 (.tup [.int (lowT ((dval d : Nat) : Int) ((dval q : Nat) : Int)), .int (lowB ((dval d : Nat) : Int) ((dval q : Nat) : Int))])) p8 (.tup [.int ((dval d : Nat) : Int), .int ((dval q : Nat) : Int)])) p7 = some (.tup [.int (lowT ((dval d : Nat) : Int) ((dval q : Nat) : Int)), .int (lowB ((dval d : Nat) : Int) ((dval q : Nat) : Int))]) := by
            rw [upd_ne (ne_of_none upd_same n8)]
            exact upd_same
          refine ⟨_, _, .tup (.inl (.inl h7)) (.cons (.int _) (.cons (.int _) .nil)), .tup (.inl (.inl upd_same)) (.cons (.int _) (.cons (.int _) .nil)), rfl, rfl, ?_⟩
          have e1 : PyData.eqv (.tuple [.int (lowT ((dval d : Nat) : Int) ((dval q : Nat) : Int)), .int (lowB ((dval d : Nat) : Int) ((dval q : Nat) : Int))]) (.tuple [.int ((dval d : Nat) : Int), .int ((dval q : Nat) : Int)]) = isT a := by
            rw [hR, decide_eq_true zq, Bool.true_and, ← show decide (Nat.gcd (((dval d : Nat) : Int)).natAbs (((dval q : Nat) : Int)).natAbs = 1) = decide (Nat.gcd (dval d) (dval q) = 1) from rfl, ← low_iff hb]
            exact eqv_pair _ _ _ _
          rw [e1]
          exact k _ (same_upd' (same_upd' s6' (s6'.free n7)) (s6'.free ((same_upd n7).free n8)))
        · rw [show decide ((1 : Int) < ((dval q : Nat) : Int)) = false from decide_eq_false (by omega)]
          refine iteF ?_
          exact kf (by rw [hR, decide_eq_false zq]; rfl) _ s6'
    · refine ⟨_, rfl, _, _, _, .type "str", false, rfl, .ty _, hty, hk, false, rfl, iteT ?_⟩
      exact k
theorem ch_is_text (T : Tx K mg) : CalH P w K mg base 2 "_law_is_text" (gAd "_law_is_text" K) ["_law_line"] (spIsT K) := by
  have C_l_low := ch_low (P := P) (w := w) (base := base) T
  refine calh_n (d := d_l_is_text) (N := N_l_is_text) (a_l_is_text T.c) rfl sc_l_is_text (g_l_is_text T) (fun _ _ _ _ _ _ us hl => match us, hl with | [_], _ => rfl) (fun vs H Q E h => ?_) (fun cdv A outer s H vs Q E pp hot hr h => ?_)
  · obtain ⟨x, rfl, _⟩ := h
    rfl
  · obtain ⟨x, rfl, h⟩ := h
    refine ⟨_, (pss_cons (ps_if (pt_not (pt_val (pe_callB call_isi (by rfl) (n_isinstance T) bo_isinstance (pa_cons (pv 0) (pa_cons (pe_bltn (v := .ty "str") (by rfl) (n_str T) (by decide +kernel) rfl) pa_nil)))))
 (pss_one (ps_ret pe_bl))
 pss_nil)
 (pss_cons (ps_set (i := 1) sc_l_is_text.nd rfl (.inl rfl) (pe_split (pv 0) pe_str))
 (pss_cons (ps_set (i := 2) sc_l_is_text.nd rfl (.inl rfl) (pe_ifExp (pt_cmpR op_eq (pe_slice C8.sl_txt (pe_ix ix_list (pv 1) pe_int (fun _ _ => rfl)) po_none (po_some pe_int)) pe_str (nomark _)) (pe_slice C8.sl_txt (pe_ix ix_list (pv 1) pe_int (fun _ _ => rfl)) (po_some pe_int) po_none) (pe_ix ix_list (pv 1) pe_int (fun _ _ => rfl))))
 (pss_cons (ps_set (i := 3) sc_l_is_text.nd rfl (.inl rfl) (pe_op op_cat (pe_lst (pa_cons (pv 2) pa_nil)) (pe_slice sl_list (pv 1) (po_some pe_int) po_none)))
 (pss_cons (ps_if (PW.pt (pw_or (pt_cmpR op_gt (pe_callB call_len_seq (by rfl) (n_len T) bo_len (pa_cons (pv 3) pa_nil)) pe_int (nomark _)) (pw_or (pt_cmpR op_in_seq pe_str (pv 3) (by with_unfolding_all rfl)) (pw_or1 (pt_not (pt_val (pe_callB (cr_allH (hotC_n hot List.mem_cons_self)) (by rfl) (n_all T) bo_all (pa_cons (pe_lcH (own := [("_law_sign", 4)]) (g := gName 4) (tt := tYes) (hotC_n hot List.mem_cons_self) sc_l_is_text.nd (pih_str (pe_join pe_str (pv 3))) (blkOk_by (N := N_l_is_text) (sc := defScope s_l_is_text) (by decide +kernel)) (fun _ _ _ _ _ => pg_name (i := 4) sc_l_is_text.nd rfl (.inl rfl)) (fun _ _ _ _ _ => pts_nil) (fun _ _ _ _ _ => (pe_cmpR op_in_sign (pv 4) pe_str (by with_unfolding_all rfl)))) pa_nil))))))))
 (pss_one (ps_ret pe_bl))
 pss_nil)
 (pss_cons (ps_if (PW.pt (pw_or (pt_val (pe_callB (cr_anyH (hotC_n hot List.mem_cons_self)) (by rfl) (n_any T) bo_any (pa_cons (pe_lcH (own := [("_law_part", 5)]) (g := gName 5) (tt := tYes) (hotC_n hot List.mem_cons_self) sc_l_is_text.nd (pih_list (pv 3)) (blkOk_by (N := N_l_is_text) (sc := defScope s_l_is_text) (by decide +kernel)) (fun _ _ _ _ _ => pg_name (i := 5) sc_l_is_text.nd rfl (.inl rfl)) (fun _ _ _ _ _ => pts_nil) (fun _ _ _ _ _ => (pe_and (pe_cmpR op_eq (pe_ix ix_str (pv 5) pe_int (fun _ _ => rfl)) pe_str (nomark _)) (pe_one (pe_cmpR op_ne (pv 5) pe_str (nomark _)))))) pa_nil))) (pw_or1 (pt_cmpR op_eq (pv 0) pe_str (nomark _)))))
 (pss_one (ps_ret pe_bl))
 pss_nil)
 (pss_cons (ps_if (pt_cmpR op_eq (pe_callB call_len_seq (by rfl) (n_len T) bo_len (pa_cons (pv 3) pa_nil)) pe_int (nomark _))
 (pss_one (ps_ret pe_bl))
 pss_nil)
 (pss_cons (ps_parH (i := 6) (j := 7) (hotC_n hot List.mem_cons_self) sc_l_is_text.nd rfl rfl (by decide) rfl rfl (pa_cons (pe_callTy call_int_str (by rfl) (n_int T) bo_int (pa_cons (pe_ix ix_list (pv 3) pe_int (fun _ _ => rfl)) pa_nil)) (pa_cons (pe_callTy call_int_str (by rfl) (n_int T) bo_int (pa_cons (pe_ix ix_list (pv 3) pe_int (fun _ _ => rfl)) pa_nil)) pa_nil)) (by rfl))
 (pss_one (ps_ret (pe_and (pe_cmpR op_gt (pv 7) pe_int (nomark _)) (pe_one (pe_cmpR (op_eqD (by exact unH hr)) (pe_ch C_l_low hr (hotC_n hot List.mem_cons_self) (pa_cons (pv 6) (pa_cons (pv 7) pa_nil))) (pe_tup (pa_cons (pv 6) (pa_cons (pv 7) pa_nil))) (nomark _)))))))))))))), ?_⟩
    rcases h with ⟨a, rfl, hl, hasc, k⟩ | ⟨ty, hty, hk, k⟩
    · refine ⟨_, rfl, _, _, .type "str", .type "str", true, rfl, .ty _, .base (.str _), kit_ty (by decide +kernel), true, rfl, iteF ?_⟩
      -- parts
      refine ⟨_, rfl, ⟨_, rfl⟩, _, _, rfl, rfl, (by decide +kernel), (by rw [S_len]; exact line_ge (by omega)), fun p1 n1 => ?_⟩
      rw [slash_S, split_S (by decide) (by decide), show TL.spl [47] 0 [] a = sp47 a from rfl, sp_cut]
      have s1 : Same H (upd H p1 (.lst ((((cut a).1 :: rst a).map S).map V.str))) := same_upd n1
      have hp1 : (upd H p1 (.lst ((((cut a).1 :: rst a).map S).map V.str))) p1 = some (.lst ((((cut a).1 :: rst a).map S).map V.str)) := upd_same
      generalize upd H p1 (.lst ((((cut a).1 :: rst a).map S).map V.str)) = H1 at s1 hp1
      have cl := cut_len a
      -- body
      have at0 : atI ((((cut a).1 :: rst a).map S).map V.str) 0 = some (.str (S (cut a).1)) := atI_nat (j := 0) rfl
      refine ⟨_, rfl, p1, _, 0, _, rfl, rfl, .inl (.inl hp1), at0, _, rfl, _, rfl, (by rw [S_len]; exact line_ge (by omega)), rfl, _, rfl, ?_⟩
      rw [slice_to (by decide), minus_S, str_eq]
      refine if_te (.str (S (unsig (cut a).1))) ?_ (fun z Q' q => ?_) (fun z Q' q => ?_)
      rotate_left
      · refine ⟨_, rfl, p1, _, 0, _, rfl, rfl, .inl (.inl hp1), at0, _, rfl, _, rfl, (by rw [S_len]; exact line_ge (by omega)), ?_⟩
        rw [slice_from (by decide)]
        show Q' (.str (S ((cut a).1.drop 1))) H1
        rw [unsig_take (of_decide_eq_true z)]
        exact q
      · refine ⟨_, rfl, p1, _, 0, _, rfl, rfl, .inl (.inl hp1), at0, ?_⟩
        rw [unsig_not (of_decide_eq_false z)] at q
        exact q
      -- digits
      refine ⟨_, rfl, (by show 1 ≤ sizeLine; decide), fun p2 n2 => ?_⟩
      refine ⟨_, rfl, _, rfl, p1, _, rfl, .inl (.inl (same_upd n2 _ _ hp1)), fun p3 n3 => ?_⟩
      have ecut : cutV ((((cut a).1 :: rst a).map S).map V.str) (some 1) none = ((rst a).map S).map V.str := by
        rw [List.map_cons, List.map_cons, cutV_from1]
      have dlen := ds_count a
      refine ⟨p2, p3, [.str (S (unsig (cut a).1))], ((rst a).map S).map V.str, rfl, rfl, (by rw [upd_ne (ne_of_none upd_same n3)]; exact upd_same), (upd_same.trans (by rw [ecut])), (by
        rw [List.length_map, List.length_map]
        have e : (ds a).length = (rst a).length + 1 := rfl
        exact line_ge (by simp; omega)), fun p4 n4 => ?_⟩
      have s4 : Same H (upd (upd (upd H1 p2 (.lst [.str (S (unsig (cut a).1))])) p3 (.lst (cutV ((((cut a).1 :: rst a).map S).map V.str) (some 1) none))) p4 (.lst ([.str (S (unsig (cut a).1))] ++ ((rst a).map S).map V.str))) := same_upd' (same_upd' (same_upd' s1 (s1.free n2)) (s1.free ((same_upd n2).free n3))) (s1.free ((same_upd n2).free ((same_upd n3).free n4)))
      have hp4 : (upd (upd (upd H1 p2 (.lst [.str (S (unsig (cut a).1))])) p3 (.lst (cutV ((((cut a).1 :: rst a).map S).map V.str) (some 1) none))) p4 (.lst ([.str (S (unsig (cut a).1))] ++ ((rst a).map S).map V.str))) p4 = some (.lst (((ds a).map S).map V.str)) := upd_same
      generalize (upd (upd (upd H1 p2 (.lst [.str (S (unsig (cut a).1))])) p3 (.lst (cutV ((((cut a).1 :: rst a).map S).map V.str) (some 1) none))) p4 (.lst ([.str (S (unsig (cut a).1))] ++ ((rst a).map S).map V.str))) = H4 at s4 hp4
      have kf : isT a = false → ∀ H', Same H H' → Q (.bl false) H' := fun e H' s' => by
        have := k H' s'
        rw [e] at this
        exact this
      have kt : isT a = true → ∀ H', Same H H' → Q (.bl true) H' := fun e H' s' => by
        have := k H' s'
        rw [e] at this
        exact this
      have dl : ((((ds a).map S).map V.str).length : Int) = ((ds a).length : Int) := by rw [List.length_map, List.length_map]
      have dm := ds_len a
      -- len > 2
      refine ⟨_, rfl, _, _, rfl, .inl (.inl (.inl hp4)), _, _, rfl, rfl, _, rfl, ?_⟩
      rw [dl]
      refine ite2 (fun z => iteT (kf (isT_bad (.inl (by have := of_decide_eq_true z; omega))) _ s4)) (fun z2 => ?_)
      -- '' in digits
      refine ⟨_, rfl, _, _, rfl, .inl (.inl (.inl hp4)), rfl, flat_strs _, _, rfl, ?_⟩
      have e0 : inV (.str ("" : Str)) (((ds a).map S).map V.str) = (ds a).any (fun d => d.isEmpty) := by
        rw [show ("" : Str) = S [] by decide +kernel]
        exact inV_nil _
      have e0' : (if false = true then !inV (.str ("" : Str)) (((ds a).map S).map V.str) else inV (.str ("" : Str)) (((ds a).map S).map V.str)) = (ds a).any (fun d => d.isEmpty) := e0
      rw [e0']
      refine ite2 (fun z => iteT (kf (isT_bad (.inr ?_)) _ s4)) (fun z3 => ?_)
      · obtain ⟨d, hd, e⟩ := List.any_eq_true.mp z
        refine ⟨d, hd, ?_⟩
        cases d with
        | nil => rfl
        | cons => cases e
      -- all(digits)
      refine ⟨⟨_, rfl⟩, _, rfl, _, p4, (ds a).map S, rfl, rfl, .inl (.inl (.inl hp4)), ?_, _, rfl, (asc_join a hasc), fun D nD => ?_⟩
      · have := sum_len (ds a) a.length dm
        have m : (ds a).length * a.length ≤ 301 * 299 := Nat.mul_le_mul (by omega) hl
        have e : ("" : Str).length = 0 := by decide +kernel
        rw [e, Nat.mul_zero]
        omega
      have ej : (Txt.join ("" : Str) ((ds a).map S)).cps.toList = (ds a).flatten := by
        rw [show ("" : Str) = S [] by decide +kernel]
        exact join_digits _
      refine lc_fnS (fun c => .bl (isd c)) nD ?_ (fun c hc H5 R s5 q => ⟨_, rfl, c, _, rfl, rfl, ?_⟩) (fun H5 s5 h5 => ?_)
      · have := sum_len (ds a) a.length dm
        have m : (ds a).length * a.length ≤ 301 * 299 := Nat.mul_le_mul (by omega) hl
        rw [← Array.length_toList, ej, List.length_flatten]
        have e2 : ((ds a).map List.length).sum = (((ds a).map S).map (·.length)).sum := by
          rw [List.map_map]
          exact congrArg List.sum (List.map_congr_left fun d _ => (S_len d).symm)
        rw [e2]
        omega
      · rw [digs_mem]
        exact q _ (Same.refl _)
      rw [ej] at h5
      have h5' : H5 D = some (.lst (((ds a).flatten.map isd).map V.bl)) := by
        rw [h5, List.map_map]
        rfl
      refine ⟨D, _, rfl, .inl (.inl h5'), _, rfl, ?_⟩
      rw [all_flat]
      refine ite2 (fun z => kf (isT_bad (.inr ?_)) _ (s4.trans s5)) (fun z4 => ?_)
      · have z := (Bool.not_eq_true' _).mp z
        obtain ⟨d, hd, e⟩ := List.all_eq_false.mp z
        exact ⟨d, hd, canon_dig (by simpa using e)⟩
      have s5' := s4.trans s5
      have hp5 := s5 _ _ hp4
      have n3 : ∀ d ∈ ds a, d ≠ [] := fun d hd e => z3 (List.any_eq_true.mpr ⟨d, hd, by rw [e]; rfl⟩)
      have n4 : ∀ d ∈ ds a, d.all isd = true := by
        have : (ds a).all (fun d => d.all isd) = true := by
          cases e : (ds a).all (fun d => d.all isd) with
          | true => rfl
          | false => exact absurd (by rw [e]; rfl) z4
        exact fun d hd => List.all_eq_true.mp this d hd
      -- any zero ahead
      refine ⟨_, rfl, p4, rfl, ⟨_, .inl (.inl hp5)⟩, fun D2 nD2 => ?_⟩
      refine lc_fn (xs := ((ds a).map S).map V.str) zerV nD2 (.inl (.inl hp5)) (by rw [List.length_map, List.length_map]; omega) (fun x hx H6 R s6 q => ?_) (fun H6 s6 h6 => ?_)
      · obtain ⟨y, hy, rfl⟩ := List.mem_map.mp hx
        obtain ⟨d, hd, rfl⟩ := List.mem_map.mp hy
        have q0 := q _ (Same.refl _)
        match d, n3 d hd, dm d hd, q0 with
        | c :: r, _, hlr, q0 =>
          refine ⟨_, rfl, S (c :: r), 0, c, rfl, rfl, (by rw [S_len]; exact line_ge (by omega)), atI_nat (j := 0) rfl, rfl, _, rfl, ?_⟩
          have ez : ("0" : Str) = S [48] := by decide +kernel
          rw [ez, sign_eq]
          have q1 : R (.bl (decide (c = 48) && !decide (c :: r = [48]))) H6 := by
            have : zerV (.str (S (c :: r))) = .bl (decide (c = 48) && !decide (c :: r = [48])) := by
              show V.bl (decide (some c = some 48) && _) = _
              have e : decide (some c = some 48) = decide (c = 48) := by
                rw [Bool.eq_iff_iff, decide_eq_true_eq, decide_eq_true_eq]
                exact ⟨fun h => by injection h, fun h => by rw [h]⟩
              rw [e]
            rw [this] at q0
            exact q0
          refine ite2 (fun z => ?_) (fun z => ?_)
          · refine ⟨_, rfl, rfl, ?_⟩
            rw [str_eq]
            rw [z, Bool.true_and] at q1
            exact q1
          · rw [show decide (c = 48) = false by simpa using z, Bool.false_and] at q1
            exact q1
      rw [zer_map] at h6
      refine ⟨D2, _, rfl, .inl (.inl h6), _, rfl, ?_⟩
      have s6' := s5'.trans s6
      have hp6 := s6 _ _ hp5
      refine ite2 (fun z => iteT (kf (isT_bad (.inr ?_)) _ s6')) (fun z5 => ?_)
      · obtain ⟨b, hb, e⟩ := List.any_eq_true.mp z
        obtain ⟨d, hd, rfl⟩ := List.mem_map.mp hb
        have e : zer d = true := e
        unfold zer at e
        rw [Bool.and_eq_true, decide_eq_true_eq, Bool.not_eq_true', decide_eq_false_iff_not] at e
        exact ⟨d, hd, canon_zero e.1 e.2⟩
      have C : ∀ d ∈ ds a, canon d = true := fun d hd => canon_of (n3 d hd) (n4 d hd) fun e => z5 (List.any_eq_true.mpr ⟨true, List.mem_map.mpr ⟨d, hd, by unfold zer; rw [decide_eq_true e.1, decide_eq_false e.2]; rfl⟩, rfl⟩)
      refine ⟨_, rfl, rfl, _, rfl, ?_⟩
      rw [show ("-0" : Str) = S [45, 48] by decide +kernel, str_eq]
      refine ite2 (fun z => kf (by rw [of_decide_eq_true z]; exact isT_m0) _ s6') (fun z6 => ?_)
      have z6 : a ≠ [45, 48] := fun e => z6 (decide_eq_true e)
      -- len == 1
      refine ⟨_, rfl, _, _, rfl, .inl (.inl (.inl hp6)), rfl, _, rfl, ?_⟩
      rw [dl]
      have two : (ds a).length ≤ 2 := by
        have : ¬ (2 : Int) < ((ds a).length : Int) := fun h => z2 (decide_eq_true h)
        omega
      match hds : ds a with
      | [] => exact nomatch hds
      | [d] =>
        refine iteTd rfl ?_
        exact kt (isT_one hds (C d (by rw [hds]; exact List.mem_cons_self)) z6) _ s6'
      | d :: q :: e :: r => rw [hds] at two; simp at two
      | [d, q] =>
        refine iteFd (by show V.int 2 ≠ V.int 1; decide) ?_
        rw [hds] at hp6
        have cd := C d (by rw [hds]; exact List.mem_cons_self)
        have cq := C q (by rw [hds]; exact List.mem_cons_of_mem _ List.mem_cons_self)
        have ld := dm d (by rw [hds]; exact List.mem_cons_self)
        have lq := dm q (by rw [hds]; exact List.mem_cons_of_mem _ List.mem_cons_self)
        have dd := (numL_dval cd).1
        have dq := (numL_dval cq).1
        have hR := isT_two hds cd cq
        refine ⟨_, rfl, p4, _, 0, _, rfl, rfl, .inl (.inl hp6), atI_nat (j := 0) rfl, _, _, rfl, int_dig dd (by omega), (by rw [S_len]; omega), _, rfl, p4, _, 1, _, rfl, rfl, .inl (.inl hp6), atI_nat (j := 1) rfl, _, _, rfl, int_dig dq (by omega), (by rw [S_len]; omega), _, _, rfl, ?_⟩
        refine ⟨_, rfl, _, _, rfl, rfl, _, rfl, ?_⟩
        by_cases zq : 1 < dval q
        · rw [show decide ((1 : Int) < ((dval q : Nat) : Int)) = true from decide_eq_true (by omega)]
          refine iteT ?_
          have hb : (0 : Int) < ((dval q : Nat) : Int) := by omega
          refine ⟨_, rfl, _, rfl, _, _, rfl, (by omega), dval_lt dd (by omega), dval_lt dq (by omega), fun p7 n7 => ?_⟩
          refine ⟨_, rfl, _, rfl, (by show 2 ≤ sizeLine; decide), fun p8 n8 => ?_⟩
          have h7 : (upd (upd H6 p7 (.tup [.int (lowT ((dval d : Nat) : Int) ((dval q : Nat) : Int)), .int (lowB ((dval d : Nat) : Int) ((dval q : Nat) : Int))])) p8 (.tup [.int ((dval d : Nat) : Int), .int ((dval q : Nat) : Int)])) p7 = some (.tup [.int (lowT ((dval d : Nat) : Int) ((dval q : Nat) : Int)), .int (lowB ((dval d : Nat) : Int) ((dval q : Nat) : Int))]) := by
            rw [upd_ne (ne_of_none upd_same n8)]
            exact upd_same
          refine ⟨_, _, .tup (.inl (.inl h7)) (.cons (.int _) (.cons (.int _) .nil)), .tup (.inl (.inl upd_same)) (.cons (.int _) (.cons (.int _) .nil)), rfl, rfl, ?_⟩
          have e1 : PyData.eqv (.tuple [.int (lowT ((dval d : Nat) : Int) ((dval q : Nat) : Int)), .int (lowB ((dval d : Nat) : Int) ((dval q : Nat) : Int))]) (.tuple [.int ((dval d : Nat) : Int), .int ((dval q : Nat) : Int)]) = isT a := by
            rw [hR, decide_eq_true zq, Bool.true_and, ← show decide (Nat.gcd (((dval d : Nat) : Int)).natAbs (((dval q : Nat) : Int)).natAbs = 1) = decide (Nat.gcd (dval d) (dval q) = 1) from rfl, ← low_iff hb]
            exact eqv_pair _ _ _ _
          rw [e1]
          exact k _ (same_upd' (same_upd' s6' (s6'.free n7)) (s6'.free ((same_upd n7).free n8)))
        · rw [show decide ((1 : Int) < ((dval q : Nat) : Int)) = false from decide_eq_false (by omega)]
          refine iteF ?_
          exact kf (by rw [hR, decide_eq_false zq]; rfl) _ s6'
    · refine ⟨_, rfl, _, _, _, .type "str", false, rfl, .ty _, hty, hk, false, rfl, iteT ?_⟩
      exact k

end
end K03

namespace K03
open PySem PySem.Spec PyProof.Rows L2 Hk NumM NumT SX L2H
open TL (numL)
section
variable {P : Program} {w : World} {K : Fr} {mg : Str → Option Value} {base : Heap}
theorem f_strH (T : Tx K mg) : ∃ fd, DAt K d_Number_str fd ∧ FnH P w K mg base CX0 1 (d_Number_str.ad K) fd ["self"] (spGet (CN K) fun t b => .str (S (fL t b))) := by
  obtain ⟨fd, D⟩ := a_Number_str T.c
  refine ⟨fd, D, okh_n (N := ["self"]) D sc_Number_str (fun vs H Q E h => ?_) (fun cdv A outer s H vs Q E pp hot hr h => ?_)⟩
  · obtain ⟨p, t, b, rfl, _⟩ := h
    rfl
  · obtain ⟨p, t, b, rfl, ⟨⟨dx, hp⟩, _, _⟩, st, sb, k⟩ := h
    refine ⟨_, (pss_cons (ps_if (pt_cmpR op_eq (pe_fld (pv 0) rfl) pe_int (nomark _)) (pss_one (ps_ret (pe_callTy call_str_int (by rfl) (n_str T) bo_str (pa_cons (pe_fld (pv 0) rfl) pa_nil)))) pss_nil)
      (pss_one (ps_ret (pe_joined (.cons (pe_fmt (pe_fld (pv 0) rfl)) (.cons pe_str (.cons (pe_fmt (pe_fld (pv 0) rfl)) .nil))))))), ?_⟩
    refine ⟨_, rfl, p, CN K, dx, _, _, rfl, hp, cl T, nB T, numF_bot _ _, rfl, _, rfl, ?_⟩
    have l1 := i_len st
    have l2 := i_len sb
    refine ite2 (fun z => ?_) (fun z => ?_)
    · have e : b = 1 := V.int.inj (of_decide_eq_true z)
      refine ⟨_, rfl, p, CN K, dx, _, _, rfl, hp, cl T, nT T, numF_top _ _, _, rfl, log2_small st, ?_⟩
      show Q (.str _) H
      rw [toS]
      have k' : Q (.str (S (fL t b))) H := k
      unfold fL at k'
      rw [if_pos e] at k'
      exact k'
    · have e : ¬ b = 1 := fun q => z (decide_eq_true (by rw [q]))
      refine ⟨_, rfl, p, CN K, dx, _, _, rfl, hp, cl T, nT T, numF_top _ _, .inr ⟨_, rfl, log2_small st, _, rfl, ?_, _, rfl, ?_, ?_⟩⟩
      · rw [toS, empty_S, S_cat, S_len]
        exact line_ge (by rw [List.nil_append]; omega)
      · rw [toS, empty_S, slash_S, S_cat, S_cat, S_len]
        exact line_ge (by rw [List.nil_append, List.length_append]; simp; omega)
      · refine ⟨_, rfl, p, CN K, dx, _, _, rfl, hp, cl T, nB T, numF_bot _ _, .inr ⟨_, rfl, log2_small sb, _, rfl, ?_, ?_⟩⟩
        · rw [toS, toS, empty_S, slash_S, S_cat, S_cat, S_cat, S_len]
          exact line_ge (by rw [List.nil_append, List.length_append, List.length_append]; simp; omega)
        · show Q (.str _) H
          rw [toS, toS, empty_S, slash_S, S_cat, S_cat, S_cat, List.nil_append, List.append_assoc]
          have k' : Q (.str (S (fL t b))) H := k
          unfold fL at k'
          rw [if_neg e] at k'
          exact k'
theorem f_reprH (T : Tx K mg) : ∃ fd, DAt K d_Number_repr fd ∧ FnH P w K mg base CX0 4 (d_Number_repr.ad K) fd ["self"] (spGet (CN K) fun t b => .str (("Number(" : Str) ++ S (fL t b) ++ (")" : Str))) := by
  obtain ⟨fd, D⟩ := a_Number_repr T.c
  obtain ⟨fs, Ds, Fs⟩ := f_strH (P := P) (w := w) (base := base) T
  have bs : Binds K fs ["self"] [] := FunD.bindsN Ds fun _ _ _ _ _ _ us hl => match us, hl with | [_], _ => rfl
  refine ⟨fd, D, okh_n (N := ["self"]) D sc_Number_repr (fun vs H Q E h => ?_) (fun cdv A outer s H vs Q E pp hot hr h => ?_)⟩
  · obtain ⟨p, t, b, rfl, _⟩ := h
    rfl
  · obtain ⟨p, t, b, rfl, N, st, sb, k⟩ := h
    obtain ⟨dx, hp⟩ := id N.at_
    refine ⟨_, (pss_one (ps_ret (pe_joined (.cons pe_str (.cons (pe_fmt (pe_callTy (call_strOH (own_ok (f_meth_str T.c)) Fs bs (hr.mono (by decide)) (hotC_n hot List.mem_cons_self)) (by rfl) (n_str T) bo_str (pa_cons (pv 0) pa_nil))) (.cons pe_str .nil)))))), ?_⟩
    have l := f_len st sb
    have e1 : Str.empty ++ ("Number(" : Str) = ("Number(" : Str) := by decide +kernel
    have l1 : ("Number(" : Str).length = 7 := by decide +kernel
    have l2 : (")" : Str).length = 1 := by decide +kernel
    have lap : ∀ x y : Str, (x ++ y).length = x.length + y.length := fun x y => by
      show (x.cps ++ y.cps).size = _
      rw [Array.size_append]
      rfl
    refine ⟨_, rfl, ?_, _, rfl, p, dx, _, rfl, hp, p, t, b, rfl, N, st, sb, _, rfl, .inl ⟨_, rfl, ?_, _, rfl, ?_, _, rfl, ?_, ?_⟩⟩
    · rw [e1, l1]
      exact line_ge (by decide)
    · rw [S_len]
      exact line_ge (by omega)
    · rw [e1, lap, l1, S_len]
      exact line_ge (by omega)
    · rw [e1, lap, lap, l1, l2, S_len]
      exact line_ge (by omega)
    · show Q (.str _) H
      rw [e1]
      exact k
/-- what is given to the reader -/
inductive OkV (C : Addr) (H : Hp) : V → Prop
  | txt (a : List Nat) (h : a.length ≤ 250) (s : ∀ c ∈ a, c < 128) : OkV C H (.str (S a))
  | non : OkV C H .non
  | int (i : Int) (h : Sz i) : OkV C H (.int i)
  | bl (b : Bool) : OkV C H (.bl b)
  | tupS {p : Addr} {a : List Nat} (e : H p = some (.tup [.str (S a)])) (h : a.length ≤ 250) (s : ∀ c ∈ a, c < 128) : OkV C H (.ref p)
  | lstS {p : Addr} {a : List Nat} (e : H p = some (.lst [.str (S a)])) (h : a.length ≤ 250) (s : ∀ c ∈ a, c < 128) : OkV C H (.ref p)
  | tupI {p : Addr} {t b : Int} (e : H p = some (.tup [.int t, .int b])) (ht : Sz t) (hb : Sz b) : OkV C H (.ref p)
  | num {p : Addr} {t b : Int} (N : NumAt C H p t b) (ht : Sz t) (hb : Sz b) : OkV C H (.ref p)
theorem OkV.same {C : Addr} {H H' : Hp} {x : V} (h : OkV C H x) (s : Same H H') : OkV C H' x := by
  cases h with
  | txt a h1 h2 => exact .txt a h1 h2
  | non => exact .non
  | int i h => exact .int i h
  | bl b => exact .bl b
  | tupS e h1 h2 => exact .tupS (s _ _ e) h1 h2
  | lstS e h1 h2 => exact .lstS (s _ _ e) h1 h2
  | tupI e h1 h2 => exact .tupI (s _ _ e) h1 h2
  | num N h1 h2 => exact .num (N.same s) h1 h2
/-- it is a text, or of a type that is none -/
theorem OkV.kind (T : Tx K mg) {H : Hp} {x : V} (h : OkV (CN K) H x) : (∃ a : List Nat, x = .str (S a) ∧ a.length ≤ 250 ∧ ∀ c ∈ a, c < 128) ∨ (∃ ty, TyX K H x ty ∧ PySem.W.kitOne K ty (.type "str") = some false) := by
  cases h with
  | txt a h1 h2 => exact .inl ⟨a, rfl, h1, h2⟩
  | non => exact .inr ⟨_, .base .non, kit_ty (by decide +kernel)⟩
  | int i h => exact .inr ⟨_, .base (.int i), kit_ty (by decide +kernel)⟩
  | bl b => exact .inr ⟨_, .base (.bl b), kit_ty (by decide +kernel)⟩
  | tupS e h1 h2 => exact .inr ⟨_, .base (.tup e), kit_ty (by decide +kernel)⟩
  | lstS e h1 h2 => exact .inr ⟨_, .base (.lst e), kit_ty (by decide +kernel)⟩
  | tupI e h1 h2 => exact .inr ⟨_, .base (.tup e), kit_ty (by decide +kernel)⟩
  | num N h1 h2 =>
    obtain ⟨dx, hp⟩ := N.at_
    exact .inr ⟨_, .base (ins_ok (f_ins T.c) hp (cl T)), of_decide_eq_true (f_kitB_num_str T.c)⟩
theorem shown_ok {d : PyData} {n : Nat} (h1 : d.leavesShort 320 = true) (h2 : d.bulk ≤ n) (h3 : n ≤ 2000) : d.shown.length ≤ sizeLine := by
  have h := PyData.shown_le_bulk 320 (by decide) d h1
  rw [sizeLine_eq]
  have : 322 * d.bulk ≤ 322 * 2000 := Nat.mul_le_mul (Nat.le_refl _) (by omega)
  omega
/-- what repr shows of it, wherever it stands -/
theorem OkV.shown (T : Tx K mg) {H : Hp} {x : V} (h : OkV (CN K) H x) : ∃ z : Str, ∀ (H' : Hp) (Q : VK), Same H H' → Q (.str z) H' → rRp K (CN K) (spGet (CN K) fun t b => .str (("Number(" : Str) ++ S (fL t b) ++ (")" : Str))) [x] H' Q := by
  have sl : ∀ a : List Nat, (S a).cps.size = a.length := fun a => by simp
  cases h with
  | txt a h1 h2 =>
    refine ⟨_, fun H' Q s q => .inl ⟨_, .str (S a), rfl, .str _, rfl, by simp [PyData.depth, PyData.depthAll], shown_ok (n := 2000) (short_S h2) ?_ (by decide), q⟩⟩
    simp only [PyData.bulk]
    rw [sl]
    omega
  | non => exact ⟨_, fun H' Q s q => .inl ⟨_, .none, rfl, .non, rfl, by decide, by decide +kernel, q⟩⟩
  | int i h =>
    refine ⟨_, fun H' Q s q => .inl ⟨_, .int i, rfl, .int i, show_int h, by simp [PyData.depth, PyData.depthAll], shown_ok (n := 2000) (short_int h) ?_ (by decide), q⟩⟩
    simp [PyData.bulk]
  | bl b => exact ⟨_, fun H' Q s q => .inl ⟨_, .bool b, rfl, .bl b, rfl, by simp [PyData.depth, PyData.depthAll], shown_ok (n := 2000) rfl (by simp [PyData.bulk]) (by decide), q⟩⟩
  | @tupS p a e h1 h2 =>
    refine ⟨_, fun H' Q s q => .inl ⟨_, .tuple [.str (S a)], rfl, .tup (.inl (.inl (s _ _ e))) (.cons (.str _) .nil), rfl, by simp [PyData.depth, PyData.depthAll], shown_ok (n := 2000) ?_ ?_ (by decide), q⟩⟩
    · have := short_S h2
      simp only [PyData.leavesShort, PyData.leavesShortAll] at this ⊢
      rw [this]
      rfl
    · simp only [PyData.bulk, PyData.bulkAll]
      rw [sl]
      omega
  | @lstS p a e h1 h2 =>
    refine ⟨_, fun H' Q s q => .inl ⟨_, .list [.str (S a)], rfl, .lst (.inl (.inl (s _ _ e))) (.cons (.str _) .nil), rfl, by simp [PyData.depth, PyData.depthAll], shown_ok (n := 2000) ?_ ?_ (by decide), q⟩⟩
    · have := short_S h2
      simp only [PyData.leavesShort, PyData.leavesShortAll] at this ⊢
      rw [this]
      rfl
    · simp only [PyData.bulk, PyData.bulkAll]
      rw [sl]
      omega
  | @tupI p t b e h1 h2 =>
    refine ⟨_, fun H' Q s q => .inl ⟨_, .tuple [.int t, .int b], rfl, .tup (.inl (.inl (s _ _ e))) (.cons (.int _) (.cons (.int _) .nil)), ?_, by simp [PyData.depth, PyData.depthAll], shown_ok (n := 2000) ?_ ?_ (by decide), q⟩⟩
    · have a1 := show_int h1
      have a2 := show_int h2
      simp only [PyData.showable, PyData.showableAll] at a1 a2 ⊢
      simp [a1, a2]
    · have a1 := short_int h1
      have a2 := short_int h2
      simp only [PyData.leavesShort, PyData.leavesShortAll] at a1 a2 ⊢
      simp [a1, a2]
    · simp [PyData.bulk, PyData.bulkAll]
  | @num p t b N h1 h2 =>
    refine ⟨("Number(" : Str) ++ S (fL t b) ++ (")" : Str), fun H' Q s q => .inr ?_⟩
    have N' := N.same s
    obtain ⟨dx, hp⟩ := id N'.at_
    exact ⟨_, dx, _, rfl, hp, _, _, _, rfl, N', h1, h2, _, rfl, q⟩
/-- any value is read right -/
def spRR (K : Fr) : Sp := fun vs H Q _ => ∃ x : V, vs = [x] ∧ OkV (CN K) H x ∧ ∀ H', Same H H' → Q (.bl true) H'
theorem kb_read {fd : FuncData} (D : DAt K d_Number_read fd) : ∀ (s : Shared) (ws : List Value), K.In s.heap → ws.length = ["text"].length → BindsTo s fd ⟨[], (["text"] : List Str).zip ws⟩ ((["text"] : List Str).zip ws) :=
  by
  obtain ⟨oc, od, dV, kV, doc, pm, an, cdv, ct, osl, rfl, lk, hcd, hD, hK⟩ := D.ex
  rcases hD with ⟨_, rfl⟩ | ⟨e, _⟩
  · intro s ws _ hl
    match ws, hl with
    | [u], _ => exact .of_eq rfl
  · exact absurd rfl e
theorem b_read {fd : FuncData} (D : DAt K d_Number_read fd) : Binds K fd ["text"] [] := FunD.bindsN D fun _ _ _ _ _ _ us hl => match us, hl with | [_], _ => rfl
abbrev N_rr : List Str := ["_law_line", "_law_told", "e", "_law_kinds", "_law_each"]
theorem c_read_right (T : Tx K mg) : CalG P w K mg base 7 "_law_read_right" (gAd "_law_read_right" K) ["_law_line"] (spRR K) := by
  have C_is_text := c_is_text (P := P) (w := w) (base := base) T
  have Ch_is_text := ch_is_text (P := P) (w := w) (base := base) T
  obtain ⟨fr, Dr, Fr'⟩ := f_readX (P := P) (w := w) (base := base) T
  obtain ⟨fs, Ds, Fs⟩ := f_str (P := P) (w := w) (base := base) T
  have bs : Binds K fs ["self"] [] := FunD.bindsN Ds fun _ _ _ _ _ _ us hl => match us, hl with | [_], _ => rfl
  obtain ⟨fp, Dp', Fp⟩ := f_reprH (P := P) (w := w) (base := base) T
  have bp : Binds K fp ["self"] [] := FunD.bindsN Dp' fun _ _ _ _ _ _ us hl => match us, hl with | [_], _ => rfl
  obtain ⟨fe, De, Fe⟩ := f_eq (P := P) (w := w) (base := base) T
  have be : Binds K fe ["self", "other"] [] := FunD.bindsN De fun _ _ _ _ _ _ us hl => match us, hl with | [_, _], _ => rfl
  have OE : Own K (CN K) "__eq__" (d_Number_eq.ad K) := own_ok (f_meth_eq T.c)
  refine calg_of (d := d_l_read_right) (N := N_rr) (a_l_read_right T.c) rfl sc_l_read_right (g_l_read_right T) (fun _ _ _ _ _ _ us hl => match us, hl with | [_], _ => rfl) (fun vs H Q E h => ?_) (fun cdv A outer s H vs Q E hr hc h => ?_)
  · obtain ⟨x, rfl, _⟩ := h
    rfl
  · obtain ⟨x, rfl, ok, k⟩ := h
    have r1 : Room 1 _ := hr.mono (by decide)
    have r2 : Room 2 _ := hr.mono (by decide)
    have r3 : Room 3 _ := hr.mono (by decide)
    refine ⟨_, (pss_cons (L2N.ps_try_as (i := 2) rfl rfl sc_l_read_right.nd rfl rfl ⟨rfl, by decide, .inl (g_InvalidText T)⟩ (takesN0 _)
       (fun W pn xe tk _ => pss_one (ps_set (i := 1) sc_l_read_right.nd rfl (.inl rfl) (pe_lst (pa_cons (pe_statP (pe_glob (v := .ref (gAd "Number" K)) rfl (g_Number T) rfl) (stat_ok (f_stat_read T.c)) Fr' hr (fun σ => L2N.passAt tk σ) (b_read Dr) (pa_cons (pv 0) pa_nil))
          (pa_cons (pe_statKX (pe_glob (v := .ref (gAd "Number" K)) rfl (g_Number T) rfl) (stat_ok (f_stat_read T.c)) Fr' hr (fun σ => L2N.passAt tk σ) (kb_read Dr) (pk_cons (pv 0) pk_nil)) pa_nil)))))
       (fun a oe cls d pn hz hf => pss_cons (ps_set (i := 3) sc_l_read_right.nd rfl (.inl rfl) (pe_lst (pa_cons (pe_callB (call_isX hz.zc hf) (by rfl) (n_isinstance T) bo_isinstance (pa_cons (pv 2) (pa_cons (pe_glob (v := .ref (gAd "InputError" K)) rfl (g_InputError T) rfl) pa_nil)))
          (pa_cons (pe_callB (call_isX hz.zc hf) (by rfl) (n_isinstance T) bo_isinstance (pa_cons (pv 2) (pa_cons (pe_bltn (v := .ty "ValueError") (by rfl) (n_ValueError T) (by decide +kernel) rfl) pa_nil)))
          (pa_cons (pe_callB (call_isX hz.zc hf) (by rfl) (n_isinstance T) bo_isinstance (pa_cons (pv 2) (pa_cons (pe_glob (v := .ref (gAd "InvalidCount" K)) rfl (g_InvalidCount T) rfl) pa_nil))) pa_nil)))))
         (pss_one (ps_ret (pe_and (pe_cmpR op_eq (pe_callB (callr_or (call_reprDU hc (by have := hr.un; exact Nat.lt_of_le_of_lt (Nat.add_le_add_right (Nat.le_add_right _ _) _) this)) (call_reprOH (own_ok (f_meth_repr T.c)) Fp bp (roomH_mark (hr.mono (by decide)) _) (hotC_suite hz hf)) : CallR _ _ (rRp K (CN K) _)) (by rfl) (n_repr T) bo_repr (pa_cons (pe_xfX hz.zc hf (pv 2)) pa_nil))
              (pe_callB (callr_or (call_reprDU hc (by have := hr.un; exact Nat.lt_of_le_of_lt (Nat.add_le_add_right (Nat.le_add_right _ _) _) this)) (call_reprOH (own_ok (f_meth_repr T.c)) Fp bp (roomH_mark (hr.mono (by decide)) _) (hotC_suite hz hf)) : CallR _ _ (rRp K (CN K) _)) (by rfl) (n_repr T) bo_repr (pa_cons (pv 0) pa_nil)) (nomark _))
            (pe_and (pe_not (pe_ch Ch_is_text (roomH_mark r2 _) (hotC_suite hz hf) (pa_cons (pv 0) pa_nil)))
              (pe_one (pe_cmpR (op_eqD (by exact hr.units) : OpR (Cx.suite _ a ((a, oe) :: pn)) _ (rEqD K)) (pv 3) (pe_lst (pa_cons pe_bl (pa_cons pe_bl (pa_cons pe_bl pa_nil)))) (nomark _)))))))))
 (pss_one (ps_ret (pe_and (pe_c C_is_text r2 (pa_cons (pv 0) pa_nil)) (pe_and (pe_cmpR (op_eqD hr.units) (pe_lc (own := [("_law_each", 4)]) (g := gName 4) (tt := tYes) rfl sc_l_read_right.nd (pi_list (pv 1)) (blkOk_by (N := N_rr) (sc := defScope s_l_read_right) (by decide +kernel)) (fun _ _ _ _ _ => pg_name (i := 4) sc_l_read_right.nd rfl (.inl rfl)) (fun _ _ _ _ _ => pts_nil) (fun _ _ _ _ _ => (pe_callTy (call_strO (own_ok (f_meth_str T.c)) Fs bs (hr.mono (by decide))) (by rfl) (n_str T) bo_str (pa_cons (pv 4) pa_nil)))) (pe_lst (pa_cons (pv 0) (pa_cons (pv 0) pa_nil))) (nomark _))
      (pe_one (pe_cmpR (op_eqO OE Fe be r1) (pe_ix ix_list (pv 1) pe_int (fun _ _ => rfl)) (pe_ix ix_list (pv 1) pe_int (fun _ _ => rfl)) (nomark _)))))))), ?_⟩
    have both : (∃ a : List Nat, x = .str (S a) ∧ a.length ≤ 250 ∧ (∀ c ∈ a, c < 128) ∧ isT a = true) ∨
        ((∀ (Hx : Hp) (Qx : VK) (Ex : XK), Same H Hx → BadText K Hx Ex x → spReadX (CN K) K [x] Hx Qx Ex) ∧ (∀ (Hx : Hp) (Qx : VK) (Ex : XK), Same H Hx → (∀ H', Same Hx H' → Qx (.bl false) H') → spIsT K [x] Hx Qx Ex)) := by
      rcases ok.kind T with ⟨a, rfl, hl, hs⟩ | ⟨ty, hty, hk⟩
      · cases e : isT a with
        | true => exact .inl ⟨a, rfl, hl, hs, e⟩
        | false =>
          refine .inr ⟨fun Hx Qx Ex s b => ⟨_, rfl, .inl ⟨a, rfl, by omega, fun _ _ _ e2 => ?_, fun _ => b⟩⟩, fun Hx Qx Ex s b => ⟨_, rfl, .inl ⟨a, rfl, by omega, hs, fun H' s' => ?_⟩⟩⟩
          · rw [e] at e2
            cases e2
          · rw [e]
            exact b H' s'
      · refine .inr ⟨fun Hx Qx Ex s b => ?_, fun Hx Qx Ex s b => ?_⟩
        · rcases (ok.same s).kind T with ⟨a, rfl, hl, hs⟩ | ⟨ty', hty', hk'⟩
          · cases hty with
            | base h => cases h; exact absurd ((kit_ty (K := K) (r := true) (by decide +kernel)).symm.trans hk) (by decide)
          · exact ⟨_, rfl, .inr ⟨ty', hty', hk', b⟩⟩
        · rcases (ok.same s).kind T with ⟨a, rfl, hl, hs⟩ | ⟨ty', hty', hk'⟩
          · cases hty with
            | base h => cases h; exact absurd ((kit_ty (K := K) (r := true) (by decide +kernel)).symm.trans hk) (by decide)
          · exact ⟨_, rfl, .inr ⟨ty', hty', hk', b _ (Same.refl _)⟩⟩
    rcases both with ⟨a, rfl, hl, hs, iT⟩ | ⟨bR, bI⟩
    · -- a text of a number
      have nn : ∀ (Hx : Hp) (Qx : VK) (Ex : XK), (∀ t b : Int, a = fL t b → Sz t → Sz b → NewNum (CN K) Hx Qx t b) → spReadX (CN K) K [.str (S a)] Hx Qx Ex := fun Hx Qx Ex h => ⟨_, rfl, .inl ⟨a, rfl, by omega, fun t b e _ st sb => h t b e st sb, fun e => by rw [iT] at e; cases e⟩⟩
      refine ⟨rfl, _, rfl, nn _ _ _ fun t b ea st sb H1 p1 s1 n1 N1 => ?_⟩
      refine ⟨rfl, _, rfl, nn _ _ _ fun t' b' ea' st' sb' H2 p2 s2 n2 N2 => ?_⟩
      have e12 : t = t' ∧ b = b' := by
        have l1 := look_f (t := t) N1.pos
        have l2 := look_f (t := t') N2.pos
        rw [← ea] at l1
        rw [← ea', l1] at l2
        have := Option.some.inj l2
        exact ⟨congrArg Prod.fst this, congrArg Prod.snd this⟩
      obtain ⟨rfl, rfl⟩ := e12
      refine ⟨(by show 2 ≤ sizeLine; decide), fun p3 n3 => ?_⟩
      have s3 := same_upd (o := .lst [.ref p1, .ref p2]) n3
      have N1' := (N1.same s2).same s3
      have N2' := N2.same s3
      have S3 := (s1.trans s2).trans s3
      have hp3 : upd H2 p3 (.lst [.ref p1, .ref p2]) p3 = some (.lst [.ref p1, .ref p2]) := upd_same
      generalize upd H2 p3 (.lst [.ref p1, .ref p2]) = H3 at *
      -- the answer
      refine ⟨_, rfl, _, rfl, .inl ⟨a, rfl, by omega, hs, fun H4 s4 => ?_⟩⟩
      rw [iT]
      refine ⟨_, rfl, iteT ?_⟩
      have hp4 := s4 _ _ hp3
      refine ⟨_, rfl, p3, rfl, ⟨_, .inl (.inl hp4)⟩, fun D nD => ?_⟩
      refine lc_fn (xs := [.ref p1, .ref p2]) (fun _ => .str (S a)) nD (.inl (.inl hp4)) (by show 2 ≤ 100000; decide) (fun y hy H5 R s5 q => ?_) (fun H5 s5 h5 => ?_)
      · have : ∃ p : Addr, y = .ref p ∧ NumAt (CN K) H5 p t b := by
          rcases List.mem_cons.mp hy with rfl | hy
          · exact ⟨p1, rfl, (N1'.same s4).same s5⟩
          · rw [List.mem_singleton.mp hy]
            exact ⟨p2, rfl, (N2'.same s4).same s5⟩
        obtain ⟨p, rfl, N⟩ := this
        obtain ⟨dx, hp⟩ := id N.at_
        refine ⟨_, rfl, p, dx, _, rfl, hp, p, t, b, rfl, N, st, sb, _, rfl, ?_⟩
        show R (.str (S (fL t b))) H5
        rw [← ea]
        exact q _ (Same.refl _)
      refine ⟨_, rfl, _, rfl, (by show 2 ≤ sizeLine; decide), fun p6 n6 => ?_⟩
      have s6 := same_upd (o := .lst [.str (S a), .str (S a)]) n6
      have hsh : SeqAt.shaped (.list [.str (S a), .str (S a)]) = true := shaped_strs (xs := [S a, S a]) fun y hy => by
        have : y = S a := by simpa using hy
        rw [this]
        exact S_asc hs
      refine ⟨.list [.str (S a), .str (S a)], .list [.str (S a), .str (S a)], .lst (.inl (.inl (s6 _ _ h5))) (.cons (.str _) (.cons (.str _) .nil)), .lst (.inl (.inl upd_same)) (.cons (.str _) (.cons (.str _) .nil)), hsh, hsh, ?_⟩
      rw [show PyData.eqv (.list [.str (S a), .str (S a)]) (.list [.str (S a), .str (S a)]) = true from eqv_strs [S a, S a]]
      refine ⟨_, rfl, iteT ?_⟩
      have hp6 := s6 _ _ (s5 _ _ hp4)
      have M1 := ((N1'.same s4).same s5).same s6
      have M2 := ((N2'.same s4).same s5).same s6
      obtain ⟨d1, g1⟩ := id M1.at_
      obtain ⟨d2, g2⟩ := id M2.at_
      refine ⟨_, rfl, p3, _, 0, _, rfl, rfl, .inl (.inl hp6), atI_nat (j := 0) rfl, _, rfl, p3, _, 1, _, rfl, rfl, .inl (.inl hp6), atI_nat (j := 1) rfl, ?_⟩
      refine ⟨p1, d1, _, _, rfl, g1, .ins g2, f_fstO T.c, p1, t, b, _, rfl, M1, .inl ⟨p2, t, b, rfl, M2, ?_⟩⟩
      rw [decide_eq_true rfl, decide_eq_true rfl]
      exact ⟨true, rfl, k _ (((S3.trans s4).trans s5).trans s6)⟩
    · -- none
      refine ⟨rfl, _, rfl, bR _ _ _ (Same.refl _) fun H1 d s1 nd => ?_⟩
      refine ⟨true, of_decide_eq_true (f_exm_text T.c), fun _ ax nax => ?_, fun z => nomatch z⟩
      have s2 := same_upd (o := .xd [("value", x)]) nd
      have hd : upd H1 d (.xd [("value", x)]) d = some (.xd [("value", x)]) := upd_same
      generalize upd H1 d (.xd [("value", x)]) = H2 at *
      have xc := excB_ok (f_exc_text T.c)
      refine ⟨_, rfl, _, _, _, true, rfl, xc, .inr ⟨d, _, rfl, hd⟩, rfl, fun u h => h, of_decide_eq_true (f_kit_text_in T.c), ?_⟩
      refine ⟨_, rfl, _, _, _, true, rfl, xc, .inr ⟨d, _, rfl, hd⟩, rfl, fun u h => h, of_decide_eq_true (f_kitB_text_ve T.c), ?_⟩
      refine ⟨_, rfl, _, _, _, false, rfl, xc, .inr ⟨d, _, rfl, hd⟩, rfl, fun u h => h, of_decide_eq_true (f_kit_text_count T.c), ?_⟩
      refine ⟨(by show 3 ≤ sizeLine; decide), fun p4 n4 => ?_⟩
      have s4 := same_upd (o := .lst [.bl true, .bl true, .bl false]) n4
      have hp4 : upd H2 p4 (.lst [.bl true, .bl true, .bl false]) p4 = some (.lst [.bl true, .bl true, .bl false]) := upd_same
      have hd4 := s4 _ _ hd
      generalize upd H2 p4 (.lst [.bl true, .bl true, .bl false]) = H4 at *
      have S4 := (s1.trans s2).trans s4
      obtain ⟨z, hz⟩ := ok.shown T
      refine ⟨_, rfl, rfl, _, d, _, x, rfl, xfB_ok (f_xfc_text T.c), He.eqO_ok (f_nof_text T.c), rfl, hd4, rfl, hz H4 _ S4 ?_⟩
      refine ⟨_, rfl, hz H4 _ S4 ⟨rfl, _, rfl, iteTd rfl ?_⟩⟩
      refine ⟨_, rfl, ?_⟩
      dsimp only [tNil]
      refine bI H4 _ _ S4 fun H5 s5 => ⟨_, rfl, _, rfl, iteT ?_⟩
      refine ⟨_, rfl, (by show 3 ≤ sizeLine; decide), fun p6 n6 => ?_⟩
      have s6 := same_upd (o := .lst [.bl true, .bl true, .bl false]) n6
      refine ⟨.list [.bool true, .bool true, .bool false], .list [.bool true, .bool true, .bool false], .lst (.inl (.inl (s6 _ _ (s5 _ _ hp4)))) (.cons (.bl _) (.cons (.bl _) (.cons (.bl _) .nil))), .lst (.inl (.inl upd_same)) (.cons (.bl _) (.cons (.bl _) (.cons (.bl _) .nil))), shaped_bls [true, true, false], shaped_bls [true, true, false], ?_⟩
      rw [show PyData.eqv (.list [.bool true, .bool true, .bool false]) (.list [.bool true, .bool true, .bool false]) = true from eqv_bls [true, true, false]]
      exact k _ ((S4.trans s5).trans s6)

end
end K03

namespace K03
open PySem PySem.Spec PyProof.Rows L2 Hk NumM NumT SX L2H
open TL (numL)
def SprAt (a : Addr) (H : Hp) : Prop := ∃ d e c, H a = some (.lst (sprL d e c)) ∧ Spr d e c
theorem SprAt.same {a : Addr} {H H' : Hp} (s : SprAt a H) (h : Same H H') : SprAt a H' := by
  obtain ⟨d, e, c, h1, h2⟩ := s
  exact ⟨d, e, c, h _ _ h1, h2⟩
theorem SprAt.ne {a p : Addr} {H : Hp} (s : SprAt a H) (np : H p = none) : a ≠ p := by
  obtain ⟨d, e, c, h1, h2⟩ := s
  exact ne_of_none h1 np
def spNextO : Sp := fun vs H Q _ => ∃ (a : Addr) (m : Int), vs = [.ref a, .int m] ∧ SprAt a H ∧ 0 < m ∧ m.natAbs < 2 ^ 200 ∧ ∀ (v : Int) (H' : Hp), 0 ≤ v → v < m → Old a H H' → SprAt a H' → Q (.int v) H'
theorem p20 : ((10 : Int) ^ (20 : Int).toNat) = 100000000000000000000 := by decide +kernel
theorem sz_of {z : Int} (h : -(2 ^ 200) < z) (h2 : z < 2 ^ 200) : Sz z := by
  have e : (2 : Nat) ^ 200 ≤ 2 ^ 1000 := by decide +kernel
  have : z.natAbs < 2 ^ 200 := by omega
  exact Nat.lt_of_lt_of_le this e
/-- an item of a list, or a sign of a text, is drawn -/
def spOneB : Sp := fun vs H Q _ => ∃ (a : Addr), SprAt a H ∧
  ((∃ (q : Addr) (xs : List V), vs = [.ref a, .ref q] ∧ H q = some (.lst xs) ∧ a ≠ q ∧ xs ≠ [] ∧ xs.length ≤ 1000 ∧ ∀ (x : V) (H' : Hp), x ∈ xs → Old a H H' → SprAt a H' → Q x H') ∨
   (∃ l : List Nat, vs = [.ref a, .str (S l)] ∧ l ≠ [] ∧ l.length ≤ 1000 ∧ ∀ (c : Nat) (H' : Hp), c ∈ l → Old a H H' → SprAt a H' → Q (.str (S [c])) H'))
section
variable {P : Program} {w : World} {K : Fr} {mg : Str → Option Value} {base : Heap}
theorem c_nextO (T : Tx K mg) : Cal P w K mg base 1 "_law_next" (gAd "_law_next" K) ["_law_spring_here", "_law_many"] spNextO :=
  (c_next T).imp fun vs H Q E ⟨a, m, e, ⟨d, x, c, h1, h2⟩, hm, hm2, k⟩ => ⟨a, m, d, x, c, e, h1, h2, hm, hm2, fun v d' e' c' v0 v1 s => k v _ v0 v1 Old.put ⟨d', e', c', upd_same, s⟩⟩

theorem c_written (T : Tx K mg) : Cal P w K mg base 1 "_law_written" (gAd "_law_written" K) ["_law_pair"] (spPair fun t b => .str (S (fL t b))) := by
  refine cal_of (d := d_l_written) (N := ["_law_pair"]) (a_l_written T.c) rfl sc_l_written (g_l_written T) (fun _ _ _ _ _ _ us hl => match us, hl with | [_], _ => rfl) (fun vs H Q E h => ?_) (fun cdv A outer s H vs Q E hr h => ?_)
  · obtain ⟨p, t, b, rfl, _⟩ := h
    rfl
  · obtain ⟨p, t, b, rfl, hp, hb, st, sb, k⟩ := h
    refine ⟨_, (pss_one (ps_ret (pe_ifExp (pt_cmpR op_eq (pe_ix ix_tup (pv 0) pe_int (fun _ _ => rfl)) pe_int (nomark _)) (pe_callTy call_str_int (by rfl) (n_str T) bo_str (pa_cons (pe_ix ix_tup (pv 0) pe_int (fun _ _ => rfl)) pa_nil)) (pe_op op_add_str (pe_op op_add_str (pe_callTy call_str_int (by rfl) (n_str T) bo_str (pa_cons (pe_ix ix_tup (pv 0) pe_int (fun _ _ => rfl)) pa_nil)) pe_str) (pe_callTy call_str_int (by rfl) (n_str T) bo_str (pa_cons (pe_ix ix_tup (pv 0) pe_int (fun _ _ => rfl)) pa_nil)))))), ?_⟩
    have l1 := i_len st
    have l2 := i_len sb
    have k := k H (Same.refl H)
    refine ⟨_, rfl, p, _, _, _, rfl, rfl, .inl (.inl hp), rfl, rfl, _, rfl, ?_⟩
    refine ite2 (fun z => ?_) (fun z => ?_)
    · have e : b = 1 := V.int.inj (of_decide_eq_true z)
      refine ⟨_, rfl, p, _, _, _, rfl, rfl, .inl (.inl hp), rfl, _, rfl, log2_small st, ?_⟩
      have k' : Q (.str (S (fL t b))) H := k
      unfold fL at k'
      rw [if_pos e] at k'
      show Q (.str _) H
      rw [toS]
      exact k'
    · have e : ¬ b = 1 := fun q => z (decide_eq_true (by rw [q]))
      refine ⟨_, rfl, p, _, _, _, rfl, rfl, .inl (.inl hp), rfl, _, rfl, log2_small st, _, _, rfl, rfl, ?_, ?_⟩
      · rw [toS, slash_S, S_len, S_len]
        exact line_ge (by simp; omega)
      refine ⟨_, rfl, p, _, _, _, rfl, rfl, .inl (.inl hp), rfl, _, rfl, log2_small sb, _, _, rfl, rfl, ?_, ?_⟩
      · rw [toS, toS, slash_S, S_cat, S_len, S_len]
        exact line_ge (by simp; omega)
      have k' : Q (.str (S (fL t b))) H := k
      unfold fL at k'
      rw [if_neg e] at k'
      show Q (.str _) H
      rw [toS, toS, slash_S, S_cat, S_cat, List.append_assoc]
      exact k'
theorem c_one (T : Tx K mg) : Cal P w K mg base 2 "_law_one" (gAd "_law_one" K) ["_law_spring_here", "_law_things"] spOneB := by
  have C_l_next := c_nextO (P := P) (w := w) (base := base) T
  refine cal_of (d := d_l_one) (N := ["_law_spring_here", "_law_things"]) (a_l_one T.c) rfl sc_l_one (g_l_one T) (fun _ _ _ _ _ _ us hl => match us, hl with | [_, _], _ => rfl) (fun vs H Q E h => ?_) (fun cdv A outer s H vs Q E hr h => ?_)
  · obtain ⟨a, _, ⟨q, xs, rfl, _⟩ | ⟨l, rfl, _⟩⟩ := h <;> rfl
  · obtain ⟨a, hs, h⟩ := h
    have r1 : Room 1 _ := hr.mono (by decide)
    refine ⟨_, (pss_one (ps_ret (pe_ix (IxR.or ix_list ix_str) (pv 1) (pe_c C_l_next r1 (pa_cons (pv 0) (pa_cons (pe_callB (callr_or call_len_seq call_len_str) (by rfl) (n_len T) bo_len (pa_cons (pv 1) pa_nil)) pa_nil))) (fun _ _ => rfl)))), ?_⟩
    have nat200 : ∀ n : Nat, n ≤ 1000 → (((n : Nat) : Int)).natAbs < 2 ^ 200 := fun n hn => by
      have : ((n : Nat) : Int).natAbs = n := by omega
      rw [this]
      exact Nat.lt_of_le_of_lt hn (by decide +kernel)
    rcases h with ⟨q, xs, rfl, hq, ne, nx, hl, k⟩ | ⟨l, rfl, nl, hl, k⟩
    · have lp : 0 < xs.length := List.length_pos_iff.mpr nx
      refine ⟨_, rfl, _, rfl, _, rfl, .inl ⟨q, xs, rfl, .inl (.inl (.inl hq)), a, _, rfl, hs, by omega, nat200 _ hl, fun v H1 h0 h1 o1 s1 => ?_⟩⟩
      obtain ⟨j, rfl⟩ := Int.eq_ofNat_of_zero_le h0
      have hj : j < xs.length := by omega
      have hx : xs[j]? = some xs[j] := by simp [hj]
      exact .inl ⟨q, xs, _, xs[j], rfl, rfl, .inl (.inl (o1 _ _ hq (Ne.symm ne))), atI_nat hx, k _ _ (List.getElem_mem hj) o1 s1⟩
    · have lp : 0 < l.length := List.length_pos_iff.mpr nl
      refine ⟨_, rfl, _, rfl, _, rfl, .inr ⟨S l, rfl, (by rw [S_len]; exact line_ge (by omega)), a, _, rfl, hs, (by rw [S_len]; omega), (by rw [S_len]; exact nat200 _ hl), fun v H1 h0 h1 o1 s1 => ?_⟩⟩
      rw [S_len] at h1
      obtain ⟨j, rfl⟩ := Int.eq_ofNat_of_zero_le h0
      have hj : j < l.length := by omega
      have hx : (S l).cps.toList[j]? = some l[j] := by
        show l[j]? = _
        simp [hj]
      exact .inr ⟨S l, _, l[j], rfl, rfl, (by rw [S_len]; exact line_ge (by omega)), atI_nat hx, k _ _ (List.getElem_mem hj) o1 s1⟩
/-- a text is bent at a place -/
def spBent : Sp := fun vs H Q _ => ∃ (a : Addr) (l : List Nat), vs = [.ref a, .str (S l)] ∧ SprAt a H ∧ l.length ≤ 240 ∧ (∀ c ∈ l, c < 128) ∧
  ∀ (m : List Nat) (H' : Hp), m.length ≤ l.length + 3 → (∀ c ∈ m, c < 128) → Old a H H' → SprAt a H' → Q (.str (S m)) H'
theorem c_bent (T : Tx K mg) : Cal P w K mg base 3 "_law_bent" (gAd "_law_bent" K) ["_law_spring_here", "_law_line"] spBent := by
  have C_l_next := c_nextO (P := P) (w := w) (base := base) T
  have C_l_one := c_one (P := P) (w := w) (base := base) T
  refine cal_of (d := d_l_bent) (N := ["_law_spring_here", "_law_line", "_law_way", "_law_at", "_law_sign", "_law_stop"]) (a_l_bent T.c) rfl sc_l_bent (g_l_bent T) (fun _ _ _ _ _ _ us hl => match us, hl with | [_, _], _ => rfl) (fun vs H Q E h => ?_) (fun cdv A outer s H vs Q E hr h => ?_)
  · obtain ⟨a, l, rfl, _⟩ := h
    rfl
  · obtain ⟨a, l, rfl, hs, hl, asc, k⟩ := h
    have r1 : Room 1 _ := hr.mono (by decide)
    have r2 : Room 2 _ := hr.mono (by decide)
    refine ⟨_, (pss_cons (ps_par (i := 2) (j := 3) (by rfl) sc_l_bent.nd rfl rfl (by decide) rfl rfl (pa_cons (pe_c C_l_next r1 (pa_cons (pv 0) (pa_cons pe_int pa_nil))) (pa_cons (pe_c C_l_next r1 (pa_cons (pv 0) (pa_cons (pe_op op_add (pe_callB call_len_str (by rfl) (n_len T) bo_len (pa_cons (pv 1) pa_nil)) pe_int) pa_nil))) pa_nil)) (by rfl))
 (pss_cons (ps_set (i := 4) sc_l_bent.nd rfl (.inl rfl) (pe_c C_l_one r2 (pa_cons (pv 0) (pa_cons pe_str pa_nil))))
 (pss_cons (ps_if (pt_cmpR op_eq (pv 2) pe_int (nomark _))
 (pss_cons (ps_set (i := 5) sc_l_bent.nd rfl (.inl rfl) (pe_op op_add (pv 3) (pe_c C_l_next r1 (pa_cons (pv 0) (pa_cons pe_int pa_nil)))))
 (pss_one (ps_ret (pe_op op_add_str (pe_slice C8.sl_txt (pv 1) po_none (po_some (pv 5))) (pe_slice C8.sl_txt (pv 1) (po_some (pv 3)) po_none)))))
 pss_nil)
 (pss_one (ps_ret (pe_op op_add_str (pe_op op_add_str (pe_slice C8.sl_txt (pv 1) po_none (po_some (pv 3))) (pe_ix ix_list (pe_lst (pa_cons pe_str (pa_cons (pv 4) (pa_cons (pv 4) pa_nil)))) (pv 2) (fun _ _ => rfl))) (pe_slice C8.sl_txt (pv 1) (po_some (pe_op op_add (pv 3) (pe_ix ix_list (pe_lst (pa_cons pe_int (pa_cons pe_int (pa_cons pe_int pa_nil)))) (pv 2) (fun _ _ => rfl)))) po_none))))))), ?_⟩
    have big : ((((S l).length : Nat) : Int) + 1).natAbs < 2 ^ 200 := by
      rw [S_len]
      exact Nat.lt_of_le_of_lt (show ((l.length : Int) + 1).natAbs ≤ 1000 by omega) (by decide +kernel)
    refine ⟨_, rfl, a, 4, rfl, hs, by decide, by decide +kernel, fun way H1 w0 w1 o1 s1 => ?_⟩
    refine ⟨_, rfl, _, rfl, _, rfl, (by rw [S_len]; exact line_ge (by omega)), _, _, rfl, rfl, a, _, rfl, s1, (by omega), big, fun pl H2 p0 p1 o2 s2 => ?_⟩
    rw [S_len] at p1
    refine ⟨_, _, rfl, ?_⟩
    have esg : ("0123456789-+/ .e_a\n" : Str) = S [48, 49, 50, 51, 52, 53, 54, 55, 56, 57, 45, 43, 47, 32, 46, 101, 95, 97, 10] := by decide +kernel
    refine ⟨_, rfl, a, s2, .inr ⟨[48, 49, 50, 51, 52, 53, 54, 55, 56, 57, 45, 43, 47, 32, 46, 101, 95, 97, 10], by rw [esg]; rfl, by decide, by decide, fun c H3 hc o3 s3 => ?_⟩⟩
    have hc128 : c < 128 := (by decide : ∀ c ∈ [48, 49, 50, 51, 52, 53, 54, 55, 56, 57, 45, 43, 47, 32, 46, 101, 95, 97, 10], c < 128) c hc
    have O3 := (o1.trans o2).trans o3
    have len0 : ∀ n, n ≤ 1000 → n ≤ sizeLine := fun n hn => line_ge (by omega)
    refine ⟨_, rfl, rfl, _, rfl, ?_⟩
    refine ite2 (fun z => ?_) (fun z => ?_)
    · refine ⟨_, rfl, _, rfl, a, 4, rfl, s3, by decide, by decide +kernel, fun st H4 t0 t1 o4 s4 => ?_⟩
      refine ⟨_, _, rfl, rfl, ?_⟩
      refine ⟨_, rfl, _, rfl, _, rfl, _, rfl, (by rw [S_len]; exact len0 _ (by omega)), ?_⟩
      rw [slice_to (by omega)]
      refine ⟨_, rfl, _, rfl, _, rfl, _, rfl, (by rw [S_len]; exact len0 _ (by omega)), ?_⟩
      rw [slice_from (by omega)]
      have e1 : (l.take (pl + st).toNat ++ l.drop pl.toNat).length ≤ l.length + 3 := by
        rw [List.length_append, List.length_take, List.length_drop]
        omega
      refine ⟨_, _, rfl, rfl, ?_, ?_⟩
      · have : (S (l.take (pl + st).toNat) ++ S (l.drop pl.toNat)).length = (l.take (pl + st).toNat ++ l.drop pl.toNat).length := by rw [S_cat, S_len]
        first
        | (rw [S_len, S_len]; rw [List.length_append] at e1; exact len0 _ (by omega))
        | (rw [this]; exact len0 _ (by omega))
      · show Q (.str (S _ ++ S _)) H4
        rw [S_cat]
        refine k _ _ e1 (fun c hc => ?_) (O3.trans o4) s4
        rcases List.mem_append.mp hc with h | h
        · exact asc c (List.mem_of_mem_take h)
        · exact asc c (List.mem_of_mem_drop h)
    · -- a sign out, in, or in another's place
      have nw : way ≠ 3 := fun e => z (decide_eq_true (by rw [e]))
      have fin : ∀ (mid : List Nat) (dl : Int), mid.length ≤ 1 → (∀ c ∈ mid, c < 128) → 0 ≤ dl → ∀ H4, Old a H3 H4 → SprAt a H4 → Q (.str (S (l.take pl.toNat ++ mid ++ l.drop (pl + dl).toNat))) H4 := fun mid dl h1 h2 h3 H4 o4 s4 => by
        refine k _ _ ?_ (fun c hc => ?_) (O3.trans o4) s4
        · rw [List.length_append, List.length_append, List.length_take, List.length_drop]
          omega
        · rcases List.mem_append.mp hc with h | h
          · rcases List.mem_append.mp h with h | h
            · exact asc c (List.mem_of_mem_take h)
            · exact h2 c h
          · exact asc c (List.mem_of_mem_drop h)
      refine ⟨_, rfl, _, rfl, _, rfl, _, rfl, (by rw [S_len]; exact len0 _ (by omega)), ?_⟩
      rw [slice_to (by omega)]
      refine ⟨_, rfl, _, rfl, (by show 3 ≤ sizeLine; decide), fun q1 n1 => ?_⟩
      have hq1 : upd H3 q1 (.lst [.str ("" : Str), .str (S [c]), .str (S [c])]) q1 = some (.lst [.str ("" : Str), .str (S [c]), .str (S [c])]) := upd_same
      have x1 : Old a H3 (upd H3 q1 (.lst [.str ("" : Str), .str (S [c]), .str (S [c])])) := Old.new n1
      have y1 : SprAt a (upd H3 q1 (.lst [.str ("" : Str), .str (S [c]), .str (S [c])])) := s3.same (same_upd n1)
      generalize upd H3 q1 (.lst [.str ("" : Str), .str (S [c]), .str (S [c])]) = H4 at *
      have way3 : way = 0 ∨ way = 1 ∨ way = 2 := by omega
      rcases way3 with rfl | rfl | rfl
      · -- way 0
        have eM : ("" : Str) = S [] := by decide +kernel
        refine ⟨_, rfl, q1, _, 0, _, rfl, rfl, .inl (.inl hq1), atI_nat (j := 0) rfl, ?_⟩
        refine ⟨_, _, rfl, rfl, (by rw [eM, S_len, S_len, List.length_take]; exact len0 _ (by simp; omega)), ?_⟩
        refine ⟨_, rfl, _, rfl, (by show 3 ≤ sizeLine; decide), fun q2 n2 => ?_⟩
        refine ⟨_, rfl, q2, _, 0, _, rfl, rfl, .inl (.inl upd_same), atI_nat (j := 0) rfl, ?_⟩
        refine ⟨_, _, rfl, rfl, _, rfl, _, rfl, (by rw [S_len]; exact len0 _ (by omega)), ?_⟩
        rw [slice_from (by omega)]
        have F := fin ([] : List Nat) 1 (by decide) (by intro x hx; cases hx) (by decide) (upd H4 q2 (.lst [.int 1, .int 0, .int 1])) (x1.trans (Old.new n2)) (y1.same (same_upd n2))
        have fl : (l.take pl.toNat ++ ([] : List Nat) ++ l.drop (pl + 1).toNat).length ≤ 1000 := by
          rw [List.length_append, List.length_append, List.length_take, List.length_drop]
          simp
          omega
        have ecat : S (l.take pl.toNat) ++ ("" : Str) ++ S (l.drop (pl + 1).toNat) = S (l.take pl.toNat ++ ([] : List Nat) ++ l.drop (pl + 1).toNat) := by
          rw [show ("" : Str) = S [] by decide +kernel]; rw [S_cat, S_cat]
        refine ⟨_, _, rfl, rfl, ?_, ?_⟩
        · rw [eM, S_cat, S_len, S_len]
          rw [List.length_append] at fl
          exact len0 _ fl
        · show Q (.str (S (l.take pl.toNat) ++ ("" : Str) ++ S (l.drop (pl + 1).toNat))) _
          rw [ecat]
          exact F
      · -- way 1
        have eM : S [c] = S [c] := rfl
        refine ⟨_, rfl, q1, _, 1, _, rfl, rfl, .inl (.inl hq1), atI_nat (j := 1) rfl, ?_⟩
        refine ⟨_, _, rfl, rfl, (by rw [eM, S_len, S_len, List.length_take]; exact len0 _ (by simp; omega)), ?_⟩
        refine ⟨_, rfl, _, rfl, (by show 3 ≤ sizeLine; decide), fun q2 n2 => ?_⟩
        refine ⟨_, rfl, q2, _, 1, _, rfl, rfl, .inl (.inl upd_same), atI_nat (j := 1) rfl, ?_⟩
        refine ⟨_, _, rfl, rfl, _, rfl, _, rfl, (by rw [S_len]; exact len0 _ (by omega)), ?_⟩
        rw [slice_from (by omega)]
        have F := fin [c] 0 (by show 1 ≤ 1; decide) (by intro x hx; rw [List.mem_singleton.mp hx]; exact hc128) (by decide) (upd H4 q2 (.lst [.int 1, .int 0, .int 1])) (x1.trans (Old.new n2)) (y1.same (same_upd n2))
        have fl : (l.take pl.toNat ++ [c] ++ l.drop (pl + 0).toNat).length ≤ 1000 := by
          rw [List.length_append, List.length_append, List.length_take, List.length_drop]
          simp
          omega
        have ecat : S (l.take pl.toNat) ++ S [c] ++ S (l.drop (pl + 0).toNat) = S (l.take pl.toNat ++ [c] ++ l.drop (pl + 0).toNat) := by
          rw [S_cat, S_cat]
        refine ⟨_, _, rfl, rfl, ?_, ?_⟩
        · rw [eM, S_cat, S_len, S_len]
          rw [List.length_append] at fl
          exact len0 _ fl
        · show Q (.str (S (l.take pl.toNat) ++ S [c] ++ S (l.drop (pl + 0).toNat))) _
          rw [ecat]
          exact F
      · -- way 2
        have eM : S [c] = S [c] := rfl
        refine ⟨_, rfl, q1, _, 2, _, rfl, rfl, .inl (.inl hq1), atI_nat (j := 2) rfl, ?_⟩
        refine ⟨_, _, rfl, rfl, (by rw [eM, S_len, S_len, List.length_take]; exact len0 _ (by simp; omega)), ?_⟩
        refine ⟨_, rfl, _, rfl, (by show 3 ≤ sizeLine; decide), fun q2 n2 => ?_⟩
        refine ⟨_, rfl, q2, _, 2, _, rfl, rfl, .inl (.inl upd_same), atI_nat (j := 2) rfl, ?_⟩
        refine ⟨_, _, rfl, rfl, _, rfl, _, rfl, (by rw [S_len]; exact len0 _ (by omega)), ?_⟩
        rw [slice_from (by omega)]
        have F := fin [c] 1 (by show 1 ≤ 1; decide) (by intro x hx; rw [List.mem_singleton.mp hx]; exact hc128) (by decide) (upd H4 q2 (.lst [.int 1, .int 0, .int 1])) (x1.trans (Old.new n2)) (y1.same (same_upd n2))
        have fl : (l.take pl.toNat ++ [c] ++ l.drop (pl + 1).toNat).length ≤ 1000 := by
          rw [List.length_append, List.length_append, List.length_take, List.length_drop]
          simp
          omega
        have ecat : S (l.take pl.toNat) ++ S [c] ++ S (l.drop (pl + 1).toNat) = S (l.take pl.toNat ++ [c] ++ l.drop (pl + 1).toNat) := by
          rw [S_cat, S_cat]
        refine ⟨_, _, rfl, rfl, ?_, ?_⟩
        · rw [eM, S_cat, S_len, S_len]
          rw [List.length_append] at fl
          exact len0 _ fl
        · show Q (.str (S (l.take pl.toNat) ++ S [c] ++ S (l.drop (pl + 1).toNat))) _
          rw [ecat]
          exact F

end
end K03

namespace K03
open PySem PySem.Spec PyProof.Rows L2 Hk NumM NumT SX L2H
open TL (numL)
theorem num_len200 {n : Nat} (h : n < 2 ^ 200) : (numL n).length ≤ 62 := by
  have h2 : n < 10 ^ 62 := Nat.lt_of_lt_of_le h (by decide +kernel)
  have : ∀ k m : Nat, m < 10 ^ (k + 1) → (numL m).length ≤ k + 1 := fun k => by
    induction k with
    | zero =>
      intro m hm
      rw [TL.numL_lt (by omega)]
      exact Nat.le_refl _
    | succ k ih =>
      intro m hm
      by_cases h : m < 10
      · rw [TL.numL_lt h]
        show 1 ≤ _
        omega
      · rw [TL.numL_step (by omega), List.length_append]
        have := ih (m / 10) (by rw [Nat.pow_succ] at hm; exact Nat.div_lt_of_lt_mul (by rw [Nat.mul_comm]; exact hm))
        show _ + 1 ≤ _
        omega
  exact this 61 n h2
theorem i_len200 {z : Int} (h : z.natAbs < 2 ^ 200) : (iL z).length ≤ 63 := by
  unfold iL
  have := num_len200 h
  split
  · rw [List.length_cons]; omega
  · omega
theorem f_len200 {t b : Int} (h1 : t.natAbs < 2 ^ 200) (h2 : b.natAbs < 2 ^ 200) : (fL t b).length ≤ 130 := by
  have a := i_len200 h1
  have c := i_len200 h2
  unfold fL
  split
  · omega
  · rw [List.length_append, List.length_cons]; omega
abbrev S2 (z : Int) : Prop := z.natAbs < 2 ^ 200
theorem S2.sz {z : Int} (h : S2 z) : Sz z := Nat.lt_trans h (by decide +kernel)
/-- a pair in lowest terms stands at p, apart from a -/
structure PairAt (a : Addr) (H : Hp) (p : Addr) (t b : Int) : Prop where
  ne : p ≠ a
  at_ : H p = some (.tup [.int t, .int b])
  pos : 0 < b
  st : S2 t
  sb : S2 b
theorem PairAt.old {a : Addr} {H H' : Hp} {p : Addr} {t b : Int} (h : PairAt a H p t b) (o : Old a H H') : PairAt a H' p t b := ⟨h.ne, o _ _ h.at_ h.ne, h.pos, h.st, h.sb⟩
abbrev N_l_right : List Str := ["_law_spring_here", "_law_pair", "_law_line", "_law_bent_here", "_law_each"]
def spRight : Sp := fun vs H Q _ => ∃ a : Addr, vs = [.ref a] ∧ SprAt a H ∧ ∀ H', Old a H H' → SprAt a H' → Q (.bl true) H'
section
variable {P : Program} {w : World} {K : Fr} {mg : Str → Option Value} {base : Heap}
theorem c_right (T : Tx K mg) : CalG P w K mg base 8 "_law_right" (gAd "_law_right" K) ["_law_spring_here"] spRight := by
  have C_l_next := c_nextO (P := P) (w := w) (base := base) T
  have C_l_low := c_low (P := P) (w := w) (base := base) T
  have C_l_written := c_written (P := P) (w := w) (base := base) T
  have C_l_bent := c_bent (P := P) (w := w) (base := base) T
  have C_l_one := c_one (P := P) (w := w) (base := base) T
  have C_l_rr := c_read_right (P := P) (w := w) (base := base) T
  obtain ⟨fi, Di, Fi⟩ := f_init (P := P) (w := w) (base := base) T
  obtain ⟨ds1, rd1, bi1⟩ := b_init1 Di
  refine calg_of (d := d_l_right) (N := N_l_right) (a_l_right T.c) rfl sc_l_right (g_l_right T) (fun _ _ _ _ _ _ us hl => match us, hl with | [_], _ => rfl) (fun vs H Q E h => ?_) (fun cdv A outer s H vs Q E hr hc h => ?_)
  · obtain ⟨a, rfl, _⟩ := h
    rfl
  · obtain ⟨a, rfl, hs, k⟩ := h
    have r1 : Room 1 _ := hr.mono (by decide)
    have r2 : Room 2 _ := hr.mono (by decide)
    have r3 : Room 3 _ := hr.mono (by decide)
    refine ⟨_, (pss_cons (ps_set (i := 1) sc_l_right.nd rfl (.inl rfl) (pe_c C_l_low r1 (pa_cons (pe_op op_sub (pe_c C_l_next r1 (pa_cons (pv 0) (pa_cons pe_int pa_nil))) pe_int) (pa_cons (pe_op op_add pe_int (pe_c C_l_next r1 (pa_cons (pv 0) (pa_cons pe_int pa_nil)))) pa_nil))))
 (pss_cons (ps_if (pt_cmpR op_eq (pe_c C_l_next r1 (pa_cons (pv 0) (pa_cons pe_int pa_nil))) pe_int (nomark _))
 (pss_one (ps_set (i := 1) sc_l_right.nd rfl (.inl rfl) (pe_c C_l_low r1 (pa_cons (pe_op op_sub (pe_c C_l_next r1 (pa_cons (pv 0) (pa_cons (pe_op op_pow pe_int pe_int) pa_nil))) (pe_op op_pow pe_int pe_int)) (pa_cons (pe_op op_add pe_int (pe_c C_l_next r1 (pa_cons (pv 0) (pa_cons (pe_op op_pow pe_int pe_int) pa_nil)))) pa_nil)))))
 pss_nil)
 (pss_cons (ps_set (i := 2) sc_l_right.nd rfl (.inl rfl) (pe_c C_l_written r1 (pa_cons (pv 1) pa_nil)))
 (pss_cons (ps_set (i := 3) sc_l_right.nd rfl (.inl rfl) (pe_c C_l_bent r3 (pa_cons (pv 0) (pa_cons (pv 2) pa_nil))))
 (pss_cons (ps_if (pt_not (pt_val (pe_callB (cr_all rfl) (by rfl) (n_all T) bo_all (pa_cons (pe_lc (own := [("_law_each", 4)]) (g := gName 4) (tt := tYes) rfl sc_l_right.nd (pi_list (pe_lst (pa_cons (pv 2) (pa_cons (pv 3) (pa_cons (pe_c C_l_bent r3 (pa_cons (pv 0) (pa_cons (pv 3) pa_nil))) pa_nil))))) (blkOk_by (N := N_l_right) (sc := defScope s_l_right) (by decide +kernel)) (fun _ _ _ _ _ => pg_name (i := 4) sc_l_right.nd rfl (.inl rfl)) (fun _ _ _ _ _ => pts_nil) (fun _ _ _ _ _ => (pe_g C_l_rr hr hc (pa_cons (pv 4) pa_nil)))) pa_nil))))
 (pss_one (ps_ret pe_bl))
 pss_nil)
 (pss_one (ps_ret (pe_g C_l_rr hr hc (pa_cons (pe_c C_l_one r2 (pa_cons (pv 0) (pa_cons (pe_lst (pa_cons pe_non (pa_cons pe_int (pa_cons pe_bl (pa_cons (pe_tup (pa_cons (pv 2) pa_nil)) (pa_cons (pe_lst (pa_cons (pv 2) pa_nil)) (pa_cons (pv 1) (pa_cons (pe_num (mkN T) Fi r3 (g_Number T) bi1 rd1 (pa_cons pe_int pa_nil)) pa_nil)))))))) pa_nil))) pa_nil))))))))), ?_⟩
    have lo : ∀ {h b : Int}, b ≠ 0 → S2 h → S2 b → S2 (lowT h b) ∧ S2 (lowB h b) := fun hb h1 h2 => ⟨Nat.lt_of_le_of_lt (lowT_le hb) h1, Nat.lt_of_le_of_lt (lowB_le hb) h2⟩
    have s2 : ∀ z : Int, -(2 ^ 200) < z → z < 2 ^ 200 → S2 z := fun z h1 h2 => by
      show z.natAbs < 2 ^ 200
      omega
    -- pair
    refine ⟨_, rfl, a, 41, rfl, hs, by decide, by decide +kernel, fun v H1 v0 v1 o1 s1 => ?_⟩
    refine ⟨_, _, rfl, rfl, ?_⟩
    refine ⟨_, rfl, a, 12, rfl, s1, by decide, by decide +kernel, fun u H2 u0 u1 o2 s2' => ?_⟩
    refine ⟨_, _, rfl, rfl, ?_⟩
    have q1 : S2 (v - 20) := s2 _ (by omega) (by omega)
    have q2 : S2 (1 + u) := s2 _ (by omega) (by omega)
    refine ⟨_, _, rfl, (by omega), q1.sz, q2.sz, fun p np => ?_⟩
    have pr : PairAt a (upd H2 p (.tup [.int (lowT (v - 20) (1 + u)), .int (lowB (v - 20) (1 + u))])) p (lowT (v - 20) (1 + u)) (lowB (v - 20) (1 + u)) :=
      ⟨Ne.symm (s2'.ne np), upd_same, low_pos (by omega), (lo (by omega) q1 q2).1, (lo (by omega) q1 q2).2⟩
    have O3 : Old a H (upd H2 p (.tup [.int (lowT (v - 20) (1 + u)), .int (lowB (v - 20) (1 + u))])) := (o1.trans o2).trans (Old.new np)
    have s3 := s2'.same (same_upd (o := .tup [.int (lowT (v - 20) (1 + u)), .int (lowB (v - 20) (1 + u))]) np)
    generalize upd H2 p (HO.tup [V.int (lowT (v - 20) (1 + u)), V.int (lowB (v - 20) (1 + u))]) = H3 at *
    generalize lowT (v - 20) (1 + u) = t at *
    generalize lowB (v - 20) (1 + u) = b at *
    -- another one at times
    refine ⟨_, rfl, a, 5, rfl, s3, by decide, by decide +kernel, fun f H4 f0 f1 o4 s4 => ?_⟩
    refine ⟨rfl, _, rfl, ?_⟩
    refine join_if (fun σ' H' => ∃ (p : Addr) (t b : Int), σ' = [some (.ref a), some (.ref p), none, none, none] ∧ PairAt a H' p t b ∧ Old a H H' ∧ SprAt a H') ?_ (fun z cont => ?_) (fun z => ⟨p, t, b, rfl, pr.old o4, O3.trans o4, s4⟩)
    rotate_left
    · refine ⟨_, rfl, _, _, rfl, rfl, ⟨by decide, by decide, by decide⟩, ?_⟩
      refine ⟨a, _, rfl, s4, by decide +kernel, by decide +kernel, fun v H5 v0 v1 o5 s5 => ?_⟩
      refine ⟨_, _, rfl, rfl, ⟨by decide, by decide, by decide⟩, _, _, rfl, rfl, ?_⟩
      refine ⟨_, rfl, _, _, rfl, rfl, ⟨by decide, by decide, by decide⟩, ?_⟩
      refine ⟨a, _, rfl, s5, by decide +kernel, by decide +kernel, fun u H6 u0 u1 o6 s6 => ?_⟩
      refine ⟨_, _, rfl, rfl, ?_⟩
      have e20 : ((10 : Int) ^ (20 : Int).toNat) = 100000000000000000000 := p20
      have e19 : ((10 : Int) ^ (19 : Int).toNat) = 10000000000000000000 := by decide +kernel
      have e9 : ((10 : Int) ^ (9 : Int).toNat) = 1000000000 := by decide +kernel
      rw [e20] at v1
      rw [e9] at u1
      have q1 : S2 (v - (10 : Int) ^ (19 : Int).toNat) := by rw [e19]; exact s2 _ (by omega) (by omega)
      have q2 : S2 (1 + u) := s2 _ (by omega) (by omega)
      refine ⟨_, _, rfl, (by omega), q1.sz, q2.sz, fun p np => ?_⟩
      exact cont _ _ ⟨p, _, _, rfl, ⟨Ne.symm (s6.ne np), upd_same, low_pos (by omega), (lo (by omega) q1 q2).1, (lo (by omega) q1 q2).2⟩, ((((O3.trans o4).trans o5).trans o6).trans (Old.new np)), s6.same (same_upd np)⟩
    rintro σ' H5 ⟨p, t, b, rfl, pr, O5, s5⟩
    -- line, bent
    refine ⟨_, rfl, p, t, b, rfl, pr.at_, pr.pos, pr.st.sz, pr.sb.sz, fun H6 e6 => ?_⟩
    have pr6 := pr.old (Old.same e6)
    have s6 := s5.same e6
    have O6 := O5.trans (Old.same e6)
    have lf := f_len200 pr.st pr.sb
    have af := fL_small t b
    refine ⟨_, rfl, _, rfl, a, fL t b, rfl, s6, by omega, af, fun m H7 lm am o7 s7 => ?_⟩
    have pr7 := pr6.old o7
    have O7 := O6.trans o7
    refine ⟨_, rfl, _, rfl, _, rfl, _, rfl, a, m, rfl, s7, by omega, am, fun m2 H8 lm2 am2 o8 s8 => ?_⟩
    refine ⟨(by show 3 ≤ sizeLine; decide), fun L nL => ?_⟩
    have pr8 := pr7.old (o8.trans (Old.new (o := .lst [.str (S (fL t b)), .str (S m), .str (S m2)]) nL))
    have O8 := (O7.trans o8).trans (Old.new (o := .lst [.str (S (fL t b)), .str (S m), .str (S m2)]) nL)
    have s8' := s8.same (same_upd (o := .lst [.str (S (fL t b)), .str (S m), .str (S m2)]) nL)
    have hL : upd H8 L (.lst [.str (S (fL t b)), .str (S m), .str (S m2)]) L = some (.lst [.str (S (fL t b)), .str (S m), .str (S m2)]) := upd_same
    generalize upd H8 L (HO.lst [V.str (S (fL t b)), V.str (S m), V.str (S m2)]) = H9 at *
    refine ⟨L, rfl, ⟨_, .inl (.inl hL)⟩, fun D nD => ?_⟩
    refine lc_fn (xs := [.str (S (fL t b)), .str (S m), .str (S m2)]) (fun _ => .bl true) nD (.inl (.inl hL)) (by show 3 ≤ 100000; decide) (fun x hx H' R s q => ?_) (fun H10 s10 h10 => ?_)
    · refine ⟨_, rfl, x, rfl, ?_, q⟩
      simp only [List.mem_cons, List.not_mem_nil, or_false] at hx
      rcases hx with rfl | rfl | rfl
      · exact .txt (fL t b) (by omega) af
      · exact .txt m (by omega) am
      · exact .txt m2 (by omega) am2
    refine ⟨D, [true, true, true], rfl, .inl (.inl h10), _, rfl, iteF ?_⟩
    have pr10 := pr8.old (Old.same s10)
    have s11 := s8'.same s10
    have O10 := O8.trans (Old.same s10)
    -- what is no text
    refine ⟨_, rfl, _, rfl, (by show 1 ≤ sizeLine; decide), fun pt nt => ?_⟩
    refine ⟨_, rfl, (by show 1 ≤ sizeLine; decide), fun pl nl => ?_⟩
    refine ⟨_, rfl, 1, 1, rfl, by decide, by decide +kernel, fun H11 pN sN nN NN => ?_⟩
    refine ⟨(by show 7 ≤ sizeLine; decide), fun q nq => ?_⟩
    have a1 : upd H10 pt (.tup [.str (S (fL t b))]) pt = some (.tup [.str (S (fL t b))]) := upd_same
    have t1 : pt ≠ a := Ne.symm (s11.ne nt)
    have s12 := s11.same (same_upd (o := .tup [.str (S (fL t b))]) nt)
    have O12 := O10.trans (Old.new (o := .tup [.str (S (fL t b))]) nt)
    have pr12 := pr10.old (Old.new (o := .tup [.str (S (fL t b))]) nt)
    generalize upd H10 pt (HO.tup [V.str (S (fL t b))]) = H12 at *
    have a2 : upd H12 pl (.lst [.str (S (fL t b))]) pl = some (.lst [.str (S (fL t b))]) := upd_same
    have t2 : pl ≠ a := Ne.symm (s12.ne nl)
    have a1' := same_upd (o := .lst [.str (S (fL t b))]) nl _ _ a1
    have s13 := s12.same (same_upd (o := .lst [.str (S (fL t b))]) nl)
    have O13 := O12.trans (Old.new (o := .lst [.str (S (fL t b))]) nl)
    have pr13 := pr12.old (Old.new (o := .lst [.str (S (fL t b))]) nl)
    generalize upd H12 pl (HO.lst [V.str (S (fL t b))]) = H13 at *
    have t3 : pN ≠ a := Ne.symm (s13.ne nN)
    have s14 := s13.same sN
    have O14 := O13.trans (Old.same sN)
    have pr14 := pr13.old (Old.same sN)
    have u1 := sN _ _ a1'
    have u2 := sN _ _ a2
    have s15 := s14.same (same_upd (o := .lst [.non, .int 5, .bl true, .ref pt, .ref pl, .ref p, .ref pN]) nq)
    have O15 := O14.trans (Old.new (o := .lst [.non, .int 5, .bl true, .ref pt, .ref pl, .ref p, .ref pN]) nq)
    have e15 := same_upd (o := .lst [.non, .int 5, .bl true, .ref pt, .ref pl, .ref p, .ref pN]) nq
    refine ⟨a, s15, .inl ⟨q, _, rfl, upd_same, s14.ne nq, by simp, (by show 7 ≤ 1000; decide), fun x H16 hx o16 s16 => ?_⟩⟩
    refine ⟨x, rfl, ?_, fun H17 e17 => k _ ((O15.trans o16).trans (Old.same e17)) (s16.same e17)⟩
    simp only [List.mem_cons, List.not_mem_nil, or_false] at hx
    rcases hx with rfl | rfl | rfl | rfl | rfl | rfl | rfl
    · exact .non
    · exact .int 5 (by decide +kernel)
    · exact .bl true
    · exact .tupS (o16 _ _ (e15 _ _ u1) t1) (by omega) af
    · exact .lstS (o16 _ _ (e15 _ _ u2) t2) (by omega) af
    · exact .tupI (o16 _ _ (e15 _ _ pr14.at_) pr14.ne) pr14.st.sz pr14.sb.sz
    · obtain ⟨dx, hp⟩ := (NN.same e15).at_
      exact .num ⟨⟨dx, o16 _ _ hp t3⟩, NN.pos, NN.cop⟩ (by decide +kernel) (by decide +kernel)

end
end K03

namespace K03
open PySem PySem.Spec PyProof.Rows L2 Hk NumM NumT SX L2H
abbrev N_law : List Str := ["_law_script", "_law_good", "_law_bad", "_law_line", "_law_spot", "_law_spring_here", "_law_turn"]
def goodS : List Str := ["0", "-1", "7", "1/2", "-3/4", "99/98", "10/3"]
def bad1S : List Str := ["", "-", "/", "1/", "/2", "-0", "0/2", "2/4", "1/1", "01", "1/02", "+1", "--1", "1/-2", " 1", "1 ", "1 / 2"]
def bad2S : List Str := ["1/2/3", "1.5", "1e3", "1_0", "a", "1/2\n", "-/2", "0/1", "00", "-00", "3/0", "0/0"]
def litOk (z : Str) : Bool := decide (z.cps.toList.length ≤ 250) && z.cps.toList.all (fun c => decide (c < 128))
theorem lit_ok {C : Addr} {H : Hp} {z : Str} (h : litOk z = true) : OkV C H (.str z) := by
  unfold litOk at h
  rw [Bool.and_eq_true, decide_eq_true_eq, List.all_eq_true] at h
  have := OkV.txt (C := C) (H := H) z.cps.toList h.1 fun c hc => of_decide_eq_true (h.2 c hc)
  rw [S_tl] at this
  exact this
theorem all_lit : (goodS ++ (bad1S ++ bad2S)).all litOk = true := by decide +kernel
theorem good_lit : goodS.all (fun z => isT z.cps.toList && litOk z) = true := by decide +kernel
def spLaw (K : Fr) : Sp := fun vs H Q _ => ∃ (a : Addr) (ns : List Int), vs = [.ref a] ∧ SqL K H a (ns.map V.int) ∧ ns.length ≤ 63 ∧ ∀ H' : Hp, Q (.bl true) H'
section
variable {P : Program} {w : World} {K : Fr} {mg : Str → Option Value} {base : Heap}
theorem g_law_ok (T : Tx K mg) {fd : FuncData} (D : DAt K d_law fd) : FnG P w K mg base 9 (d_law.ad K) fd ["_law_script"] (spLaw K) := by
  have C_l_spring := c_spring (P := P) (w := w) (base := base) T
  have C_l_right := c_right (P := P) (w := w) (base := base) T
  have C_l_rr := c_read_right (P := P) (w := w) (base := base) T
  obtain ⟨fr, Dr, Fr'⟩ := f_readX (P := P) (w := w) (base := base) T
  obtain ⟨fs, Ds, Fs⟩ := f_str (P := P) (w := w) (base := base) T
  have bs : Binds K fs ["self"] [] := FunD.bindsN Ds fun _ _ _ _ _ _ us hl => match us, hl with | [_], _ => rfl
  refine okg_of (N := N_law) D sc_law (fun vs H Q E h => ?_) (fun cdv A outer s H vs Q E hr hc h => ?_)
  · obtain ⟨a, ns, rfl, _⟩ := h
    rfl
  · obtain ⟨a, ns, rfl, hS, hn, k⟩ := h
    have r1 : Room 1 _ := hr.mono (by decide)
    have r7 : Room 7 _ := hr.mono (by decide)
    have r6 : Room 6 _ := hr.mono (by decide)
    refine ⟨_, (pss_cons (ps_set (i := 1) sc_law.nd rfl (.inl rfl) (pe_lst (pa_cons pe_str (pa_cons pe_str (pa_cons pe_str (pa_cons pe_str (pa_cons pe_str (pa_cons pe_str (pa_cons pe_str pa_nil)))))))))
 (pss_cons (ps_set (i := 2) sc_law.nd rfl (.inl rfl) (pe_lst (pa_cons pe_str (pa_cons pe_str (pa_cons pe_str (pa_cons pe_str (pa_cons pe_str (pa_cons pe_str (pa_cons pe_str (pa_cons pe_str (pa_cons pe_str (pa_cons pe_str (pa_cons pe_str (pa_cons pe_str (pa_cons pe_str (pa_cons pe_str (pa_cons pe_str (pa_cons pe_str (pa_cons pe_str pa_nil)))))))))))))))))))
 (pss_cons (ps_set (i := 2) sc_law.nd rfl (.inl rfl) (pe_op op_cat (pv 2) (pe_lst (pa_cons pe_str (pa_cons pe_str (pa_cons pe_str (pa_cons pe_str (pa_cons pe_str (pa_cons pe_str (pa_cons pe_str (pa_cons pe_str (pa_cons pe_str (pa_cons pe_str (pa_cons pe_str (pa_cons pe_str pa_nil)))))))))))))))
 (pss_cons (ps_if (PW.pt (pw_or (pt_not (pt_val (pe_callB (cr_all rfl) (by rfl) (n_all T) bo_all (pa_cons (pe_lc (own := [("_law_line", 3)]) (g := gName 3) (tt := tYes) rfl sc_law.nd (pi_list (pe_op op_cat (pv 1) (pv 2))) (blkOk_by (N := N_law) (sc := defScope s_law) (by decide +kernel)) (fun _ _ _ _ _ => pg_name (i := 3) sc_law.nd rfl (.inl rfl)) (fun _ _ _ _ _ => pts_nil) (fun _ _ _ _ _ => (pe_g C_l_rr r7 hc (pa_cons (pv 3) pa_nil)))) pa_nil))))
   (pw_or1 (pt_cmpR (op_neD hr.units) (pe_lc (own := [("_law_line", 3)]) (g := gName 3) (tt := tYes) rfl sc_law.nd (pi_list (pv 1)) (blkOk_by (N := N_law) (sc := defScope s_law) (by decide +kernel)) (fun _ _ _ _ _ => pg_name (i := 3) sc_law.nd rfl (.inl rfl)) (fun _ _ _ _ _ => pts_nil) (fun _ _ _ _ _ => (pe_callTy (call_strO (own_ok (f_meth_str T.c)) Fs bs (hr.mono (by decide))) (by rfl) (n_str T) bo_str
      (pa_cons (pe_statP (pe_glob (v := .ref (gAd "Number" K)) rfl (g_Number T) rfl) (stat_ok (f_stat_read T.c)) Fr' r6 (fun σ => L2N.passAt (takesN0 _) σ) (b_read Dr) (pa_cons (pv 3) pa_nil)) pa_nil)))) (pv 1) (nomark _)))))
 (pss_one (ps_ret pe_bl))
 pss_nil)
 (pss_cons (ps_for PassesOwn.never rfl (pi_range1 (by rfl) (n_range T) (pa_cons (pe_callB (call_max2 rfl) (by rfl) (n_max T) bo_max (pa_cons pe_int (pa_cons (pe_callB (call_min2 rfl) (by rfl) (n_min T) bo_min (pa_cons (pe_callB call_len_seq (by rfl) (n_len T) bo_len (pa_cons (pv 0) pa_nil)) (pa_cons pe_int pa_nil))) pa_nil))) pa_nil)) (pg_name (i := 4) sc_law.nd rfl (.inl rfl))
 (pss_cons (ps_set (i := 5) sc_law.nd rfl (.inr rfl) (pe_c C_l_spring r1 (pa_cons (pv 0) (pa_cons (pv 4) pa_nil))))
 (pss_one (ps_if (pt_not (pt_val (pe_callB (cr_all rfl) (by rfl) (n_all T) bo_all (pa_cons (pe_lc (own := [("_law_turn", 6)]) (g := gName 6) (tt := tYes) rfl sc_law.nd (pi_range1 (by rfl) (n_range T) (pa_cons pe_int pa_nil)) (blkOk_by (N := N_law) (sc := defScope s_law) (by decide +kernel)) (fun _ _ _ _ _ => pg_name (i := 6) sc_law.nd rfl (.inl rfl)) (fun _ _ _ _ _ => pts_nil) (fun _ _ _ _ _ => (pe_g C_l_right hr hc (pa_cons (pv 5) pa_nil)))) pa_nil))))
 (pss_one (ps_ret pe_bl))
 pss_nil))))
 (pss_one (ps_ret pe_bl))))))), ?_⟩
    -- the lines
    refine ⟨(by show 7 ≤ sizeLine; decide), fun pg ng => ?_⟩
    have hg : upd H pg (.lst [.str ("0" : Str), .str ("-1" : Str), .str ("7" : Str), .str ("1/2" : Str), .str ("-3/4" : Str), .str ("99/98" : Str), .str ("10/3" : Str)]) pg = some (.lst (goodS.map V.str)) := upd_same
    have s1 := same_upd (o := .lst [.str ("0" : Str), .str ("-1" : Str), .str ("7" : Str), .str ("1/2" : Str), .str ("-3/4" : Str), .str ("99/98" : Str), .str ("10/3" : Str)]) ng
    generalize upd H pg (.lst [.str ("0" : Str), .str ("-1" : Str), .str ("7" : Str), .str ("1/2" : Str), .str ("-3/4" : Str), .str ("99/98" : Str), .str ("10/3" : Str)]) = H1 at *
    refine ⟨(by show 17 ≤ sizeLine; decide), fun pb nb => ?_⟩
    have hb : upd H1 pb (.lst [.str ("" : Str), .str ("-" : Str), .str ("/" : Str), .str ("1/" : Str), .str ("/2" : Str), .str ("-0" : Str), .str ("0/2" : Str), .str ("2/4" : Str), .str ("1/1" : Str), .str ("01" : Str), .str ("1/02" : Str), .str ("+1" : Str), .str ("--1" : Str), .str ("1/-2" : Str), .str (" 1" : Str), .str ("1 " : Str), .str ("1 / 2" : Str)]) pb = some (.lst (bad1S.map V.str)) := upd_same
    have s2 := same_upd (o := .lst [.str ("" : Str), .str ("-" : Str), .str ("/" : Str), .str ("1/" : Str), .str ("/2" : Str), .str ("-0" : Str), .str ("0/2" : Str), .str ("2/4" : Str), .str ("1/1" : Str), .str ("01" : Str), .str ("1/02" : Str), .str ("+1" : Str), .str ("--1" : Str), .str ("1/-2" : Str), .str (" 1" : Str), .str ("1 " : Str), .str ("1 / 2" : Str)]) nb
    have hg := s2 _ _ hg
    generalize upd H1 pb (.lst [.str ("" : Str), .str ("-" : Str), .str ("/" : Str), .str ("1/" : Str), .str ("/2" : Str), .str ("-0" : Str), .str ("0/2" : Str), .str ("2/4" : Str), .str ("1/1" : Str), .str ("01" : Str), .str ("1/02" : Str), .str ("+1" : Str), .str ("--1" : Str), .str ("1/-2" : Str), .str (" 1" : Str), .str ("1 " : Str), .str ("1 / 2" : Str)]) = H2 at *
    refine ⟨_, rfl, (by show 12 ≤ sizeLine; decide), fun pc nc => ?_⟩
    have hc' : upd H2 pc (.lst [.str ("1/2/3" : Str), .str ("1.5" : Str), .str ("1e3" : Str), .str ("1_0" : Str), .str ("a" : Str), .str ("1/2\n" : Str), .str ("-/2" : Str), .str ("0/1" : Str), .str ("00" : Str), .str ("-00" : Str), .str ("3/0" : Str), .str ("0/0" : Str)]) pc = some (.lst (bad2S.map V.str)) := upd_same
    have s3 := same_upd (o := .lst [.str ("1/2/3" : Str), .str ("1.5" : Str), .str ("1e3" : Str), .str ("1_0" : Str), .str ("a" : Str), .str ("1/2\n" : Str), .str ("-/2" : Str), .str ("0/1" : Str), .str ("00" : Str), .str ("-00" : Str), .str ("3/0" : Str), .str ("0/0" : Str)]) nc
    have hg := s3 _ _ hg
    have hb := s3 _ _ hb
    generalize upd H2 pc (.lst [.str ("1/2/3" : Str), .str ("1.5" : Str), .str ("1e3" : Str), .str ("1_0" : Str), .str ("a" : Str), .str ("1/2\n" : Str), .str ("-/2" : Str), .str ("0/1" : Str), .str ("00" : Str), .str ("-00" : Str), .str ("3/0" : Str), .str ("0/0" : Str)]) = H3 at *
    refine ⟨pb, pc, _, _, rfl, rfl, hb, hc', (by show 17 + 12 ≤ sizeLine; decide), fun pd nd => ?_⟩
    have hd : upd H3 pd (.lst (bad1S.map V.str ++ bad2S.map V.str)) pd = some (.lst ((bad1S ++ bad2S).map V.str)) := by rw [List.map_append]; exact upd_same
    have s4 := same_upd (o := .lst (bad1S.map V.str ++ bad2S.map V.str)) nd
    have hg := s4 _ _ hg
    generalize upd H3 pd (.lst (bad1S.map V.str ++ bad2S.map V.str)) = H4 at *
    have S4 := ((s1.trans s2).trans s3).trans s4
    refine ⟨_, rfl, _, rfl, pg, pd, _, _, rfl, rfl, hg, hd, (by rw [List.length_map, List.length_map]; show 7 + 29 ≤ sizeLine; decide), fun pe ne => ?_⟩
    have he : upd H4 pe (.lst (goodS.map V.str ++ (bad1S ++ bad2S).map V.str)) pe = some (.lst ((goodS ++ (bad1S ++ bad2S)).map V.str)) := by rw [List.map_append]; exact upd_same
    have s5 := same_upd (o := .lst (goodS.map V.str ++ (bad1S ++ bad2S).map V.str)) ne
    have hg := s5 _ _ hg
    generalize upd H4 pe (.lst (goodS.map V.str ++ (bad1S ++ bad2S).map V.str)) = H5 at *
    have S5 := S4.trans s5
    refine ⟨pe, rfl, ⟨_, .inl (.inl he)⟩, fun D1 nD1 => ?_⟩
    refine lc_fn (xs := (goodS ++ (bad1S ++ bad2S)).map V.str) (fun _ => .bl true) nD1 (.inl (.inl he)) (by rw [List.length_map]; show 36 ≤ 100000; decide) (fun x hx H' R s' q => ?_) (fun H6 s6 h6 => ?_)
    · obtain ⟨z, hz, rfl⟩ := List.mem_map.mp hx
      exact ⟨_, rfl, _, rfl, lit_ok (List.all_eq_true.mp all_lit z hz), q⟩
    have h6' : H6 D1 = some (.lst (((goodS ++ (bad1S ++ bad2S)).map fun _ => true).map V.bl)) := by
      rw [h6, List.map_map, List.map_map]
      rfl
    refine ⟨D1, _, rfl, .inl (.inl h6'), _, rfl, ?_⟩
    rw [show (((goodS ++ (bad1S ++ bad2S)).map fun _ => true).all id) = true by decide +kernel]
    refine iteF ?_
    have hg := s6 _ _ hg
    have S6 := S5.trans s6
    refine ⟨_, rfl, pg, rfl, ⟨_, .inl (.inl hg)⟩, fun D2 nD2 => ?_⟩
    refine lc_fn (xs := goodS.map V.str) id nD2 (.inl (.inl hg)) (by rw [List.length_map]; show 7 ≤ 100000; decide) (fun x hx H' R s' q => ?_) (fun H7 s7 h7 => ?_)
    · obtain ⟨z, hz, rfl⟩ := List.mem_map.mp hx
      have hzz := List.all_eq_true.mp good_lit z hz
      rw [Bool.and_eq_true] at hzz
      obtain ⟨iT, lt⟩ := hzz
      unfold litOk at lt
      rw [Bool.and_eq_true, decide_eq_true_eq] at lt
      refine ⟨rfl, _, rfl, _, rfl, .inl ⟨z.cps.toList, by rw [S_tl], by omega, fun t b e _ st sb H8 p s8 n8 N => ?_, fun e => by rw [iT] at e; cases e⟩⟩
      obtain ⟨dx, hp⟩ := id N.at_
      refine ⟨p, dx, _, rfl, hp, p, t, b, rfl, N, st, sb, _, rfl, ?_⟩
      have q8 := q _ s8
      show R (.str (S (fL t b))) H8
      rw [← e, S_tl]
      exact q8
    rw [List.map_id] at h7
    have hg := s7 _ _ hg
    have S7 := S6.trans s7
    refine ⟨_, rfl, ?_⟩
    have sh : SeqAt.shaped (.list (goodS.map PyData.str)) = true := by decide +kernel
    refine ⟨_, _, dp_strs h7, dp_strs hg, sh, sh, _, rfl, ?_⟩
    rw [eqv_strs]
    refine iteF ?_
    -- the springs
    have hlen : ((ns.map V.int).length : Int) = (ns.length : Int) := by rw [List.length_map]
    refine ⟨_, rfl, a, _, rfl, .inl (S7.seq hS), _, _, rfl, _, _, rfl, _, rfl, ?_⟩
    rw [hlen]
    generalize hm : (if (if (6 : Int) < (ns.length : Int) then (6 : Int) else (ns.length : Int)) > 3 then (if (6 : Int) < (ns.length : Int) then (6 : Int) else (ns.length : Int)) else (3 : Int)) = m
    have hm2 : m ≤ 6 ∧ 0 ≤ m := by rw [← hm]; split <;> (try split) <;> omega
    refine ⟨by omega, by omega, ?_⟩
    refine for_range (lo := 0) (n := m.toNat) (fun i σ H' => Same H H' ∧ ∃ x3 x4 x5 x6 : Option V, σ = [some (.ref a), some (.ref pg), some (.ref pd), x3, x4, x5, x6]) ⟨S7, none, none, none, none, rfl⟩ ?_ ?_
    · rintro i σ H' hi ⟨s1, x3, x4, x5, x6, rfl⟩
      have e0 : (0 : Int) + (i : Int) = ((i : Nat) : Int) := by omega
      rw [e0]
      refine ⟨_, rfl, _, rfl, a, ns, i, rfl, s1.seq hS, hn, by omega, fun p d e c np sp => ?_⟩
      have sp0 : SprAt p (upd H' p (.lst (sprL d e c))) := ⟨d, e, c, upd_same, sp⟩
      have so : Same H' (upd H' p (.lst (sprL d e c))) := same_upd np
      generalize upd H' p (HO.lst (sprL d e c)) = H2 at *
      refine ⟨3, rfl, by decide, by decide, fun D nD => ?_⟩
      refine lc_range (lo := 0) (n := 3) (fun j H3 => Old p H2 H3 ∧ SprAt p H3 ∧ H3 D = some (.lst (List.replicate j (.bl true)))) ⟨Old.new nD, sp0.same (same_upd nD), upd_same⟩ ?_ ?_
      · rintro j H3 hj ⟨o3, s3, hD⟩
        have pD : p ≠ D := sp0.ne nD
        refine ⟨rfl, ?_⟩
        unfold tYes
        dsimp only
        rw [if_pos rfl]
        refine ⟨_, rfl, p, rfl, s3, fun H4 o4 s4 => ⟨_, o4 _ _ hD (Ne.symm pD), ?_, ?_, ?_, ?_⟩⟩
        · rw [List.length_replicate]
          exact Nat.lt_of_lt_of_le (show j < 1000 by omega) (by decide)
        · intro b u hb hn
          rw [upd_ne (ne_of_none hb nD)]
          exact o4 _ _ (o3 _ _ hb hn) hn
        · obtain ⟨d', e', c', g1, g2⟩ := s4
          exact ⟨d', e', c', by rw [upd_ne pD]; exact g1, g2⟩
        · rw [upd_same, List.replicate_succ']
      · rintro H3 ⟨o3, s3, hD⟩
        refine ⟨D, [true, true, true], rfl, .inl (.inl hD), true, rfl, iteF ?_⟩
        refine ⟨fun b u hb => ?_, _, _, _, _, rfl⟩
        have hb2 := s1 _ _ hb
        exact o3 _ _ (so _ _ hb2) (ne_of_none hb2 np)
    · rintro σ H' ⟨_, x3, x4, x5, x6, rfl⟩
      exact k H'
end
theorem facts {P : Program} {w : World} {K : Fr} {h : Heap} {mg : Str → Option Value} {f : Addr} (X : K.In h) (G : h.Ns mainGlobals mg) (hfa : mg ("law" : Str) = some (.ref f)) (c : Sy K) :
    ∃ fd : FuncData, (∀ (s : Shared) (u : Value), BindsTo s fd ⟨[u], []⟩ [("_law_script", u)]) ∧ ∀ base : Heap, K.In base → base.Ns mainGlobals mg → FnG P w K mg base 9 f fd ["_law_script"] (spLaw K) := by
  have T : Tx K mg := ⟨c, h, X, G⟩
  obtain ⟨fd, D⟩ := a_law c
  have e := hfa.symm.trans (g_law T)
  cases e
  have b := FunD.bindsA (ps := ["_law_script"]) D fun _ _ _ _ _ _ us hl => match us, hl with | [_], _ => rfl
  exact ⟨fd, fun s u => b s [u] rfl, fun base _ _ => g_law_ok T D⟩
end K03

namespace K03
open PySem PySem.Spec PyProof.Rows L2 Hk
theorem run (w : World) : HeadRun.RunEqI R qv hk ob 4500 loose w := by
  unfold HeadRun.RunEqI
  kernel_rfl
end K03

open PySem PySem.W PySem.Calls PyProof.Rows
theorem PySem.Challenge.cw_delaynets_k03_whole_number_texts_holds : PySem.Challenge.rw_delaynets_k03_whole_number_texts.Holds := by
  w_on; o_law
  refine HeadRun.head_imp (r := OpenLaw.row PySem.Challenge.rw_delaynets_k03_whole_number_texts) (q := K03.qv) (H := K03.hk) (ob := K03.ob) (M := 4500) (loose := K03.loose) (d := HandSHeadRun.topDef (OpenLaw.row PySem.Challenge.rw_delaynets_k03_whole_number_texts).prog K03.lawAt) (kwd := []) K03.ob_eq
    K03.run (by kernel_rfl) (by kernel_rfl) (by kernel_rfl) (by rfl) (by first | assumption | decide +kernel) (by decide +kernel) ⟨rfl, rfl, rfl, rfl, rfl, by decide +kernel⟩ ?hw ?hc
  case hw => w_witness2
  case hc =>
    refine Hk.end_g (l := PySem.Challenge.rw_delaynets_k03_whole_number_texts) (k := 9) (x := "_law_script") rfl (by kernel_rfl) ⟨rfl, by decide, by decide⟩ ?F
    intro w mg fa h Y G hmg0
    obtain ⟨K, KX, c⟩ := Y
    have hmg : mg ("law" : PySem.Str) = some (.ref fa) := by
      have e : (HandSHeadRun.topDef (OpenLaw.row PySem.Challenge.rw_delaynets_k03_whole_number_texts).prog K03.lawAt).name = ("law" : PySem.Str) := by kernel_rfl
      rw [← e]
      exact hmg0
    obtain ⟨fd, hb, hF⟩ := K03.facts (P := (PySem.Challenge.rw_delaynets_k03_whole_number_texts).prog) (w := w) KX G hmg c
    exact ⟨K, fd, K03.spLaw K, KX, hb, fun H a ns hl _ hS => ⟨a, ns, rfl, hS, hl, fun _ => rfl⟩, hF⟩
#print axioms PySem.Challenge.cw_delaynets_k03_whole_number_texts_holds

