import PyProof.Rows.All
import Wide.All
import OpenK.AllK
import Wide.FinOn
import KE.KStateDown
import HandS.ForExc
import HandS.More
import HandS.Defaults
import HandS.Head0
import KE.HD3
import HandS.Head1
import HandS.Head2
import HandS.HeadEnd
import HandS.HeadHook1
import HandS.HeadHook2
import HandS.HeadWalk
import HandS.HeadNt
import HandS.Property
import HandS.Gcd
import HandS.Wide
import HandS.MakeKw
import HandS.Comp
import HandS.Text
import HandS.FStr
import HandS.StrMore
import HandS.Flow
import HandS.IsInst
import HandS.EndBits
import HandS.RaiseMore
import HandS.SlotsOwn
import HandS.OwnEq
import HandS.ClsMeth
import HandS.CallRecv
import HandS.MakeKwOnly
import HandS.TupLe
import KE.KCallOwn
import HandS.Codes
import KE.IntTextLaws
import PyProof.Rows.ReprOcc
import HandS.NoneIn
import PyProof.Rows.SortStrRead
import PySem.Challenge.RW_delaynets_k01_numbers_made
set_option Elab.async false
set_option linter.all false
set_option maxRecDepth 100000
set_option maxHeartbeats 0
/-! A head's facts by names: every fact a test of the written part, every def by its own path. -/
namespace Hk
open PySem PySem.Spec PyProof.Rows L2
abbrev Fr := PySem.W.Frag
abbrev Tst := Fr → Bool
/-- a def of the text: the path to its function object, its text, its defaults -/
structure Dx where
  ad : Fr → Addr
  nm : Str
  ql : Str
  st : Stmt
  df : List He.Dv := []
abbrev Seen : Type := Option (Str × Str × Arguments × FuncBody × Scope × Addr × List (Str × Addr) × Addr)
def seenAt (K : Fr) (a : Addr) : Seen :=
  match K.lookup a with
  | some ⟨_, _, .func g, _⟩ => some (g.name, g.qualname, g.params, g.body, g.scope, g.globals, g.closure, g.builtins)
  | _ => none
def Dx.due (d : Dx) : Seen := some (d.nm, d.ql, defArgs d.st, .stmts (defBody d.st), defScope d.st, mainGlobals, [], builtinsNs)
def Dx.vs (K : Fr) (d : Dx) : List V := d.df.map (He.Dv.v K)
def Dx.okb (K : Fr) (d : Dx) : Bool :=
  PySem.W.keepIn K (.ref (d.ad K)) &&
    (match K.lookup (d.ad K) with
    | some ⟨_, _, .func g, _⟩ => PySem.W.codeIn K g.code d.ql && He.dflB K g.defaults (d.vs K)
    | _ => false)
/-- the def d stands at its address as fd -/
abbrev DAt (K : Fr) (d : Dx) (fd : FuncData) : Prop := FunD K d.nm d.ql (defArgs d.st) (defBody d.st) (defScope d.st) (d.vs K) [] (d.ad K) fd
theorem Dx.at_of {K : Fr} {d : Dx} (e : seenAt K (d.ad K) = d.due) (c : d.okb K = true) : ∃ fd, DAt K d fd := by
  obtain ⟨kp, c2⟩ := He.ba c
  unfold seenAt at e
  cases q : K.lookup (d.ad K) with
  | none =>
    rw [q] at c2
    exact nomatch c2
  | some ob =>
    obtain ⟨oc, od, dt, osl⟩ := ob
    rw [q] at c2 e
    cases dt with
    | func g =>
      obtain ⟨m1, m2, m3, m4, m5, m6, m7, m8, m9, m10, m11, m12, m13, m14, m15⟩ := g
      have e2 : (some (m1, m2, m3, m4, m5, m6, m7, m15) : Seen) = some (d.nm, d.ql, defArgs d.st, .stmts (defBody d.st), defScope d.st, mainGlobals, [], builtinsNs) := e
      simp only [Option.some.injEq, Prod.mk.injEq] at e2
      obtain ⟨u1, u2, u3, u4, u5, u6, u7, u8⟩ := e2
      subst u1 u2 u3 u4 u5 u6 u7 u8
      obtain ⟨v1, v2⟩ := He.ba (show (PySem.W.codeIn K m13 d.ql && He.dflB K m8 (d.vs K)) = true from c2)
      exact ⟨_, ⟨oc, od, m8, m9, m10, m11, m12, m13, m14, osl, rfl, q, v1, He.dflB_ok v2, .inl rfl⟩, kp⟩
    | _ => exact nomatch c2
abbrev Al2 : Type := Bool × List Seen
def look (fa : List Tst) (fn : List Dx) (K : Fr) : Al2 := ((fa.all fun f => f K) && fn.all fun d => d.okb K, fn.map fun d => seenAt K (d.ad K))
def due (fn : List Dx) : Al2 := (true, fn.map Dx.due)
def Says (fa : List Tst) (fn : List Dx) (K : Fr) : Prop := look fa fn K = due fn
def lookG (n : Nat) (fa : List Tst) (fn : List Dx) (g : Addr → Option Obj) : Al2 := look fa fn (He.frG g (cStatics :: He.asD g n))
def hook (n : Nat) (fa : List Tst) (fn : List Dx) : PySem.W.Hook where
  α := Al2
  obs := fun s => lookG n fa fn s.heap.get?
  val := fun _ => due fn
  says := fun _ h => ∃ K : Fr, K.In h ∧ Says fa fn K
  of := fun _ _ e => ⟨_, He.frG_in, e⟩
  keeps := fun _ _ _ ⟨K, hK, c⟩ k => ⟨K, PySem.W.Frag.In.keeps hK k, c⟩
theorem lookG_eq {n : Nat} {fa : List Tst} {fn : List Dx} {g : Addr → Option Obj} {s : Shared} (h : ∀ a, g a = s.heap.get? a) : lookG n fa fn g = (hook n fa fn).obs s := by
  have e : g = s.heap.get? := funext h
  subst e
  rfl
section
variable {fa : List Tst} {fn : List Dx} {K : Fr}
theorem Says.tst (c : Says fa fn K) (i : Nat) {f : Tst} (h : fa[i]? = some f := by rfl) : f K = true := by
  have c0 := congrArg Prod.fst c
  have c1 := (He.ba (show ((fa.all fun f => f K) && fn.all fun d => d.okb K) = true from c0)).1
  exact List.all_eq_true.mp c1 f (List.mem_of_getElem? h)
theorem Says.dat (c : Says fa fn K) (i : Nat) {d : Dx} (h : fn[i]? = some d := by rfl) : ∃ fd, DAt K d fd := by
  have c0 := congrArg Prod.fst c
  have c2 := (He.ba (show ((fa.all fun f => f K) && fn.all fun d => d.okb K) = true from c0)).2
  have e : (fn.map fun d => seenAt K (d.ad K)) = fn.map Dx.due := congrArg Prod.snd c
  have e2 : (fn.map fun d => seenAt K (d.ad K))[i]? = (fn.map Dx.due)[i]? := by rw [e]
  rw [List.getElem?_map, List.getElem?_map, h] at e2
  exact Dx.at_of (Option.some.inj e2) (List.all_eq_true.mp c2 d (List.mem_of_getElem? h))
end
/-! ### tests -/
def tGlo (x : Str) : Tst := (He.Fa.glo x).ok
def tFree (x : Str) : Tst := (He.Fa.free x).ok
def tInt (x : Str) (i : Int) : Tst := (He.Fa.int x i).ok
def tStr (x z : Str) : Tst := (He.Fa.str x z).ok
def tCls (x : Str) : Tst := (He.Fa.cls x).ok
def tNoat (x f : Str) : Tst := (He.Fa.noat x f).ok
def tMeth (x m : Str) : Tst := (He.Fa.meth x m).ok
def tMkr (x : Str) : Tst := (He.Fa.mkr x).ok
/-- the name is a built-in function (brought in from a module) -/
def tBlt (x : Str) (id : String) : Tst := fun K => He.eqO (PySem.W.nsIn K mainGlobals x) (some (some (.builtin id)))
/-- the getter of the property f of the class x -/
def getAd (x f : Str) (K : Fr) : Addr := match PySem.W.recIn K (He.ma K (He.ga K x) f) "property" with
  | some (.ref g :: _) => g
  | _ => 0
def tProp (x f : Str) : Tst := fun K =>
  He.eqO (PySem.W.findIn K (.ref (He.ga K x)) f) (some (some (.ref (He.ma K (He.ga K x) f)))) &&
  (He.eqO (PySem.W.specialIn K (.ref (He.ma K (He.ga K x) f)) "__get__") (some (some (.builtin "property.__get__"))) &&
  (decide (PySem.W.takesIn K (.ref (He.ma K (He.ga K x) f)) = some true) &&
  (match PySem.W.recIn K (He.ma K (He.ga K x) f) "property" with
  | some (.ref _ :: _) => true
  | _ => false)))
theorem prop_ok {K : Fr} {x f : Str} (c : tProp x f K = true) : PropOf K (He.ga K x) f (He.ma K (He.ga K x) f) (getAd x f K) := by
  obtain ⟨c1, c⟩ := He.ba c
  obtain ⟨c2, c⟩ := He.ba c
  obtain ⟨c3, c4⟩ := He.ba c
  refine ⟨He.eqO_ok c1, He.eqO_ok c2, of_decide_eq_true c3, ?_⟩
  unfold getAd
  cases e : PySem.W.recIn K (He.ma K (He.ga K x) f) "property" with
  | none =>
    rw [e] at c4
    exact nomatch c4
  | some l =>
    rw [e] at c4
    cases l with
    | nil => exact nomatch c4
    | cons v r =>
      cases v with
      | ref g => exact ⟨r, rfl⟩
      | _ => exact nomatch c4
theorem blt_ok {K : Fr} {h : Heap} {mg : Str → Option Value} (X : K.In h) (G : h.Ns mainGlobals mg) {x : Str} {id : String} (c : tBlt x id K = true) : mg x = some (.builtin id) := PySem.W.mg_of X G (He.eqO_ok c)
/-- where a global def stands; a class's method -/
def gAd (x : Str) (K : Fr) : Addr := He.ga K x
def mAd (x m : Str) (K : Fr) : Addr := He.ma K (He.ga K x) m
end Hk
namespace Hk
open PySem PySem.Spec PyProof.Rows L2
/-- the function inside the static method m of the class x -/
def statAd (x m : Str) (K : Fr) : Addr := He5.wf K (He.ga K x) "staticmethod" m
def tStat (x m : Str) : Tst := fun K => He5.wrapB K (He.ga K x) "staticmethod" "staticmethod.__get__" m &&
  (PySem.W.readsIn K (He.ga K x) (.type "type") && (He.eqO (PySem.W.specialIn K (.ref (He.ga K x)) "__getattribute__") (some (some (.builtin "type.__getattribute__"))) && PySem.W.keepIn K (.ref (statAd x m K))))
/-- == is the class's own, != object's -/
def tNe (x : Str) : Tst := fun K => He.eqO (PySem.W.findIn K (.ref (He.ga K x)) "__ne__") (some (some (.builtin "object.__ne__"))) && decide (PySem.W.subIn K (.ref (He.ga K x)) (.type "object") = some true)
/-- what isinstance asks of an instance of the class x -/
def tIns (x : Str) : Tst := fun K => He.eqO (PySem.W.findIn K (.ref (He.ga K x)) "__class__") (some (some (.builtin "object.__class__"))) &&
  (He.eqO (PySem.W.specialIn K (.builtin "object.__class__") "__get__") (some (some (.builtin "getset_descriptor.__get__"))) && (decide (PySem.W.takesIn K (.builtin "object.__class__") = some true) && decide (PySem.W.mroIn K (He.ga K x) (.type "object") = some true)))
/-- isinstance of the built-in type t against the class x; of the class y against x -/
def tKit (t : String) (x : Str) (b : Bool) : Tst := fun K => decide (PySem.W.kitOne K (.type t) (.ref (He.ga K x)) = some b)
def tKitO (y x : Str) (b : Bool) : Tst := fun K => decide (PySem.W.kitOne K (.ref (He.ga K y)) (.ref (He.ga K x)) = some b)
def tKitB (y : Str) (t : String) (b : Bool) : Tst := fun K => decide (PySem.W.kitOne K (.ref (He.ga K y)) (.type t) = some b)
/-- a comparison of an instance of x with a value of the type t begins with the instance -/
def tFst (x : Str) (t : String) : Tst := fun K => PySem.W.notFirst K (He.ga K x) (.type t)
def tFstO (x : Str) : Tst := fun K => PySem.W.notFirst K (He.ga K x) (.ref (He.ga K x))
theorem ins_ok {K : Fr} {x : Str} (c : tIns x K = true) {H : Hp} {a dx : Addr} {fs : List (Str × V)} (e : H a = some (.ins (He.ga K x) dx fs)) (cl : Cls K (He.ga K x)) : TyOf K H (.ref a) (.ref (He.ga K x)) := by
  obtain ⟨c1, c⟩ := He.ba c
  obtain ⟨c2, c⟩ := He.ba c
  obtain ⟨c3, c4⟩ := He.ba c
  exact .ins e cl (He.eqO_ok c1) (He.eqO_ok c2) (of_decide_eq_true c3) (of_decide_eq_true c4)
def clsMk (x : Str) : Tst := fun K => tCls x K && tMkr x K
end Hk
namespace Hk
open PySem PySem.Spec PyProof.Rows L2
section
variable {P : Program} {w : World} {K : Fr} {mg : Str → Option Value} {base : Heap}
/-- the global name x stands for a def at ad that keeps the promise sp (nothing is raised), at level k -/
def Cal (P : Program) (w : World) (K : Fr) (mg : Str → Option Value) (base : Heap) (k : Nat) (x : Str) (ad : Addr) (ps : List Str) (sp : Sp) : Prop :=
  ∃ fd : FuncData, FnOk P w K mg base CX0 k ad fd ps sp ∧ Binds K fd ps [] ∧ PySem.W.keepIn K (.ref ad) = true ∧ mg x = some (.ref ad)
theorem Cal.mono {j k : Nat} {x : Str} {ad : Addr} {ps : List Str} {sp : Sp} (c : Cal P w K mg base j x ad ps sp) (h : j ≤ k) : Cal P w K mg base k x ad ps sp := by
  obtain ⟨fd, F, r⟩ := c
  exact ⟨fd, F.mono h, r⟩
theorem Cal.imp {k : Nat} {x : Str} {ad : Addr} {ps : List Str} {sp sp' : Sp} (c : Cal P w K mg base k x ad ps sp) (h : ∀ vs H Q E, sp' vs H Q E → sp vs H Q E) : Cal P w K mg base k x ad ps sp' := by
  obtain ⟨fd, F, r⟩ := c
  exact ⟨fd, F.imp h, r⟩
theorem pe_c {X : Cx} {k : Nat} {x : Str} {ad : Addr} {ps : List Str} {sp : Sp} {e : Expr} {es : List Expr} {t : TA} {p pos : Pos} (c : Cal X.prog X.w X.K X.mg X.base k x ad ps sp) (hr : Room k X.A) (ha : PA X (e :: es) t) (hg : Gl X x := by rfl)
    (hdb : (x == ("__debug__" : Str)) = false := by decide) (he : starEach (e :: es) X.env = (false, eval e X.env) :: starEach es X.env := by rfl) (hpl : (backTo pos (starEach es X.env)).any (·.1) = false := by rfl) :
    PE X (.Call (.Name x p) (e :: es) [] pos) (tCall sp [] E0 t) := by
  obtain ⟨fd, F, b, kp, m⟩ := c
  exact pe_call F hr hg m kp b .nil pass0 ha hdb he hpl
/-- the body of a def: its reading -/
abbrev Body (P : Program) (w : World) (K : Fr) (mg : Str → Option Value) (base : Heap) (k : Nat) (d : Dx) (N ps : List Str) (sp : Sp) : Prop :=
  ∀ (cdv : Value) (A : Around) (outer : List Env) (s : Shared) (H : Hp) (vs : List V) (Q : VK) (E : XK), Room k (A.deeper (envOfC d.ql (defScope d.st) s.heap.objs.size (d.ad K) cdv)) → sp vs H Q E →
      ∃ t, PSs (cxOf CX0 P w K mg base N d.ql (defScope d.st) (d.ad K) cdv A outer s H E).nox (defBody d.st) t ∧ t { nx := fun _ H' => Q .non H', rt := Q } (start N vs) H
theorem ok_of {k : Nat} {d : Dx} {N ps : List Str} {sp : Sp} {fd : FuncData} (D : DAt K d fd) (S : FnScope N ps (defScope d.st)) (len : ∀ vs H Q E, sp vs H Q E → vs.length = ps.length) (hb : Body P w K mg base k d N ps sp) :
    FnOk P w K mg base CX0 (k + 1) (d.ad K) fd ps sp := by
  refine FunD.ok D S len fun cdv A outer s H vs Q E hr h => ?_
  obtain ⟨t, h1, h2⟩ := hb cdv A outer s H vs Q E hr h
  exact ⟨t, h1.nox, h2⟩
theorem cal_of {k : Nat} {d : Dx} {N ps : List Str} {sp : Sp} {x : Str} (D : ∃ fd, DAt K d fd) (hv : d.df = []) (S : FnScope N ps (defScope d.st)) (hm : mg x = some (.ref (d.ad K)))
    (hbi : ∀ (kV doc pm : Value) (an : Option Addr) (cdv ct : Value) (us : List Value), us.length = ps.length → bindArgs (PySem.W.fnOf d.nm d.ql (defArgs d.st) (defBody d.st) (defScope d.st) .none kV doc pm an cdv ct) ⟨us, []⟩ = pure (ps.zip us))
    (len : ∀ vs H Q E, sp vs H Q E → vs.length = ps.length) (hb : Body P w K mg base k d N ps sp) : Cal P w K mg base (k + 1) x (d.ad K) ps sp := by
  obtain ⟨fd, D⟩ := D
  have e : d.vs K = [] := by
    unfold Dx.vs
    rw [hv]
    rfl
  have D' : FunD K d.nm d.ql (defArgs d.st) (defBody d.st) (defScope d.st) [] [] (d.ad K) fd := by
    rw [← e]
    exact D
  exact ⟨fd, ok_of D S len hb, FunD.bindsN D' hbi, D.kp, hm⟩
end
end Hk
namespace Hk
open PySem PySem.Spec PyProof.Rows L2
theorem bo_int : bootBuiltins "int" = some (.type "int") := by decide +kernel
theorem bo_str : bootBuiltins "str" = some (.type "str") := by decide +kernel
theorem bo_len : bootBuiltins "len" = some (.builtin "len") := by decide +kernel
theorem bo_min : bootBuiltins "min" = some (.builtin "min") := by decide +kernel
theorem bo_max : bootBuiltins "max" = some (.builtin "max") := by decide +kernel
theorem bo_abs : bootBuiltins "abs" = some (.builtin "abs") := by decide +kernel
theorem bo_repr : bootBuiltins "repr" = some (.builtin "repr") := by decide +kernel
theorem bo_isinstance : bootBuiltins "isinstance" = some (.builtin "isinstance") := by decide +kernel
theorem bo_all : bootBuiltins "all" = some (.builtin "all") := by decide +kernel
theorem bo_any : bootBuiltins "any" = some (.builtin "any") := by decide +kernel
theorem bo_range : bootBuiltins "range" = some (.type "range") := by decide +kernel
theorem bo_bool : bootBuiltins "bool" = some (.type "bool") := by decide +kernel
end Hk

/-! Defs below which nothing is being shown (no repr runs around them): so repr of made data has its rule. -/
namespace Hk
open PySem PySem.Spec PyProof.Rows L2
abbrev Calm (A : Around) : Prop := A.guards = some []
/-- a def's promise where no repr runs around the call; nothing is raised -/
structure FnG (P : Program) (w : World) (K : Fr) (mg : Str → Option Value) (base : Heap) (k : Nat) (f : Addr) (fd : FuncData) (ps : List Str) (sp : Sp) : Prop where
  len : ∀ vs H Q E, sp vs H Q E → vs.length = ps.length
  run : ∀ (A : Around) (out : List Env) (s : Shared) (H : Hp) (args : Args) (us : List Value) (vs : List V) (Q : VK), Room k A → Calm A → Env0 P w K mg base A out s H → BindsTo s fd args (ps.zip us) → Vals vs us → sp vs H Q E0 →
    codeAny (model P w) A (.call (.ref f) args) (CR CX0 out P w H s Q E0) s
section
variable {P : Program} {w : World} {K : Fr} {mg : Str → Option Value} {base : Heap}
theorem FnG.mono {j k : Nat} {f : Addr} {fd : FuncData} {ps : List Str} {sp : Sp} (F : FnG P w K mg base j f fd ps sp) (h : j ≤ k) : FnG P w K mg base k f fd ps sp :=
  ⟨F.len, fun A out s H args us vs Q r => F.run A out s H args us vs Q (r.mono h)⟩
theorem FnG.of {k : Nat} {f : Addr} {fd : FuncData} {ps : List Str} {sp : Sp} (F : FnOk P w K mg base CX0 k f fd ps sp) : FnG P w K mg base k f fd ps sp :=
  ⟨F.len, fun A out s H args us vs Q r _ e b v h => F.run A out s H args us vs Q E0 r e b v h⟩
theorem FnG.imp {k : Nat} {f : Addr} {fd : FuncData} {ps : List Str} {sp sp' : Sp} (F : FnG P w K mg base k f fd ps sp) (h : ∀ vs H Q E, sp' vs H Q E → sp vs H Q E) : FnG P w K mg base k f fd ps sp' :=
  ⟨fun vs H Q E q => F.len vs H Q E (h _ _ _ _ q), fun A out s H args us vs Q r g e b v q => F.run A out s H args us vs Q r g e b v (h _ _ _ _ q)⟩
/-- such a def is called from a body -/
theorem call_g {X : Cx} {pins : List (Addr × Obj)} {σ : L2.St} {H : Hp} {s : Shared} {Q : VK} {us : List Value} {vs : List V} {k : Nat} {f : Addr} {fd : FuncData} {ps : List Str} {sp : Sp} (F : FnG X.prog X.w X.K X.mg X.base k f fd ps sp)
    (hr : Room k X.A) (hc : Calm X.A) (hb : Binds X.K fd ps []) (I : Inv X pins σ H s) (r : Vals vs us) (h : sp vs H Q E0) : wpAny (model X.prog X.w) X.A (call (.ref f) us) (EP X pins σ Q) X.xe s := by
  have ln : us.length = ps.length := r.length.symm.trans (F.len _ _ _ _ h)
  have bd : BindsTo s fd ⟨us, []⟩ (ps.zip us) := by
    have := hb s us I.kIn (by rw [List.append_nil]; exact ln)
    rwa [List.append_nil] at this
  refine wpAny_call (codeAny_mono (F.run X.A X.stack s H ⟨us, []⟩ us vs Q hr hc I.env0 bd r h) fun z s' hq => ?_)
  rcases z with e | fl
  · exact (show False from hq).elim
  · cases fl with
    | ret u => exact I.after hq
    | _ => exact (show False from hq).elim
/-- the global name x: a def at ad that keeps sp -/
def CalG (P : Program) (w : World) (K : Fr) (mg : Str → Option Value) (base : Heap) (k : Nat) (x : Str) (ad : Addr) (ps : List Str) (sp : Sp) : Prop :=
  ∃ fd : FuncData, FnG P w K mg base k ad fd ps sp ∧ Binds K fd ps [] ∧ PySem.W.keepIn K (.ref ad) = true ∧ mg x = some (.ref ad)
theorem Cal.g {k : Nat} {x : Str} {ad : Addr} {ps : List Str} {sp : Sp} (c : Cal P w K mg base k x ad ps sp) : CalG P w K mg base k x ad ps sp := by
  obtain ⟨fd, F, r⟩ := c
  exact ⟨fd, .of F, r⟩
theorem CalG.mono {j k : Nat} {x : Str} {ad : Addr} {ps : List Str} {sp : Sp} (c : CalG P w K mg base j x ad ps sp) (h : j ≤ k) : CalG P w K mg base k x ad ps sp := by
  obtain ⟨fd, F, r⟩ := c
  exact ⟨fd, F.mono h, r⟩
/-- its reading -/
def tG (sp : Sp) (t : TA) : TE := fun σ H Q => t σ H fun vs H1 => sp vs H1 Q E0
theorem pe_g {X : Cx} {k : Nat} {x : Str} {ad : Addr} {ps : List Str} {sp : Sp} {e : Expr} {es : List Expr} {t : TA} {p pos : Pos} (c : CalG X.prog X.w X.K X.mg X.base k x ad ps sp) (hr : Room k X.A) (hc : Calm X.A) (ha : PA X (e :: es) t) (hg : Gl X x := by rfl)
    (hdb : (x == ("__debug__" : Str)) = false := by decide) (he : starEach (e :: es) X.env = (false, eval e X.env) :: starEach es X.env := by rfl) (hpl : (backTo pos (starEach es X.env)).any (·.1) = false := by rfl) :
    PE X (.Call (.Name x p) (e :: es) [] pos) (tG sp t) := by
  obtain ⟨fd, F, b, kp, m⟩ := c
  refine ⟨fun pins s σ H Q I h => wpAny_Call_Name_kw (ld_glob I hg m ?_ hdb)⟩
  refine PySem.W.callWith_K (h₀ := X.base) I.ok.mod.kin kp (thn (ha.run pos pins s σ H _ I h) fun us s1 ⟨vs, H1, J, r, q⟩ => ⟨J.kIn, ?_⟩) he hpl
  exact call_g F hr hc b J r q
abbrev BodyG (P : Program) (w : World) (K : Fr) (mg : Str → Option Value) (base : Heap) (k : Nat) (d : Dx) (N ps : List Str) (sp : Sp) : Prop :=
  ∀ (cdv : Value) (A : Around) (outer : List Env) (s : Shared) (H : Hp) (vs : List V) (Q : VK) (E : XK), Room k (A.deeper (envOfC d.ql (defScope d.st) s.heap.objs.size (d.ad K) cdv)) → Calm A → sp vs H Q E →
      ∃ t, PSs (cxOf CX0 P w K mg base N d.ql (defScope d.st) (d.ad K) cdv A outer s H E).nox (defBody d.st) t ∧ t { nx := fun _ H' => Q .non H', rt := Q } (start N vs) H
/-- such a def, by its body -/
theorem okg_of {k : Nat} {d : Dx} {N ps : List Str} {sp : Sp} {fd : FuncData} (D : DAt K d fd) (S : FnScope N ps (defScope d.st)) (len : ∀ vs H Q E, sp vs H Q E → vs.length = ps.length) (hb : BodyG P w K mg base k d N ps sp) :
    FnG P w K mg base (k + 1) (d.ad K) fd ps sp := by
  obtain ⟨oc, od, dV, kV, doc, pm, an, cdv, ct, osl, rfl, lk, hcd, _, _⟩ := D.ex
  refine ⟨len, fun A out s H args us vs Q hr hc e0 hbd r hsp => ?_⟩
  have old : ∀ b o, base.get? b = some o → s.heap.get? b = some o := fun b o z => (e0.bs b o z).1
  have KX : K.In s.heap := e0.mod.kin.keeps old
  have kd : ∀ y ∈ ps.zip us, (defScope d.st).names.lookup y.1 = some .local ∨ ((defScope d.st).names.lookup y.1 = some .cell ∧ ((cellsFrom (s.heap.objs.size + 1) (defScope d.st).names []).lookup y.1).isSome = true) := by
    rintro ⟨n, v⟩ hy
    have q := S.par n (List.of_mem_zip hy).1
    exact q.imp id fun q => ⟨q, PySem.W.cellsFrom_some _ _ _ (.inl q)⟩
  refine codeAny_call_function hr.depth (KX _ _ lk) rfl S.co S.gen rfl (PySem.W.codeRec_of KX hcd) (hbd _ _ _ _ ?_)
  refine wpAny_newFunctionEnv_cells S.kind kd fun env he s1 x => ?_
  subst he
  refine ⟨(e0.mod.nolimit.keeps old).keeps x.toInCall.keep, codeAny_func ?_⟩
  obtain ⟨t, ht, hq⟩ := hb cdv A out s H vs Q E0 (hr.deeper _) hc hsp
  have I : Inv (cxOf CX0 P w K mg base N d.ql (defScope d.st) (d.ad K) cdv A out s H E0) [] (start N vs) H s1 := inv_start S hr.hd e0 (len _ _ _ _ hsp) r x
  refine wpAny_mono (ht.nox.run [] s1 (start N vs) H _ I hq) (fun fl s' hs => ?_) fun e s' hs => hs
  cases fl with
  | next =>
    obtain ⟨σ', H', J, q⟩ := hs
    exact ⟨V.non, H', J.os, J.bare, J.base, J.hok, rfl, q⟩
  | ret u =>
    obtain ⟨v, σ', H', J, rv, q⟩ := hs
    exact ⟨v, H', J.os, J.bare, J.base, J.hok, rv, q⟩
  | brk =>
    obtain ⟨σ', H', J, q⟩ := hs
    exact False.elim q
  | cont =>
    obtain ⟨σ', H', J, q⟩ := hs
    exact False.elim q
theorem calg_of {k : Nat} {d : Dx} {N ps : List Str} {sp : Sp} {x : Str} (D : ∃ fd, DAt K d fd) (hv : d.df = []) (S : FnScope N ps (defScope d.st)) (hm : mg x = some (.ref (d.ad K)))
    (hbi : ∀ (kV doc pm : Value) (an : Option Addr) (cdv ct : Value) (us : List Value), us.length = ps.length → bindArgs (PySem.W.fnOf d.nm d.ql (defArgs d.st) (defBody d.st) (defScope d.st) .none kV doc pm an cdv ct) ⟨us, []⟩ = pure (ps.zip us))
    (len : ∀ vs H Q E, sp vs H Q E → vs.length = ps.length) (hb : BodyG P w K mg base k d N ps sp) : CalG P w K mg base (k + 1) x (d.ad K) ps sp := by
  obtain ⟨fd, D⟩ := D
  have e : d.vs K = [] := by
    unfold Dx.vs
    rw [hv]
    rfl
  have D' : FunD K d.nm d.ql (defArgs d.st) (defBody d.st) (defScope d.st) [] [] (d.ad K) fd := by
    rw [← e]
    exact D
  exact ⟨fd, okg_of D S len hb, FunD.bindsN D' hbi, D.kp, hm⟩
/-- the law's own end: such a def is called with the script -/
theorem end_g {l : PySem.W.OpenLaw} {q : Program} {loose : List Str} {XP : (Str → Option Value) → Heap → Prop} {YP : World → Heap → Prop} {d : DefRec} {k : Nat} {x : Str} (hn : l.most = some 63) (hdf : d.params.defaults = []) (hr : Room k callerA)
    (F : ∀ (w : World) (mg : Str → Option Value) (fa : Addr) (h : Heap), YP w h → h.Ns mainGlobals mg → mg d.name = some (.ref fa) →
      ∃ (K : Fr) (fd : FuncData) (sp : Sp), K.In h ∧ (∀ (s : Shared) (u : Value), BindsTo s fd ⟨[u], []⟩ [(x, u)]) ∧
        (∀ (H : Hp) (a : Addr) (ns : List Int), ns.length ≤ 63 → (∀ n ∈ ns, Builtin.Int.intBits n ≤ 1048576) → SqL K H a (ns.map V.int) → sp [.ref a] H (fun v _ => v = .bl true) E0) ∧
        ∀ base : Heap, K.In base → base.Ns mainGlobals mg → FnG l.prog w K mg base k fa fd [x] sp) :
    PySem.W.WalkO q loose XP YP l.row.toRowW d [] (fun f vs => PySem.call f vs) := by
  refine Att.attach_callB hn hdf fun w s₀ s₁ mg mb fa o pm cd doc a vs ns G Y ho hd hcd hmg hobj hints hlen hbits hg => ?_
  obtain ⟨K, fd, sp, KX, hbi, hsp, hF⟩ := F w mg fa _ Y G.T.g hmg
  have rv := vals_ints hints
  have sz : vs.length ≤ sizeLine := by
    have := hints.length
    have e : 63 ≤ sizeLine := by decide
    omega
  have szn : (ns.map V.int).length ≤ sizeLine := by
    rw [rv.length]
    exact sz
  -- an abstract heap in which the script alone may be tracked
  obtain ⟨H, hO, hS, hok, hA, hK⟩ : ∃ H : Hp, Only H ∧ SqL K H a (ns.map V.int) ∧ HOk l.prog w H s₁.heap ∧ (∀ b, H b ≠ none → b = a) ∧ (H a ≠ none → K.lookup a = none) := by
    cases hk : K.lookup a with
    | some ob =>
      have e := KX a ob hk
      rw [hobj] at e
      cases e
      refine ⟨fun _ => none, fun _ => .inl rfl, .inr ⟨_, vs.toArray, _, hk, rfl, rfl, rfl, ?_, ?_⟩, fun b u z => (nomatch z), fun b z => absurd rfl z, fun z => absurd rfl z⟩
      · rw [List.size_toArray]
        exact sz
      · simpa using rv
    | none =>
      have at_ : ∀ {b : Addr} {u : HO}, (if b = a then some (HO.frz { cls := .type "list", data := .seq vs.toArray } (.lst (ns.map V.int))) else none) = some u → b = a ∧ u = HO.frz { cls := .type "list", data := .seq vs.toArray } (.lst (ns.map V.int)) := fun {b u} z => by
        by_cases hb : b = a
        · rw [if_pos hb] at z
          exact ⟨hb, (Option.some.inj z).symm⟩
        · rw [if_neg hb] at z
          exact nomatch z
      refine ⟨fun b => if b = a then some (.frz { cls := .type "list", data := .seq vs.toArray } (.lst (ns.map V.int))) else none, fun b => ?_, .inl (.inr ⟨_, if_pos rfl⟩), fun b u z => ?_, fun b z => ?_, fun _ => rfl⟩
      · by_cases hb : b = a
        · exact .inr ⟨_, _, if_pos hb⟩
        · exact .inl (if_neg hb)
      · obtain ⟨e1, e2⟩ := at_ z
        subst e1 e2
        exact ⟨hobj, szn, vs, _, rv, hobj⟩
      · by_cases hb : b = a
        · exact hb
        · exact absurd (if_neg hb) z
  have old : ∀ {b : Addr} {ob : Obj}, s₁.heap.get? b = some ob → H b = none → (hidT s₁.heap H).get? b = some ob := fun e n => hidT_get e n
  have only_a : ∀ b, b ≠ a → H b = none := fun b hb => by
    cases z : H b with
    | none => rfl
    | some u => exact absurd (hA b (by rw [z]; exact fun y => nomatch y)) hb
  have dict_out : ∀ {b : Addr} {ob : Obj} {es : Array DictEntry} {ep : Nat}, s₁.heap.get? b = some ob → ob.data = .dict es ep → H b = none := fun {b ob es ep} e dd => only_a b fun z => by
    subst z
    rw [hobj] at e
    cases e
    exact nomatch dd
  have ns_ : ∀ {b : Addr} {m : Str → Option Value}, s₁.heap.Ns b m → (hidT s₁.heap H).Ns b m := fun {b m} ⟨ob, es, ep, e, dd, r⟩ => ⟨ob, es, ep, old e (dict_out e dd), dd, r⟩
  have K_ : K.In (hidT s₁.heap H) := fun b ob e => old (KX b ob e) (by
    cases z : H b with
    | none => rfl
    | some u =>
      have eb := hA b (by rw [z]; exact fun y => nomatch y)
      subst eb
      have := hK (by rw [z]; exact fun y => nomatch y)
      rw [this] at e
      exact nomatch e)
  obtain ⟨mc, l1, l2⟩ := G.T.nolimit
  have e0 : Env0 l.prog w K mg (hidT s₁.heap H) callerA [] s₁ H :=
    { frames := rfl, mod := ⟨K_, ns_ G.T.g, ⟨mb, ns_ G.T.b, G.T.builtins⟩, ⟨mc, ns_ l1, l2⟩⟩, bs := fun b ob e => of_hidT e, bsz := Nat.le_of_eq (hidT_size _ _), funs := trivial, frf := fun b hb => absurd hb (List.not_mem_nil), hok := hok, bare := .of_eq hg }
  refine codeAny_mono ((hF _ K_ (ns_ G.T.g)).run callerA [] s₁ H ⟨[.ref a], []⟩ [.ref a] [.ref a] (fun v _ => v = .bl true) hr rfl e0 (hbi s₁ (.ref a)) (.cons rfl .nil) (hsp H a ns hlen hbits hS)) fun r s' h => ?_
  cases r with
  | error e => exact (show False from h).elim
  | ok fl =>
    cases fl with
    | ret u =>
      obtain ⟨v, H', os, bare, un, hok', r', ev⟩ := h
      have ev' : v = .bl true := ev
      subst ev'
      cases r'
      refine ⟨rfl, OldK.of_keep fun b ob e => ?_, os, bare⟩
      rcases hO b with z | ⟨o1, xs, z⟩
      · exact un.keep b ob e z (List.not_mem_nil) (List.not_mem_nil)
      · obtain ⟨e1, _⟩ := hok b _ z
        obtain ⟨e2, _⟩ := hok' b _ (un.frzs b o1 _ z)
        rw [e] at e1
        cases e1
        exact e2
    | _ => exact (show False from h).elim
end
end Hk

/-! repr of data; str, repr, == of own instances by their own methods; static methods. -/
namespace Hk
open PySem PySem.Spec PyProof.Rows L2
mutual
theorem Dp.noDict {K : Fr} {H : Hp} : ∀ (d : PyData) (v : V), Dp K H v d → d.hasDict = false
  | .none, _, _ => by simp [PyData.hasDict]
  | .bool _, _, _ => by simp [PyData.hasDict]
  | .int _, _, _ => by simp [PyData.hasDict]
  | .str _, _, _ => by simp [PyData.hasDict]
  | .list ds, _, h => by
    cases h with
    | lst _ ha =>
      simp only [PyData.hasDict]
      exact Dp.noDictAll ds _ ha
  | .tuple ds, _, h => by
    cases h with
    | tup _ ha =>
      simp only [PyData.hasDict]
      exact Dp.noDictAll ds _ ha
  | .dict _, _, h => by cases h
theorem Dp.noDictAll {K : Fr} {H : Hp} : ∀ (ds : List PyData) (vs : List V), DpAll K H vs ds → PyData.hasDictAll ds = false
  | [], _, _ => by simp [PyData.hasDictAll]
  | d :: ds, _, h => by
    cases h with
    | cons h1 h2 =>
      simp only [PyData.hasDictAll, Bool.or_eq_false_iff]
      exact ⟨Dp.noDict d _ h1, Dp.noDictAll ds _ h2⟩
end
/-- repr(x), x data: none, a truth, an int, a text, lists and tuples of such -/
def rRepr (K : Fr) : List V → Hp → VK → Prop := fun xs H Q => ∃ x d, xs = [x] ∧ Dp K H x d ∧ d.showable = true ∧ d.depth ≤ 60 ∧ d.shown.length ≤ sizeLine ∧ Q (.str d.shown) H
section
variable {X : Cx}
theorem call_reprD {k : Nat} (hc : Calm X.A) (hr : Room k X.A) : CallR X (.builtin "repr") (rRepr X.K) := by
  intro pins s σ H xs us Q I r h
  obtain ⟨x, d, rfl, hd, hs, hdp, hz, q⟩ := h
  obtain ⟨u, rfl, ru⟩ := r.one
  cases hd with
  | non =>
    cases ru
    rw [PyData.shown_none] at q
    exact PySem.P.repr_of_none ⟨.str _, H, I.tok _, ⟨_, rfl⟩, q⟩
  | bl b =>
    cases ru
    rw [PyData.shown_bool] at q
    refine PySem.P.repr_of_bool ⟨.str _, H, I.tok _, ⟨_, rfl⟩, ?_⟩
    cases b <;> exact q
  | int i =>
    obtain ⟨t, rfl⟩ := ru
    rw [PyData.shown_int] at q
    refine PySem.P.repr_of_int ?_ ⟨.str _, H, I.tok _, ⟨_, rfl⟩, q⟩
    simpa [PyData.showable] using hs
  | str y =>
    obtain ⟨t, rfl⟩ := ru
    rw [PyData.shown_str] at q hz
    exact PySem.P.repr_of_str ⟨.str _, H, I.tok _, ⟨_, rfl⟩, q⟩ hz
  | @lst a ys ds h1 h2 =>
    have e : u = Value.ref a := ru
    subst e
    have nd := Dp.noDict _ _ (Dp.lst h1 h2)
    obtain ⟨as, hr'⟩ := Dp.reads I (.list ds) _ _ (Dp.lst h1 h2) rfl
    refine PySem.repr_of_reads' hr' hs (fun z => by rw [nd] at z; exact nomatch z) hc ?_ (fun b o z => z) (fun h' u tk kp => ⟨.str _, H, I.kept kp, ⟨_, rfl⟩, q⟩) hz
    have := hr.units
    omega
  | @tup a ys ds h1 h2 =>
    have e : u = Value.ref a := ru
    subst e
    have nd := Dp.noDict _ _ (Dp.tup h1 h2)
    obtain ⟨as, hr'⟩ := Dp.reads I (.tuple ds) _ _ (Dp.tup h1 h2) rfl
    refine PySem.repr_of_reads' hr' hs (fun z => by rw [nd] at z; exact nomatch z) hc ?_ (fun b o z => z) (fun h' u tk kp => ⟨.str _, H, I.kept kp, ⟨_, rfl⟩, q⟩) hz
    have := hr.units
    omega
/-! ### own methods that the interpreter calls -/
theorem own_run {A' : Around} {pins : List (Addr × Obj)} {σ : L2.St} {H : Hp} {s : Shared} {Q : VK} {E' : Value → Shared → Prop} {us : List Value} {vs : List V} {k : Nat} {f : Addr} {fd : FuncData} {ps : List Str} {sp : Sp} (F : FnOk X.prog X.w X.K X.mg X.base CX0 k f fd ps sp)
    (hr : Room k A') (e0 : Env0 X.prog X.w X.K X.mg X.base A' X.stack s H) (hb : Binds X.K fd ps []) (I : Inv X pins σ H s) (r : Vals vs us) (h : sp vs H Q E0) : wpAny (model X.prog X.w) A' (call (.ref f) us) (EP X pins σ Q) E' s := by
  have ln : us.length = ps.length := r.length.symm.trans (F.len _ _ _ _ h)
  have bd : BindsTo s fd ⟨us, []⟩ (ps.zip us) := by
    have := hb s us I.kIn (by rw [List.append_nil]; exact ln)
    rwa [List.append_nil] at this
  refine wpAny_call (codeAny_mono (F.run A' X.stack s H ⟨us, []⟩ us vs Q E0 hr e0 bd r h) fun z s' hq => ?_)
  rcases z with e | fl
  · exact (show False from hq).elim
  · cases fl with
    | ret u => exact I.after hq
    | _ => exact (show False from hq).elim
/-- the class at C has its own def at f for the name m -/
structure Own (K : Fr) (C : Addr) (m : Str) (f : Addr) : Prop where
  at_ : PySem.W.findIn K (.ref C) m = some (some (.ref f))
  fn : PySem.W.isFn K (.ref f) = true
def rText (C : Addr) (sp : Sp) : List V → Hp → VK → Prop := fun xs H Q => ∃ a dx fs, xs = [.ref a] ∧ H a = some (.ins C dx fs) ∧ sp [.ref a] H (fun z H' => ∃ y, z = .str y ∧ Q z H') E0
section
variable {k : Nat} {C f : Addr} {fd : FuncData} {ps : List Str} {sp : Sp}
theorem call_strO (O : Own X.K C "__str__" f) (F : FnOk X.prog X.w X.K X.mg X.base CX0 k f fd ps sp) (hb : Binds X.K fd ps []) (hr : Room (k + 2) X.A) : CallR X (.type "str") (rText C sp) := by
  intro pins s σ H xs us Q I r h
  obtain ⟨a, dx, fs, rfl, ha, q⟩ := h
  obtain ⟨u, rfl, ru⟩ := r.one
  cases (show u = Value.ref a from ru)
  obtain ⟨mA, M, _⟩ := ins_get I.hok ha
  obtain ⟨od, J, _⟩ := M.look
  have r2 : Room k X.A.in1.in1 := (show Room (k + 1) X.A.in1 from Room.in1 hr).in1
  refine PySem.W.kso_call r2.units0 I.kIn J O.at_ O.fn (wpAny_mono (own_run (vs := [.ref a]) F r2 I.env0.in1.in1 hb I (.cons rfl .nil) q) (fun v s' z => ?_) fun _ _ z => z)
  obtain ⟨z', H', I', rz, y, ey, qz⟩ := z
  subst ey
  obtain ⟨t, e⟩ := (show ∃ t, v = Value.str y t from rz)
  cases e
  exact ⟨.str y, H', I', ⟨t, rfl⟩, qz⟩
theorem call_reprO (O : Own X.K C "__repr__" f) (F : FnOk X.prog X.w X.K X.mg X.base CX0 k f fd ps sp) (hb : Binds X.K fd ps []) (hr : Room (k + 1) X.A) : CallR X (.builtin "repr") (rText C sp) := by
  intro pins s σ H xs us Q I r h
  obtain ⟨a, dx, fs, rfl, ha, q⟩ := h
  obtain ⟨u, rfl, ru⟩ := r.one
  cases (show u = Value.ref a from ru)
  obtain ⟨mA, M, _⟩ := ins_get I.hok ha
  obtain ⟨od, J, _⟩ := M.look
  have r2 : Room k X.A.in1 := Room.in1 hr
  obtain ⟨m, hF⟩ := I.fr
  refine PySem.W.repr_K r2.units0 hF I.ok.mod.kin J O.at_ O.fn (wpAny_mono (own_run (vs := [.ref a]) F r2 I.env0.in1 hb I (.cons rfl .nil) q) (fun v s' z => ?_) fun _ _ z => z)
  obtain ⟨z', H', I', rz, y, ey, qz⟩ := z
  subst ey
  obtain ⟨t, e⟩ := (show ∃ t, v = Value.str y t from rz)
  cases e
  exact ⟨.str y, H', I', ⟨t, rfl⟩, qz⟩
/-- the type of what is compared -/
inductive TyL (K : Fr) (H : Hp) : V → Value → Prop where
  | non : TyL K H .non (.type "NoneType")
  | bl (b : Bool) : TyL K H (.bl b) (.type "bool")
  | int (i : Int) : TyL K H (.int i) (.type "int")
  | str (y : Str) : TyL K H (.str y) (.type "str")
  | lst {a : Addr} {xs : List V} (h : H a = some (.lst xs)) : TyL K H (.ref a) (.type "list")
  | tup {a : Addr} {xs : List V} (h : H a = some (.tup xs)) : TyL K H (.ref a) (.type "tuple")
  | ins {a C dx : Addr} {fs : List (Str × V)} (h : H a = some (.ins C dx fs)) : TyL K H (.ref a) (.ref C)
theorem typeOf_obj {M : Model} {h : Heap} {a : Addr} {o : Obj} {t : Value} (e : h.get? a = some o) (c : o.cls = t) : PySem.W.Looks M h (typeOf (.ref a)) t := by
  intro A Q E s kp q
  refine wpAny_typeOf_ref (kp _ _ e) ?_
  rw [c]
  exact q
theorem TyL.looks {pins : List (Addr × Obj)} {σ : L2.St} {H : Hp} {s : Shared} {y : V} {u t : Value} {M : Model} (I : Inv X pins σ H s) (ry : RelV y u) (ty : TyL X.K H y t) : PySem.W.Looks M s.heap (typeOf u) t := by
  cases ty with
  | non => cases ry; exact PySem.W.Looks.of_pure rfl
  | bl b => cases ry; exact PySem.W.Looks.of_pure rfl
  | int i =>
    obtain ⟨t, rfl⟩ := ry
    exact PySem.W.Looks.of_pure rfl
  | str z =>
    obtain ⟨t, rfl⟩ := ry
    exact PySem.W.Looks.of_pure rfl
  | @lst a xs h =>
    cases (show u = Value.ref a from ry)
    obtain ⟨_, its, n, _, e⟩ := (show ObjOk X.prog X.w H s.heap a (.lst xs) from I.hok a _ h)
    exact typeOf_obj e rfl
  | @tup a xs h =>
    cases (show u = Value.ref a from ry)
    obtain ⟨_, its, _, o, e, c, _⟩ := (show ObjOk X.prog X.w H s.heap a (.tup xs) from I.hok a _ h)
    exact typeOf_obj e c
  | @ins a C dx fs h =>
    cases (show u = Value.ref a from ry)
    obtain ⟨mA, M, _⟩ := ins_get I.hok h
    obtain ⟨od, J, _⟩ := M.look
    exact J.type
def rEqO (K : Fr) (C : Addr) (sp : Sp) : R2 := fun x y H Q => ∃ a dx fs t, x = .ref a ∧ H a = some (.ins C dx fs) ∧ TyL K H y t ∧ PySem.W.notFirst K C t = true ∧ sp [x, y] H (fun z H' => ∃ b, z = .bl b ∧ Q z H') E0
theorem op_eqO (O : Own X.K C "__eq__" f) (F : FnOk X.prog X.w X.K X.mg X.base CX0 k f fd ps sp) (hb : Binds X.K fd ps []) (hr : Room k X.A) : OpR X (compareOp .Eq) (rEqO X.K C sp) := by
  intro pins s σ H x y v u Q I rx ry h
  obtain ⟨a, dx, fs, t, rfl, ha, ty, hn, q⟩ := h
  cases (show v = Value.ref a from rx)
  obtain ⟨mA, M, _⟩ := ins_get I.hok ha
  obtain ⟨od, J, _⟩ := M.look
  obtain ⟨m, hF⟩ := I.fr
  show wpAny _ _ (richCompare .Eq (.ref a) u) _ _ _
  refine PySem.W.cmp_K (op := .Eq) hr.units0 hF I.ok.mod.kin J (ty.looks I ry) hn O.at_ O.fn (wpAny_mono (own_run (vs := [.ref a, y]) F hr I.env0 hb I (.cons rfl (.cons ry .nil)) q) (fun w s' z => ?_) fun _ _ z => z)
  obtain ⟨z', H', I', rz, b, eb, qz⟩ := z
  subst eb
  cases rz
  exact ⟨.bl b, H', I', rfl, qz⟩
end
end
end Hk
namespace Hk
open PySem PySem.Spec PyProof.Rows L2
/-! ### != where the class has == alone -/
section
variable {prog : Program} {w : World} {A : Around} {E : Value → Shared → Prop} {s : Shared} {K : Fr} {x C f : Addr} {ox : Obj} {od : Option Obj}
theorem ne_dflt {b tb : Value} {Q : Value → Shared → Prop} (hu : A.units + 2 < cLine) (Y : K.In s.heap) (I : PySem.W.InstAt s.heap x ox C od) (hb : PySem.W.Looks (model prog w) s.heap (typeOf b) tb) (hn : PySem.W.notFirst K C tb = true)
    (hne : PySem.W.findIn K (.ref C) "__ne__" = some (some (.builtin "object.__ne__"))) (he : PySem.W.findIn K (.ref C) "__eq__" = some (some (.ref f))) (hf : PySem.W.isFn K (.ref f) = true) (hob : PySem.W.subIn K (.ref C) (.type "object") = some true)
    (h : wpAny (model prog w) A.in1 (call (.ref f) [.ref x, b]) (fun v s' => ∃ r, v = .bool r ∧ Q (.bool (!r)) s') E s) : wpAny (model prog w) A (richCompare .NotEq (.ref x) b) Q E s := by
  have slot := PySem.F.slot_object_ne
  have body : wpAny (model prog w) A.in1 (Builtin.«object.__ne__» ⟨[.ref x, b], []⟩) (fun fin s' => ∃ v, fin = .done (.ret v) ∧ v ≠ .notImplemented ∧ Q v s') E s := by
    unfold Builtin.«object.__ne__»
    repeat (first
      | with_reducible refine wpAny_cRoomFor (show A.units + 1 < cLine by omega) ?_
      | (refine wpAny_bind (m := callSpecialIfBound? (.ref x) (Str.ofString "__eq__") [b]) (PySem.W.ifBound_K Y I he hf (wpAny_mono h (fun r s' hr => ?_) fun _ _ e => e))
         obtain ⟨b, rfl, hq⟩ := hr)
      | exact ⟨_, rfl, (fun z => nomatch z), hq⟩
      | (refine wpAny_bind (m := truthy (.bool _)) (wpAny_truthy_bool ?_))
      | wp_step)
  have called : wpAny (model prog w) A (call (.builtin "object.__ne__") [.ref x, b]) (fun v s' => v ≠ .notImplemented ∧ Q v s') E s := by
    refine wpAny_call (codeAny_call_builtin slot.plain PySem.F.cmpEntry_ne (PySem.W.check_slot PySem.F.cmpKind_ne PySem.F.cmpSplit_ne (I.type.andThen (PySem.W.looks_subIn Y hob)) (PySem.F.cmpArgs_ne _ _) ?_))
    exact wpAny_mono body (fun fin s' hv => by obtain ⟨v, rfl, q⟩ := hv; exact q) fun _ _ z => z
  have one : wpAny (model prog w) A (tryCompare (.ref x) (cmpInfo .NotEq).2.1 b) (fun r s' => ∃ v, r = some v ∧ Q v s') E s := by
    unfold tryCompare
    refine wpAny_bind ?_
    simp only [callSpecialIfBound?, bindSpecialIfBound?]
    refine wpAny_holding (wpAny_bind (wpAny_bind (wpAny_bind (I.type.here ((PySem.W.looks_findIn Y hne).here ?_)))))
    simp only [slot.bind]
    refine wpAny_bind (wpAny_askSetting (wpAny_ite ?_))
    split
    · refine wpAny_bind (wpAny_pure (wpAny_pure ?_))
      refine wpAny_bind (wpAny_mono called (fun v s' hv => wpAny_pure ?_) fun _ _ z => z)
      obtain ⟨h1, h2⟩ := hv
      cases v <;> first | exact absurd rfl h1 | exact wpAny_pure ⟨_, rfl, h2⟩
    · refine wpAny_tryCatch (wpAny_bind (wpAny_pure (wpAny_pure ?_)))
      refine wpAny_bind (wpAny_mono called (fun v s' hv => wpAny_pure ?_) fun _ _ z => z)
      obtain ⟨h1, h2⟩ := hv
      cases v <;> first | exact absurd rfl h1 | exact wpAny_pure ⟨_, rfl, h2⟩
  unfold richCompare
  simp only [oneThing_ref]
  refine wpAny_holding (wpAny_bind (wpAny_cRoomFor (by omega) ?_))
  refine wpAny_bind (I.type.here (wpAny_bind (hb.here ?_)))
  have nosub : ((Value.ref C != tb) = true) → PySem.W.subIn K tb (.ref C) = some false := fun q => by
    rcases Bool.or_eq_true_iff.mp hn with e | e
    · rw [beq_iff_eq.mp e] at q
      simp at q
    · exact beq_iff_eq.mp e
  split
  · rename_i q
    refine wpAny_bind ((PySem.W.looks_subIn Y (nosub q)).here ?_)
    simp only [Bool.false_eq_true, if_false]
    refine wpAny_bind (wpAny_mono one (fun r s' z => ?_) fun _ _ e => e)
    obtain ⟨v, rfl, hv⟩ := z
    exact wpAny_pure hv
  · refine wpAny_bind (wpAny_pure ?_)
    simp only [Bool.false_eq_true, if_false]
    refine wpAny_bind (wpAny_mono one (fun r s' z => ?_) fun _ _ e => e)
    obtain ⟨v, rfl, hv⟩ := z
    exact wpAny_pure hv
end
section
variable {X : Cx} {k : Nat} {C f : Addr} {fd : FuncData} {ps : List Str} {sp : Sp}
/-- the class has its own ==, and != of object -/
structure NeOf (K : Fr) (C : Addr) : Prop where
  ne : PySem.W.findIn K (.ref C) "__ne__" = some (some (.builtin "object.__ne__"))
  ob : PySem.W.subIn K (.ref C) (.type "object") = some true
def rNeO (K : Fr) (C : Addr) (sp : Sp) : R2 := fun x y H Q => ∃ a dx fs t, x = .ref a ∧ H a = some (.ins C dx fs) ∧ TyL K H y t ∧ PySem.W.notFirst K C t = true ∧ sp [x, y] H (fun z H' => ∃ b, z = .bl b ∧ Q (.bl (!b)) H') E0
theorem op_neO (O : Own X.K C "__eq__" f) (N : NeOf X.K C) (F : FnOk X.prog X.w X.K X.mg X.base CX0 k f fd ps sp) (hb : Binds X.K fd ps []) (hr : Room (k + 1) X.A) : OpR X (compareOp .NotEq) (rNeO X.K C sp) := by
  intro pins s σ H x y v u Q I rx ry h
  obtain ⟨a, dx, fs, t, rfl, ha, ty, hn, q⟩ := h
  cases (show v = Value.ref a from rx)
  obtain ⟨mA, M, _⟩ := ins_get I.hok ha
  obtain ⟨od, J, _⟩ := M.look
  have r2 : Room k X.A.in1 := Room.in1 hr
  show wpAny _ _ (richCompare .NotEq (.ref a) u) _ _ _
  refine ne_dflt (by have := hr.units; omega) I.kIn J (ty.looks I ry) hn N.ne O.at_ O.fn N.ob (wpAny_mono (own_run (vs := [.ref a, y]) F r2 I.env0.in1 hb I (.cons rfl (.cons ry .nil)) q) (fun w s' z => ?_) fun _ _ z => z)
  obtain ⟨z', H', I', rz, b, eb, qz⟩ := z
  subst eb
  cases rz
  exact ⟨b, rfl, .bl (!b), H', I', rfl, qz⟩
end
/-! ### a static method, called off its class by one keyword or more -/
structure Stat (K : Fr) (C : Addr) (mc : Value) (m : Str) (p g : Addr) : Prop where
  rd : ClX.CRead K C mc
  at_ : PySem.W.findCls K (.ref C) mc m = some (.get (.builtin "staticmethod.__get__") (.ref p) .none (.ref C))
  rc : ∃ rest, PySem.W.recIn K p "staticmethod" = some (.ref g :: rest)
  kp : PySem.W.keepIn K (.ref g) = true
def tStatK (C : Addr) (sp : Sp) (ta : TE) (tk : TA) : TE := fun σ H Q => ta σ H fun x H1 => x = .ref C ∧ tk σ H1 fun vs H2 => sp vs H2 Q E0
section
variable {X : Cx} {k : Nat} {C p g : Addr} {mc : Value} {m : Str} {fd : FuncData} {ps : List Str} {sp : Sp} {o : Expr} {kws : List Keyword} {ta : TE} {tk : TA} {pos apos : Pos} {pl : Sem Bool}
theorem pe_statK (he : PE X o ta) (S : Stat X.K C mc m p g) (F : FnOk X.prog X.w X.K X.mg X.base CX0 k g fd ps sp) (hr : Room k X.A)
    (hbk : ∀ (s : Shared) (ws : List Value), X.K.In s.heap → ws.length = ps.length → BindsTo s fd ⟨[], ps.zip ws⟩ (ps.zip ws)) (hk : PK X kws tk)
    (hall : (backToKw pos (keywordEach kws X.env)).all (·.1.isSome) = true := by rfl) (hks : (backToKw pos (keywordEach kws X.env)).filterMap (·.1) = ps := by rfl)
    (hpl : ((backTo pos (starEach [] X.env)).any (·.1) || (backToKw pos (keywordEach kws X.env)).any (·.1.isNone)) = false := by rfl)
    (ht : eval (.Call (.Attribute o m apos) [] kws pos) X.env = (do
      let ov ← eval o X.env
      standAt apos.atName
      let (f, first) ← holding [ov] (getMethod ov m pl)
      callWith pos f first (backTo pos (starEach [] X.env)) (backToKw pos (keywordEach kws X.env))) := by rfl) :
    PE X (.Call (.Attribute o m apos) [] kws pos) (tStatK C sp ta tk) := by
  refine ⟨fun pins s σ H Q I h => PySem.W.methodCall_KW (pl := pl) (thn (he.run pins s σ H _ I h) fun u s1 hu => ?_) ht⟩
  obtain ⟨x, H1, I1, rx, ex, q⟩ := hu
  subst ex
  obtain rfl : u = Value.ref C := rx
  obtain ⟨rest, hp⟩ := S.rc
  refine PySem.W.method_cls I1.kIn S.rd.ga (PySem.W.cls_bind I1.kIn S.rd.rd S.at_ (wpAny_call (PySem.W.sm_get (s := { s1 with toks := s1.toks + 1 }) I1.kIn hp (PySem.W.handed_on rfl ?_))))
  refine PySem.W.callWith_KW0 (h₀ := X.base) I1.ok.mod.kin S.kp hall (thn (hk.run pos pins _ σ H1 _ (I1.tok _) q) fun ws s2 hw => ?_) hpl
  obtain ⟨vs, H2, I2, rv, q2⟩ := hw
  have ln : ws.length = ps.length := rv.length.symm.trans (F.len _ _ _ _ q2)
  refine ⟨I2.kIn, ?_⟩
  rw [hks]
  refine wpAny_call (codeAny_mono (F.run X.A X.stack s2 H2 ⟨[], ps.zip ws⟩ ws vs Q E0 hr I2.env0 (hbk s2 ws I2.kIn ln) rv q2) fun z s' hq => ?_)
  rcases z with e | fl
  · exact (show False from hq).elim
  · cases fl with
    | ret u => exact I2.after hq
    | _ => exact (show False from hq).elim
end
end Hk
namespace Hk
open PySem PySem.Spec PyProof.Rows L2
theorem ne_ok {K : Fr} {x : Str} (c : tNe x K = true) : NeOf K (He.ga K x) := by
  obtain ⟨c1, c2⟩ := He.ba c
  exact ⟨He.eqO_ok c1, of_decide_eq_true c2⟩
theorem own_ok {K : Fr} {x m : Str} (c : tMeth x m K = true) : Own K (He.ga K x) m (mAd x m K) := by
  have h := He.meth_ok c
  exact ⟨h.at_, h.fn⟩
theorem stat_ok {K : Fr} {x m : Str} (c : tStat x m K = true) : Stat K (He.ga K x) (.type "type") m (He.ma K (He.ga K x) m) (statAd x m K) := by
  obtain ⟨c1, c⟩ := He.ba c
  obtain ⟨c2, c⟩ := He.ba c
  obtain ⟨c3, c4⟩ := He.ba c
  obtain ⟨h1, h2⟩ := He5.wrapB_ok c1
  exact ⟨⟨c2, He.eqO_ok c3⟩, h1, h2, c4⟩
end Hk

/-! Fractions in lowest terms, over Int. -/
namespace NumM
def sg (b : Int) : Int := if b < 0 then -1 else 1
def gd (h b : Int) : Int := ((Nat.gcd h.natAbs b.natAbs : Nat) : Int)
def lowT (h b : Int) : Int := sg b * h / gd h b
def lowB (h b : Int) : Int := sg b * b / gd h b
theorem gd_pos {h b : Int} (hb : b ≠ 0) : 0 < gd h b := by
  have : 0 < Nat.gcd h.natAbs b.natAbs := Nat.gcd_pos_of_pos_right _ (by omega)
  unfold gd; omega
theorem gd_dvd_l (h b : Int) : gd h b ∣ h := by
  unfold gd
  exact Int.ofNat_dvd_left.mpr (Nat.gcd_dvd_left _ _)
theorem gd_dvd_r (h b : Int) : gd h b ∣ b := by
  unfold gd
  exact Int.ofNat_dvd_left.mpr (Nat.gcd_dvd_right _ _)
theorem gd_le {h b : Int} (hb : b ≠ 0) : (gd h b).natAbs ≤ b.natAbs := by
  have := Nat.gcd_le_right h.natAbs (show 0 < b.natAbs by omega)
  unfold gd; omega
theorem sg_sq (b : Int) : sg b * sg b = 1 := by unfold sg; split <;> rfl
theorem sg_mul {b : Int} (hb : b ≠ 0) : 0 < sg b * b := by unfold sg; split <;> omega
theorem natAbs_sg (b x : Int) : (sg b * x).natAbs = x.natAbs := by unfold sg; split <;> simp
theorem lowT_mul {h b : Int} : lowT h b * gd h b = sg b * h := by
  unfold lowT
  exact Int.ediv_mul_cancel (Int.dvd_mul_of_dvd_right (gd_dvd_l h b))
theorem lowB_mul {h b : Int} : lowB h b * gd h b = sg b * b := by
  unfold lowB
  exact Int.ediv_mul_cancel (Int.dvd_mul_of_dvd_right (gd_dvd_r h b))
theorem low_pos {h b : Int} (hb : b ≠ 0) : 0 < lowB h b := by
  have h1 := gd_pos (h := h) hb
  have h2 := sg_mul hb
  rw [← lowB_mul (h := h)] at h2
  exact Int.pos_of_mul_pos_left h2 (by omega)
theorem low_cop {h b : Int} (hb : b ≠ 0) : Nat.gcd (lowT h b).natAbs (lowB h b).natAbs = 1 := by
  have hp := gd_pos (h := h) hb
  have e1 : (lowT h b).natAbs * (gd h b).natAbs = h.natAbs := by rw [← Int.natAbs_mul, lowT_mul, natAbs_sg]
  have e2 : (lowB h b).natAbs * (gd h b).natAbs = b.natAbs := by rw [← Int.natAbs_mul, lowB_mul, natAbs_sg]
  have g : Nat.gcd ((lowT h b).natAbs * (gd h b).natAbs) ((lowB h b).natAbs * (gd h b).natAbs) = (gd h b).natAbs := by
    rw [e1, e2]; unfold gd; simp
  rw [Nat.gcd_mul_right] at g
  have hp' : 0 < (gd h b).natAbs := by omega
  exact Nat.eq_of_mul_eq_mul_right hp' (by rw [g, Nat.one_mul])
theorem low_eq {h b : Int} (hb : b ≠ 0) : lowT h b * b = h * lowB h b := by
  have hp := gd_pos (h := h) hb
  have e1 := lowT_mul (h := h) (b := b)
  have e2 := lowB_mul (h := h) (b := b)
  have : (lowT h b * b) * gd h b = (h * lowB h b) * gd h b := by
    calc (lowT h b * b) * gd h b = (lowT h b * gd h b) * b := by rw [Int.mul_right_comm]
      _ = (sg b * h) * b := by rw [e1]
      _ = h * (sg b * b) := by rw [Int.mul_comm (sg b) h, Int.mul_assoc]
      _ = h * (lowB h b * gd h b) := by rw [e2]
      _ = (h * lowB h b) * gd h b := by rw [Int.mul_assoc]
  exact Int.eq_of_mul_eq_mul_right (by omega) this
theorem uniq {t b u c : Int} (hb : 0 < b) (hc : 0 < c) (h1 : Nat.gcd t.natAbs b.natAbs = 1) (h2 : Nat.gcd u.natAbs c.natAbs = 1) (e : t * c = u * b) : t = u ∧ b = c := by
  have en : t.natAbs * c.natAbs = u.natAbs * b.natAbs := by rw [← Int.natAbs_mul, ← Int.natAbs_mul, e]
  have d1 : b.natAbs ∣ c.natAbs := by
    have : b.natAbs ∣ t.natAbs * c.natAbs := ⟨u.natAbs, by rw [en, Nat.mul_comm]⟩
    exact Nat.Coprime.dvd_of_dvd_mul_left (show Nat.Coprime b.natAbs t.natAbs by unfold Nat.Coprime; rw [Nat.gcd_comm]; exact h1) this
  have d2 : c.natAbs ∣ b.natAbs := by
    have : c.natAbs ∣ u.natAbs * b.natAbs := ⟨t.natAbs, by rw [← en, Nat.mul_comm]⟩
    exact Nat.Coprime.dvd_of_dvd_mul_left (show Nat.Coprime c.natAbs u.natAbs by unfold Nat.Coprime; rw [Nat.gcd_comm]; exact h2) this
  have ebc : b.natAbs = c.natAbs := Nat.dvd_antisymm d1 d2
  have bc : b = c := by omega
  subst bc
  exact ⟨Int.eq_of_mul_eq_mul_right (by omega) e, rfl⟩
theorem low_of {h b t c : Int} (hb : b ≠ 0) (hc : 0 < c) (h1 : Nat.gcd t.natAbs c.natAbs = 1) (e : t * b = h * c) : lowT h b = t ∧ lowB h b = c := by
  have l := low_eq (h := h) hb
  refine uniq (low_pos hb) hc (low_cop hb) h1 ?_
  have : (lowT h b * c) * b = (t * lowB h b) * b := by
    calc (lowT h b * c) * b = (lowT h b * b) * c := by rw [Int.mul_right_comm]
      _ = h * lowB h b * c := by rw [l]
      _ = (h * c) * lowB h b := by rw [Int.mul_right_comm]
      _ = (t * b) * lowB h b := by rw [e]
      _ = (t * lowB h b) * b := by rw [Int.mul_right_comm]
  exact Int.eq_of_mul_eq_mul_right hb this
theorem low_red {t b : Int} (hb : 0 < b) (h1 : Nat.gcd t.natAbs b.natAbs = 1) : lowT t b = t ∧ lowB t b = b := low_of (by omega) hb h1 rfl
theorem low_mul {h b m : Int} (hb : b ≠ 0) (hm : m ≠ 0) : lowT (h * m) (b * m) = lowT h b ∧ lowB (h * m) (b * m) = lowB h b := by
  refine low_of (Int.mul_ne_zero hb hm) (low_pos hb) (low_cop hb) ?_
  rw [← Int.mul_assoc, low_eq hb, Int.mul_right_comm]
theorem natAbs_le_of_mul {x g y : Int} (hg : 0 < g) (e : x * g = y) : x.natAbs ≤ y.natAbs := by
  rw [← e, Int.natAbs_mul]
  exact Nat.le_mul_of_pos_right _ (by omega)
theorem lowT_le {h b : Int} (hb : b ≠ 0) : (lowT h b).natAbs ≤ h.natAbs := by
  have := natAbs_le_of_mul (gd_pos (h := h) hb) (lowT_mul (h := h) (b := b))
  rwa [natAbs_sg] at this
theorem lowB_le {h b : Int} (hb : b ≠ 0) : (lowB h b).natAbs ≤ b.natAbs := by
  have := natAbs_le_of_mul (gd_pos (h := h) hb) (lowB_mul (h := h) (b := b))
  rwa [natAbs_sg] at this
/-- what __init__ divides by -/
def shr (h b : Int) : Int := if b < 0 then -(gd h b) else gd h b
theorem shr_eq (h b : Int) : shr h b = sg b * gd h b := by unfold shr sg; split <;> simp
theorem fdiv_of {x y z : Int} (hy : y ≠ 0) (e : x = z * y) : x.fdiv y = z := by
  rw [e]
  exact Int.mul_fdiv_cancel _ hy
theorem init_top {h b : Int} (hb : b ≠ 0) : h.fdiv (shr h b) = lowT h b := by
  have hp := gd_pos (h := h) hb
  refine fdiv_of (by rw [shr_eq]; unfold sg; split <;> omega) ?_
  rw [shr_eq, Int.mul_comm (sg b), ← Int.mul_assoc, lowT_mul, Int.mul_right_comm, sg_sq, Int.one_mul]
theorem init_bot {h b : Int} (hb : b ≠ 0) : b.fdiv (shr h b) = lowB h b := by
  have hp := gd_pos (h := h) hb
  refine fdiv_of (by rw [shr_eq]; unfold sg; split <;> omega) ?_
  rw [shr_eq, Int.mul_comm (sg b), ← Int.mul_assoc, lowB_mul, Int.mul_right_comm, sg_sq, Int.one_mul]
theorem shr_ne {h b : Int} (hb : b ≠ 0) : shr h b ≠ 0 := by
  have hp := gd_pos (h := h) hb
  rw [shr_eq]; unfold sg; split <;> omega
theorem shr_le {h b : Int} (hb : b ≠ 0) : (shr h b).natAbs ≤ b.natAbs := by
  rw [shr_eq, natAbs_sg]; exact gd_le hb
end NumM

/-! The texts of ints and fractions, as lists of codes. -/
namespace NumT
open PySem PySem.Spec PyProof.Rows L2 SX
open TL (numL)
def iL (z : Int) : List Nat := if z < 0 then 45 :: numL z.natAbs else numL z.natAbs
theorem toS (z : Int) : ((toString z : String) : Str) = S (iL z) := by
  unfold iL
  by_cases h : z < 0
  · rw [if_pos h]
    obtain ⟨n, rfl⟩ : ∃ n : Nat, z = -((n : Nat) : Int) := ⟨z.natAbs, by omega⟩
    have hn : 0 < n := by omega
    obtain ⟨m, rfl⟩ : ∃ m, n = m + 1 := ⟨n - 1, by omega⟩
    have e : (toString (-(((m + 1 : Nat)) : Int)) : String) = "-" ++ toString (((m + 1 : Nat) : Nat) : Int) := rfl
    have e2 : ((-(((m + 1 : Nat)) : Int)).natAbs) = m + 1 := by omega
    rw [e2]
    show Str.ofString (toString (-(((m + 1 : Nat)) : Int))) = _
    rw [e]
    have e3 := TL.tl_num (m + 1)
    refine TL.ext_tl ?_
    show (Str.ofString ("-" ++ toString (((m + 1 : Nat)) : Int))).cps.toList = _
    have e4 : (Str.ofString ("-" ++ toString (((m + 1 : Nat)) : Int))).cps.toList = 45 :: (Str.ofString (toString (((m + 1 : Nat)) : Int))).cps.toList := by
      simp [Str.ofString]
      rfl
    rw [e4]
    exact congrArg (45 :: ·) e3
  · rw [if_neg h]
    obtain ⟨n, rfl⟩ : ∃ n : Nat, z = ((n : Nat) : Int) := ⟨z.natAbs, by omega⟩
    exact num_S n
theorem iL_free {z : Int} : 47 ∉ iL z := by
  unfold iL
  split
  · intro h
    rcases List.mem_cons.mp h with h | h
    · cases h
    · exact TL.numL_free (by decide) h
  · exact TL.numL_free (by decide)
theorem numL_all (n : Nat) : NumText.AllDigits (numL n) := TL.numL_digits n
theorem pre_one {c d : Nat} {r : List Nat} : TL.pre [c] (d :: r) = decide (c = d) := by
  by_cases h : c = d
  · rw [decide_eq_true h]
    subst h
    simp [TL.pre]
  · rw [decide_eq_false h]
    have h2 : ¬ d = c := fun e => h e.symm
    simp [TL.pre, h, h2]
theorem par_none (c : Nat) : ∀ (a acc : List Nat), c ∉ a → TL.par [c] acc a = none
  | [], _, _ => rfl
  | d :: r, acc, h => by
    have hd : ¬ c = d := fun e => h (by rw [e]; exact List.mem_cons_self)
    show (if TL.pre [c] (d :: r) = true then _ else _) = _
    rw [pre_one, decide_eq_false hd, if_neg Bool.false_ne_true]
    exact par_none c r _ fun z => h (List.mem_cons_of_mem _ z)
theorem par_some (c : Nat) (q : List Nat) : ∀ (a acc : List Nat), c ∉ a → TL.par [c] acc (a ++ c :: q) = some (acc ++ a, q)
  | [], acc, _ => by
    show (if TL.pre [c] (c :: q) = true then _ else _) = _
    rw [pre_one, decide_eq_true rfl, if_pos rfl]
    simp
  | d :: r, acc, h => by
    have hd : ¬ c = d := fun e => h (by rw [e]; exact List.mem_cons_self)
    rw [List.cons_append]
    show (if TL.pre [c] (d :: (r ++ c :: q)) = true then _ else TL.par [c] (acc ++ [d]) (r ++ c :: q)) = _
    rw [pre_one, decide_eq_false hd, if_neg Bool.false_ne_true, par_some c q r _ fun z => h (List.mem_cons_of_mem _ z)]
    simp
theorem part_none {a : List Nat} (h : 47 ∉ a) : Txt.partition (S a) (S [47]) = (S a, S [], S []) := partition_none (by simp) (par_none 47 a [] h)
theorem part_some {a q : List Nat} (h : 47 ∉ a) : Txt.partition (S (a ++ 47 :: q)) (S [47]) = (S a, S [47], S q) := partition_some (by simp) (par_some 47 q a [] h)
theorem slash_S : ("/" : Str) = S [47] := by decide +kernel
theorem minus_S : ("-" : Str) = S [45] := by decide +kernel
/-- digits, and at least one -/
def dig (a : List Nat) : Bool := !a.isEmpty && a.all (fun c => decide (48 ≤ c) && decide (c ≤ 57))
theorem ascii_S (a : List Nat) : Txt.isascii (S a) = a.all (fun c => decide (c < 128)) := by
  show (S a).cps.all (· < 128) = _
  rw [← Array.all_toList]
theorem digit_S {a : List Nat} (h : a.all (fun c => decide (c < 128)) = true) : Txt.isdigit (S a) = dig a := by
  have e : Txt.isdigit (S a) = (decide ((S a).length > 0) && (S a).cps.all Unicode.isDigit) := rfl
  rw [e, ← Array.all_toList, S_len]
  show (decide (a.length > 0) && a.all Unicode.isDigit) = _
  unfold dig
  have e1 : decide (a.length > 0) = !a.isEmpty := by cases a <;> simp
  rw [e1]
  congr 1
  have hall : ∀ c ∈ a, c < 128 := fun c hc => of_decide_eq_true (List.all_eq_true.mp h c hc)
  clear h e e1
  induction a with
  | nil => rfl
  | cons c r ih =>
    have k : ∀ n : _root_.Fin 128, Unicode.isDigit n.val = (decide (48 ≤ n.val) && decide (n.val ≤ 57)) := by decide +kernel
    rw [List.all_cons, List.all_cons, ih fun d hd => hall d (List.mem_cons_of_mem _ hd), k ⟨c, hall c List.mem_cons_self⟩]
/-- isascii and isdigit together -/
theorem both_S (a : List Nat) : (Txt.isascii (S a) && Txt.isdigit (S a)) = dig a := by
  rw [ascii_S]
  cases h : a.all (fun c => decide (c < 128)) with
  | true => rw [Bool.true_and]; exact digit_S h
  | false =>
    rw [Bool.false_and]
    cases q : dig a with
    | false => rfl
    | true =>
      unfold dig at q
      have q2 := (Bool.and_eq_true_iff.mp q).2
      have : a.all (fun c => decide (c < 128)) = true := List.all_eq_true.mpr fun c hc => by
        have z := List.all_eq_true.mp q2 c hc
        rw [Bool.and_eq_true, decide_eq_true_eq, decide_eq_true_eq] at z
        exact decide_eq_true (by omega)
      rw [this] at h
      exact nomatch h
theorem dig_num (n : Nat) : dig (numL n) = true := by
  unfold dig
  have h1 := TL.numL_ne n
  have h2 := numL_all n
  rw [Bool.and_eq_true]
  refine ⟨by cases e : numL n with
    | nil => exact absurd e h1
    | cons => rfl, List.all_eq_true.mpr fun c hc => ?_⟩
  have := h2 c hc
  rw [Bool.and_eq_true, decide_eq_true_eq, decide_eq_true_eq]
  exact this
theorem dig_all {a : List Nat} (h : dig a = true) : NumText.AllDigits a ∧ a ≠ [] := by
  unfold dig at h
  obtain ⟨h1, h2⟩ := Bool.and_eq_true_iff.mp h
  refine ⟨fun c hc => ?_, by rintro rfl; exact nomatch h1⟩
  have z := List.all_eq_true.mp h2 c hc
  rw [Bool.and_eq_true, decide_eq_true_eq, decide_eq_true_eq] at z
  exact z
/-- removeprefix('-') -/
def unsig : List Nat → List Nat
  | 45 :: r => r
  | a => a
theorem rmp_S (a : List Nat) (ha : a ≠ [45]) : Txt.removeprefix (S a) (S [45]) = S (unsig a) := by
  rw [StrLaws.removeprefix_eq]
  have e : ∀ l : List Nat, Builtin.Str.subAt (S l) (S [45]) 0 = (match l with
    | c :: _ => decide (45 = c)
    | [] => false) := fun l => by
    rw [StrLaws.subAt_eq]
    cases l with
    | nil => decide +kernel
    | cons c r =>
      show (((c :: r).drop 0).take 1 == [45]) = _
      simp [eq_comm]
      try rfl
  cases a with
  | nil => decide +kernel
  | cons c r =>
    rw [e (c :: r)]
    have hl : decide (0 + (S [45]).length ≤ (S (c :: r)).length) = true := by
      rw [S_len, S_len]
      simp
    rw [hl, Bool.true_and]
    by_cases h : 45 = c
    · subst h
      show (if decide ((45 : Nat) = 45) = true then _ else _) = _
      rw [if_pos (by decide)]
      refine TL.ext_tl ?_
      show (((45 :: r).drop (S [45]).length).take ((S (45 :: r)).length - (S [45]).length)) = r
      rw [S_len, S_len]
      simp
    · have hu : unsig (c :: r) = c :: r := by
        unfold unsig
        split
        · rename_i z
          have := (List.cons.inj z).1
          exact absurd this.symm h
        · rfl
      show (if decide (45 = c) = true then _ else _) = _
      rw [decide_eq_false h, if_neg Bool.false_ne_true, hu]
theorem unsig_i (z : Int) : unsig (iL z) = numL z.natAbs := by
  unfold iL
  split
  · rfl
  · have h := numL_all z.natAbs
    cases e : numL z.natAbs with
    | nil => rfl
    | cons c r =>
      have := h c (by rw [e]; exact List.mem_cons_self)
      unfold unsig
      split
      · rename_i z
        have := (List.cons.inj z).1
        omega
      · rfl
theorem iL_ne45 (z : Int) : iL z ≠ [45] := fun h => by
  have e := unsig_i z
  rw [h] at e
  exact TL.numL_ne _ e.symm
theorem num_len {n : Nat} (h : n < 2 ^ 1000) : (numL n).length ≤ 302 := TL.numL_len (by decide) (Nat.lt_of_lt_of_le h (by decide +kernel))
theorem i_len {z : Int} (h : z.natAbs < 2 ^ 1000) : (iL z).length ≤ 303 := by
  unfold iL
  have := num_len h
  split
  · rw [List.length_cons]; omega
  · omega
theorem int_i {z : Int} (h : z.natAbs < 2 ^ 1000) : intText? (S (iL z)) = some z := by
  have hl := num_len h
  unfold iL
  split
  · rename_i hz
    have e := PySem.intText_neg (x := S (45 :: numL z.natAbs)) (cs := numL z.natAbs) rfl (numL_all _) (TL.numL_ne _) (by rw [S_len, List.length_cons]; omega)
    rw [TL.numL_val] at e
    rw [e]
    congr 1
    omega
  · rename_i hz
    have e := PySem.intText_digits (x := S (numL z.natAbs)) (numL_all _) (TL.numL_ne _) (by rw [S_len]; omega)
    have e2 : (S (numL z.natAbs)).cps.toList = numL z.natAbs := rfl
    rw [e2, TL.numL_val] at e
    rw [e]
    congr 1
    omega
/-- the text of a fraction -/
def fL (t b : Int) : List Nat := if b = 1 then iL t else iL t ++ 47 :: iL b
theorem iL_inj {x y : Int} (h : iL x = iL y) : x = y := by
  have hu := congrArg unsig h
  rw [unsig_i, unsig_i] at hu
  have e := TL.numL_inj hu
  by_cases hx : x < 0 <;> by_cases hy : y < 0
  · omega
  · exfalso
    unfold iL at h
    rw [if_pos hx, if_neg hy] at h
    have := numL_all y.natAbs 45 (by rw [← h]; exact List.mem_cons_self)
    omega
  · exfalso
    unfold iL at h
    rw [if_neg hx, if_pos hy] at h
    have := numL_all x.natAbs 45 (by rw [h]; exact List.mem_cons_self)
    omega
  · omega
theorem f_len {t b : Int} (h1 : t.natAbs < 2 ^ 1000) (h2 : b.natAbs < 2 ^ 1000) : (fL t b).length ≤ 610 := by
  have a := i_len h1
  have c := i_len h2
  unfold fL
  split
  · omega
  · rw [List.length_append, List.length_cons]; omega
theorem fL_inj {t b u c : Int} (h : fL t b = fL u c) : t = u ∧ b = c := by
  unfold fL at h
  by_cases hb : b = 1 <;> by_cases hc : c = 1
  · rw [if_pos hb, if_pos hc] at h
    exact ⟨iL_inj h, by omega⟩
  · rw [if_pos hb, if_neg hc] at h
    exact absurd (by rw [h]; simp) (iL_free (z := t))
  · rw [if_neg hb, if_pos hc] at h
    exact absurd (by rw [← h]; simp) (iL_free (z := u))
  · rw [if_neg hb, if_neg hc] at h
    have p1 := par_some 47 (iL b) (iL t) [] iL_free
    have p2 := par_some 47 (iL c) (iL u) [] iL_free
    rw [h, p2] at p1
    have := Prod.mk.inj (Option.some.inj p1)
    exact ⟨(iL_inj this.1).symm, (iL_inj this.2).symm⟩
end NumT

namespace Hk
open PySem PySem.Spec PyProof.Rows L2 NumM NumT SX
/-- codes below 128 -/
def Asc (x : Str) : Prop := ∀ c ∈ x.cps.toList, c < 128
theorem Asc.app {x y : Str} (h : Asc x) (g : Asc y) : Asc (x ++ y) := fun c hc => by
  rw [show (x ++ y).cps.toList = x.cps.toList ++ y.cps.toList from TL.tl_append x y] at hc
  rcases List.mem_append.mp hc with z | z
  · exact h c z
  · exact g c z
theorem Asc.ok {x : Str} (h : Asc x) : PyData.strOk x = true := by
  unfold PyData.strOk
  rw [← Array.all_toList, List.all_eq_true]
  intro c hc
  have := h c hc
  exact decide_eq_true (by omega)
theorem char_asc (q c : Nat) (hq : q = 39 ∨ q = 34) (hc : c < 128) : ∀ d ∈ Builtin.Str.reprChar q c, d < 128 := by
  have k : ∀ n : _root_.Fin 128, ((Builtin.Str.reprChar 39 n.val).all (fun d => decide (d < 128)) && (Builtin.Str.reprChar 34 n.val).all (fun d => decide (d < 128))) = true := by decide +kernel
  have h := k ⟨c, hc⟩
  obtain ⟨h1, h2⟩ := Bool.and_eq_true_iff.mp h
  intro d hd
  rcases hq with rfl | rfl
  · exact of_decide_eq_true (List.all_eq_true.mp h1 d hd)
  · exact of_decide_eq_true (List.all_eq_true.mp h2 d hd)
theorem fold_asc (q : Nat) (hq : q = 39 ∨ q = 34) : ∀ (l : List Nat) (acc : Array Nat), (∀ c ∈ l, c < 128) → (∀ c ∈ acc.toList, c < 128) → ∀ c ∈ (l.foldl (fun out c => out ++ (Builtin.Str.reprChar q c).toArray) acc).toList, c < 128
  | [], acc, _, h => h
  | x :: r, acc, hl, h => by
    rw [List.foldl_cons]
    refine fold_asc q hq r _ (fun c hc => hl c (List.mem_cons_of_mem _ hc)) fun c hc => ?_
    rw [Array.toList_append] at hc
    rcases List.mem_append.mp hc with z | z
    · exact h c z
    · exact char_asc q x hq (hl x List.mem_cons_self) c (by simpa using z)
theorem repr_asc {x : Str} (h : Asc x) : Asc (reprText x) := by
  have hq : reprQuote x = 39 ∨ reprQuote x = 34 := by
    unfold reprQuote
    split <;> simp
  intro c hc
  unfold reprText at hc
  rw [Array.toList_push] at hc
  rcases List.mem_append.mp hc with z | z
  · rw [← Array.foldl_toList] at z
    refine fold_asc _ hq x.cps.toList _ h (fun d hd => ?_) c z
    have : d = reprQuote x := by simpa using hd
    rw [this]
    rcases hq with e | e <;> rw [e] <;> decide
  · have : c = reprQuote x := by simpa using z
    rw [this]
    rcases hq with e | e <;> rw [e] <;> decide
theorem lit_asc {x : Str} (h : x.cps.toList.all (fun c => decide (c < 128)) = true) : Asc x := fun c hc => of_decide_eq_true (List.all_eq_true.mp h c hc)
theorem join_asc {s : Str} {ts : List Str} (hs : Asc s) (h : ∀ t ∈ ts, Asc t) : Asc (Str.join s ts) := fun c hc => by
  rcases (mem_join s c ts).mp hc with ⟨t, ht, z⟩ | ⟨_, z⟩
  · exact h t ht c z
  · exact hs c z
theorem S_asc {a : List Nat} (h : ∀ c ∈ a, c < 128) : Asc (S a) := h
theorem int_asc (i : Int) : Asc ((toString i : String) : Str) := by
  rw [toS]
  intro c hc
  have hc : c ∈ iL i := hc
  unfold iL at hc
  split at hc
  · rcases List.mem_cons.mp hc with h | h
    · omega
    · have := numL_all _ c h; omega
  · have := numL_all _ c hc; omega
mutual
/-- all texts in it have codes below 128 -/
def ascD : PyData → Prop
  | .str x => Asc x
  | .list xs => ascDs xs
  | .tuple xs => ascDs xs
  | .dict _ => False
  | _ => True
def ascDs : List PyData → Prop
  | [] => True
  | x :: xs => ascD x ∧ ascDs xs
end
mutual
theorem shown_asc : ∀ d : PyData, ascD d → Asc d.shown
  | .none, _ => lit_asc (by decide +kernel)
  | .bool b, _ => by cases b <;> exact lit_asc (by decide +kernel)
  | .int i, _ => by rw [PyData.shown_int]; exact int_asc i
  | .str x, h => by
    rw [PyData.shown_str]
    simp only [ascD] at h
    exact repr_asc h
  | .list xs, h => by
    simp only [ascD] at h
    rw [PyData.shown_list]
    exact ((lit_asc (by decide +kernel)).app (join_asc (lit_asc (by decide +kernel)) (shownAll_asc xs h))).app (lit_asc (by decide +kernel))
  | .tuple xs, h => by
    simp only [ascD] at h
    rw [PyData.shown_tuple]
    refine ((lit_asc (by decide +kernel)).app (join_asc (lit_asc (by decide +kernel)) (shownAll_asc xs h))).app ?_
    split <;> exact lit_asc (by decide +kernel)
  | .dict _, h => by simp only [ascD] at h
theorem shownAll_asc : ∀ xs : List PyData, ascDs xs → ∀ t ∈ PyData.shownAll xs, Asc t
  | [], _ => by
    rw [PyData.shownAll_nil]
    intro t ht
    exact absurd ht (List.not_mem_nil)
  | x :: xs, h => by
    simp only [ascDs] at h
    rw [PyData.shownAll_cons]
    intro t ht
    rcases List.mem_cons.mp ht with e | e
    · rw [e]; exact shown_asc x h.1
    · exact shownAll_asc xs h.2 t e
end
end Hk

namespace K01
open PySem PySem.Spec PyProof.Rows L2 Hk
def top (i : Nat) : Stmt := PySem.Challenge.pw_delaynets_k01_numbers_made.main.body.getD i (.Pass ⟨0, 0, 0, 0⟩)
abbrev s_wall : Stmt := top 1
def d_wall : Dx := ⟨gAd "_wall", "_wall", "_wall", s_wall, []⟩
theorem sc_wall : FnScope ["k"] ["k"] (defScope s_wall) := ⟨rfl, rfl, rfl, by decide +kernel, rfl, by decide +kernel, by decide +kernel⟩
abbrev s_InvalidText_init : Stmt := inClass (top 4) 0
def d_InvalidText_init : Dx := ⟨mAd "InvalidText" "__init__", "__init__", "InvalidText.__init__", s_InvalidText_init, []⟩
theorem sc_InvalidText_init : FnScope ["self", "value"] ["self", "value"] (defScope s_InvalidText_init) := ⟨rfl, rfl, rfl, by decide +kernel, rfl, by decide +kernel, by decide +kernel⟩
abbrev s_InvalidCount_init : Stmt := inClass (top 5) 0
def d_InvalidCount_init : Dx := ⟨mAd "InvalidCount" "__init__", "__init__", "InvalidCount.__init__", s_InvalidCount_init, []⟩
theorem sc_InvalidCount_init : FnScope ["self", "value"] ["self", "value"] (defScope s_InvalidCount_init) := ⟨rfl, rfl, rfl, by decide +kernel, rfl, by decide +kernel, by decide +kernel⟩
abbrev s_NotANumber_init : Stmt := inClass (top 6) 0
def d_NotANumber_init : Dx := ⟨mAd "NotANumber" "__init__", "__init__", "NotANumber.__init__", s_NotANumber_init, []⟩
theorem sc_NotANumber_init : FnScope ["self", "value"] ["self", "value"] (defScope s_NotANumber_init) := ⟨rfl, rfl, rfl, by decide +kernel, rfl, by decide +kernel, by decide +kernel⟩
abbrev s_is_integer : Stmt := top 11
def d_is_integer : Dx := ⟨gAd "is_integer", "is_integer", "is_integer", s_is_integer, []⟩
theorem sc_is_integer : FnScope ["value"] ["value"] (defScope s_is_integer) := ⟨rfl, rfl, rfl, by decide +kernel, rfl, by decide +kernel, by decide +kernel⟩
abbrev s_as_number : Stmt := top 12
def d_as_number : Dx := ⟨gAd "as_number", "as_number", "as_number", s_as_number, []⟩
theorem sc_as_number : FnScope ["value"] ["value"] (defScope s_as_number) := ⟨rfl, rfl, rfl, by decide +kernel, rfl, by decide +kernel, by decide +kernel⟩
abbrev s_Number_init : Stmt := inClass (top 13) 0
def d_Number_init : Dx := ⟨mAd "Number" "__init__", "__init__", "Number.__init__", s_Number_init, [.int 1]⟩
theorem sc_Number_init : FnScope ["self", "top", "bottom", "shared"] ["self", "top", "bottom"] (defScope s_Number_init) := ⟨rfl, rfl, rfl, by decide +kernel, rfl, by decide +kernel, by decide +kernel⟩
abbrev s_Number_read : Stmt := inClass (top 13) 1
def d_Number_read : Dx := ⟨statAd "Number" "read", "read", "Number.read", s_Number_read, []⟩
theorem sc_Number_read : FnScope ["text", "number"] ["text"] (defScope s_Number_read) := ⟨rfl, rfl, rfl, by decide +kernel, rfl, by decide +kernel, by decide +kernel⟩
abbrev s_Number_top : Stmt := inClass (top 13) 2
def d_Number_top : Dx := ⟨getAd "Number" "top", "top", "Number.top", s_Number_top, []⟩
theorem sc_Number_top : FnScope ["self"] ["self"] (defScope s_Number_top) := ⟨rfl, rfl, rfl, by decide +kernel, rfl, by decide +kernel, by decide +kernel⟩
abbrev s_Number_bottom : Stmt := inClass (top 13) 3
def d_Number_bottom : Dx := ⟨getAd "Number" "bottom", "bottom", "Number.bottom", s_Number_bottom, []⟩
theorem sc_Number_bottom : FnScope ["self"] ["self"] (defScope s_Number_bottom) := ⟨rfl, rfl, rfl, by decide +kernel, rfl, by decide +kernel, by decide +kernel⟩
abbrev s_Number_sign : Stmt := inClass (top 13) 4
def d_Number_sign : Dx := ⟨getAd "Number" "sign", "sign", "Number.sign", s_Number_sign, []⟩
theorem sc_Number_sign : FnScope ["self"] ["self"] (defScope s_Number_sign) := ⟨rfl, rfl, rfl, by decide +kernel, rfl, by decide +kernel, by decide +kernel⟩
abbrev s_Number_over : Stmt := inClass (top 13) 5
def d_Number_over : Dx := ⟨mAd "Number" "over", "over", "Number.over", s_Number_over, []⟩
theorem sc_Number_over : FnScope ["self", "other"] ["self", "other"] (defScope s_Number_over) := ⟨rfl, rfl, rfl, by decide +kernel, rfl, by decide +kernel, by decide +kernel⟩
abbrev s_Number_add : Stmt := inClass (top 13) 6
def d_Number_add : Dx := ⟨mAd "Number" "__add__", "__add__", "Number.__add__", s_Number_add, []⟩
theorem sc_Number_add : FnScope ["self", "other", "right"] ["self", "other"] (defScope s_Number_add) := ⟨rfl, rfl, rfl, by decide +kernel, rfl, by decide +kernel, by decide +kernel⟩
abbrev s_Number_radd : Stmt := inClass (top 13) 7
def d_Number_radd : Dx := ⟨mAd "Number" "__radd__", "__radd__", "Number.__radd__", s_Number_radd, []⟩
theorem sc_Number_radd : FnScope ["self", "other"] ["self", "other"] (defScope s_Number_radd) := ⟨rfl, rfl, rfl, by decide +kernel, rfl, by decide +kernel, by decide +kernel⟩
abbrev s_Number_sub : Stmt := inClass (top 13) 8
def d_Number_sub : Dx := ⟨mAd "Number" "__sub__", "__sub__", "Number.__sub__", s_Number_sub, []⟩
theorem sc_Number_sub : FnScope ["self", "other", "right"] ["self", "other"] (defScope s_Number_sub) := ⟨rfl, rfl, rfl, by decide +kernel, rfl, by decide +kernel, by decide +kernel⟩
abbrev s_Number_rsub : Stmt := inClass (top 13) 9
def d_Number_rsub : Dx := ⟨mAd "Number" "__rsub__", "__rsub__", "Number.__rsub__", s_Number_rsub, []⟩
theorem sc_Number_rsub : FnScope ["self", "other"] ["self", "other"] (defScope s_Number_rsub) := ⟨rfl, rfl, rfl, by decide +kernel, rfl, by decide +kernel, by decide +kernel⟩
abbrev s_Number_mul : Stmt := inClass (top 13) 10
def d_Number_mul : Dx := ⟨mAd "Number" "__mul__", "__mul__", "Number.__mul__", s_Number_mul, []⟩
theorem sc_Number_mul : FnScope ["self", "other", "right"] ["self", "other"] (defScope s_Number_mul) := ⟨rfl, rfl, rfl, by decide +kernel, rfl, by decide +kernel, by decide +kernel⟩
abbrev s_Number_rmul : Stmt := inClass (top 13) 11
def d_Number_rmul : Dx := ⟨mAd "Number" "__rmul__", "__rmul__", "Number.__rmul__", s_Number_rmul, []⟩
theorem sc_Number_rmul : FnScope ["self", "other"] ["self", "other"] (defScope s_Number_rmul) := ⟨rfl, rfl, rfl, by decide +kernel, rfl, by decide +kernel, by decide +kernel⟩
abbrev s_Number_neg : Stmt := inClass (top 13) 12
def d_Number_neg : Dx := ⟨mAd "Number" "__neg__", "__neg__", "Number.__neg__", s_Number_neg, []⟩
theorem sc_Number_neg : FnScope ["self"] ["self"] (defScope s_Number_neg) := ⟨rfl, rfl, rfl, by decide +kernel, rfl, by decide +kernel, by decide +kernel⟩
abbrev s_Number_abs : Stmt := inClass (top 13) 13
def d_Number_abs : Dx := ⟨mAd "Number" "__abs__", "__abs__", "Number.__abs__", s_Number_abs, []⟩
theorem sc_Number_abs : FnScope ["self"] ["self"] (defScope s_Number_abs) := ⟨rfl, rfl, rfl, by decide +kernel, rfl, by decide +kernel, by decide +kernel⟩
abbrev s_Number_pow : Stmt := inClass (top 13) 14
def d_Number_pow : Dx := ⟨mAd "Number" "__pow__", "__pow__", "Number.__pow__", s_Number_pow, []⟩
theorem sc_Number_pow : FnScope ["self", "other", "power", "_"] ["self", "other"] (defScope s_Number_pow) := ⟨rfl, rfl, rfl, by decide +kernel, rfl, by decide +kernel, by decide +kernel⟩
abbrev s_Number_eq : Stmt := inClass (top 13) 15
def d_Number_eq : Dx := ⟨mAd "Number" "__eq__", "__eq__", "Number.__eq__", s_Number_eq, []⟩
theorem sc_Number_eq : FnScope ["self", "other"] ["self", "other"] (defScope s_Number_eq) := ⟨rfl, rfl, rfl, by decide +kernel, rfl, by decide +kernel, by decide +kernel⟩
abbrev s_Number_str : Stmt := inClass (top 13) 16
def d_Number_str : Dx := ⟨mAd "Number" "__str__", "__str__", "Number.__str__", s_Number_str, []⟩
theorem sc_Number_str : FnScope ["self"] ["self"] (defScope s_Number_str) := ⟨rfl, rfl, rfl, by decide +kernel, rfl, by decide +kernel, by decide +kernel⟩
abbrev s_Number_repr : Stmt := inClass (top 13) 17
def d_Number_repr : Dx := ⟨mAd "Number" "__repr__", "__repr__", "Number.__repr__", s_Number_repr, []⟩
theorem sc_Number_repr : FnScope ["self"] ["self"] (defScope s_Number_repr) := ⟨rfl, rfl, rfl, by decide +kernel, rfl, by decide +kernel, by decide +kernel⟩
abbrev s_number_in : Stmt := top 14
def d_number_in : Dx := ⟨gAd "_number_in", "_number_in", "_number_in", s_number_in, []⟩
theorem sc_number_in : FnScope ["text", "top", "slash", "bottom"] ["text"] (defScope s_number_in) := ⟨rfl, rfl, rfl, by decide +kernel, rfl, by decide +kernel, by decide +kernel⟩
abbrev s_is_digits : Stmt := top 15
def d_is_digits : Dx := ⟨gAd "_is_digits", "_is_digits", "_is_digits", s_is_digits, []⟩
theorem sc_is_digits : FnScope ["text"] ["text"] (defScope s_is_digits) := ⟨rfl, rfl, rfl, by decide +kernel, rfl, by decide +kernel, by decide +kernel⟩
abbrev s_l_spring : Stmt := top 17
def d_l_spring : Dx := ⟨gAd "_law_spring", "_law_spring", "_law_spring", s_l_spring, []⟩
theorem sc_l_spring : FnScope ["_law_script", "_law_spot", "_law_mixed", "_law_at", "_law_own", "_law_digits"] ["_law_script", "_law_spot"] (defScope s_l_spring) := ⟨rfl, rfl, rfl, by decide +kernel, rfl, by decide +kernel, by decide +kernel⟩
abbrev s_l_next : Stmt := top 18
def d_l_next : Dx := ⟨gAd "_law_next", "_law_next", "_law_next", s_l_next, []⟩
theorem sc_l_next : FnScope ["_law_spring_here", "_law_many", "_law_digit", "_law_state"] ["_law_spring_here", "_law_many"] (defScope s_l_next) := ⟨rfl, rfl, rfl, by decide +kernel, rfl, by decide +kernel, by decide +kernel⟩
abbrev s_l_one : Stmt := top 19
def d_l_one : Dx := ⟨gAd "_law_one", "_law_one", "_law_one", s_l_one, []⟩
theorem sc_l_one : FnScope ["_law_spring_here", "_law_things"] ["_law_spring_here", "_law_things"] (defScope s_l_one) := ⟨rfl, rfl, rfl, by decide +kernel, rfl, by decide +kernel, by decide +kernel⟩
abbrev s_l_low : Stmt := top 20
def d_l_low : Dx := ⟨gAd "_law_low", "_law_low", "_law_low", s_l_low, []⟩
theorem sc_l_low : FnScope ["_law_head", "_law_base", "_law_one_here", "_law_two", "_law_sign"] ["_law_head", "_law_base"] (defScope s_l_low) := ⟨rfl, rfl, rfl, by decide +kernel, rfl, by decide +kernel, by decide +kernel⟩
abbrev s_l_written : Stmt := top 21
def d_l_written : Dx := ⟨gAd "_law_written", "_law_written", "_law_written", s_l_written, []⟩
theorem sc_l_written : FnScope ["_law_pair"] ["_law_pair"] (defScope s_l_written) := ⟨rfl, rfl, rfl, by decide +kernel, rfl, by decide +kernel, by decide +kernel⟩
abbrev s_l_parts : Stmt := top 22
def d_l_parts : Dx := ⟨gAd "_law_parts", "_law_parts", "_law_parts", s_l_parts, []⟩
theorem sc_l_parts : FnScope ["_law_spring_here", "_law_way", "_law_head"] ["_law_spring_here"] (defScope s_l_parts) := ⟨rfl, rfl, rfl, by decide +kernel, rfl, by decide +kernel, by decide +kernel⟩
abbrev s_l_seen : Stmt := top 23
def d_l_seen : Dx := ⟨gAd "_law_seen", "_law_seen", "_law_seen", s_l_seen, []⟩
theorem sc_l_seen : FnScope ["_law_number"] ["_law_number"] (defScope s_l_seen) := ⟨rfl, rfl, rfl, by decide +kernel, rfl, by decide +kernel, by decide +kernel⟩
abbrev s_l_due : Stmt := top 24
def d_l_due : Dx := ⟨gAd "_law_due", "_law_due", "_law_due", s_l_due, []⟩
theorem sc_l_due : FnScope ["_law_pair", "_law_sign"] ["_law_pair"] (defScope s_l_due) := ⟨rfl, rfl, rfl, by decide +kernel, rfl, by decide +kernel, by decide +kernel⟩
abbrev s_l_right : Stmt := top 25
def d_l_right : Dx := ⟨gAd "_law_right", "_law_right", "_law_right", s_l_right, []⟩
theorem sc_l_right : FnScope ["_law_spring_here", "_law_head", "_law_base", "_law_pair", "_law_many", "_law_number", "_law_twin", "_law_due_here", "_law_each", "_law_far", "_law_low_here", "_law_told"] ["_law_spring_here"] (defScope s_l_right) := ⟨rfl, rfl, rfl, by decide +kernel, rfl, by decide +kernel, by decide +kernel⟩
abbrev s_law : Stmt := top 26
def d_law : Dx := ⟨gAd "law", "law", "law", s_law, []⟩
theorem sc_law : FnScope ["_law_script", "_law_spot", "_law_spring_here", "_law_turn"] ["_law_script"] (defScope s_law) := ⟨rfl, rfl, rfl, by decide +kernel, rfl, by decide +kernel, by decide +kernel⟩
def FN : List Dx := [d_wall, d_InvalidText_init, d_InvalidCount_init, d_NotANumber_init, d_is_integer, d_as_number, d_Number_init, d_Number_read, d_Number_top, d_Number_bottom, d_Number_sign, d_Number_over, d_Number_add, d_Number_radd, d_Number_sub, d_Number_rsub, d_Number_mul, d_Number_rmul, d_Number_neg, d_Number_abs, d_Number_pow, d_Number_eq, d_Number_str, d_Number_repr, d_number_in, d_is_digits, d_l_spring, d_l_next, d_l_one, d_l_low, d_l_written, d_l_parts, d_l_seen, d_l_due, d_l_right, d_law]
def FA : List Tst := [tGlo "_wall",
  tGlo "is_integer",
  tGlo "as_number",
  tGlo "_number_in",
  tGlo "_is_digits",
  tGlo "_law_spring",
  tGlo "_law_next",
  tGlo "_law_one",
  tGlo "_law_low",
  tGlo "_law_written",
  tGlo "_law_parts",
  tGlo "_law_seen",
  tGlo "_law_due",
  tGlo "_law_right",
  tGlo "law",
  tBlt "gcd" "math.gcd",
  tInt "MAX_POWER" 20,
  tFree "RuntimeError",
  tFree "ValueError",
  tFree "abs",
  tFree "all",
  tFree "bool",
  tFree "int",
  tFree "isinstance",
  tFree "len",
  tFree "max",
  tFree "min",
  tFree "property",
  tFree "range",
  tFree "repr",
  tFree "staticmethod",
  tFree "str",
  tGlo "InputError",
  tGlo "InvalidText",
  tGlo "InvalidCount",
  tGlo "NotANumber",
  tGlo "StateError",
  tGlo "DividedByZero",
  tGlo "Number",
  tCls "Number",
  tMkr "Number",
  tNoat "Number" "_top",
  tNoat "Number" "_bottom",
  tProp "Number" "top",
  tProp "Number" "bottom",
  tProp "Number" "sign",
  tMeth "Number" "__init__",
  tMeth "Number" "__str__",
  tMeth "Number" "__repr__",
  tMeth "Number" "__eq__",
  tNe "Number",
  tIns "Number",
  tStat "Number" "read",
  tKitO "Number" "Number" true,
  tKit "int" "Number" false,
  tFst "Number" "int",
  tKit "str" "Number" false,
  tFst "Number" "str",
  tKit "tuple" "Number" false,
  tFst "Number" "tuple",
  tKit "NoneType" "Number" false,
  tFst "Number" "NoneType",
  tFstO "Number"]
abbrev Sy (K : Fr) : Prop := Says FA FN K
theorem f_glo_wall {K : Fr} (c : Sy K) : (tGlo "_wall") K = true := c.tst 0
theorem f_glo_is_integer {K : Fr} (c : Sy K) : (tGlo "is_integer") K = true := c.tst 1
theorem f_glo_as_number {K : Fr} (c : Sy K) : (tGlo "as_number") K = true := c.tst 2
theorem f_glo_number_in {K : Fr} (c : Sy K) : (tGlo "_number_in") K = true := c.tst 3
theorem f_glo_is_digits {K : Fr} (c : Sy K) : (tGlo "_is_digits") K = true := c.tst 4
theorem f_glo_l_spring {K : Fr} (c : Sy K) : (tGlo "_law_spring") K = true := c.tst 5
theorem f_glo_l_next {K : Fr} (c : Sy K) : (tGlo "_law_next") K = true := c.tst 6
theorem f_glo_l_one {K : Fr} (c : Sy K) : (tGlo "_law_one") K = true := c.tst 7
theorem f_glo_l_low {K : Fr} (c : Sy K) : (tGlo "_law_low") K = true := c.tst 8
theorem f_glo_l_written {K : Fr} (c : Sy K) : (tGlo "_law_written") K = true := c.tst 9
theorem f_glo_l_parts {K : Fr} (c : Sy K) : (tGlo "_law_parts") K = true := c.tst 10
theorem f_glo_l_seen {K : Fr} (c : Sy K) : (tGlo "_law_seen") K = true := c.tst 11
theorem f_glo_l_due {K : Fr} (c : Sy K) : (tGlo "_law_due") K = true := c.tst 12
theorem f_glo_l_right {K : Fr} (c : Sy K) : (tGlo "_law_right") K = true := c.tst 13
theorem f_glo_law {K : Fr} (c : Sy K) : (tGlo "law") K = true := c.tst 14
theorem f_blt_gcd {K : Fr} (c : Sy K) : (tBlt "gcd" "math.gcd") K = true := c.tst 15
theorem f_int_MAX_POWER {K : Fr} (c : Sy K) : (tInt "MAX_POWER" 20) K = true := c.tst 16
theorem f_free_RuntimeError {K : Fr} (c : Sy K) : (tFree "RuntimeError") K = true := c.tst 17
theorem f_free_ValueError {K : Fr} (c : Sy K) : (tFree "ValueError") K = true := c.tst 18
theorem f_free_abs {K : Fr} (c : Sy K) : (tFree "abs") K = true := c.tst 19
theorem f_free_all {K : Fr} (c : Sy K) : (tFree "all") K = true := c.tst 20
theorem f_free_bool {K : Fr} (c : Sy K) : (tFree "bool") K = true := c.tst 21
theorem f_free_int {K : Fr} (c : Sy K) : (tFree "int") K = true := c.tst 22
theorem f_free_isinstance {K : Fr} (c : Sy K) : (tFree "isinstance") K = true := c.tst 23
theorem f_free_len {K : Fr} (c : Sy K) : (tFree "len") K = true := c.tst 24
theorem f_free_max {K : Fr} (c : Sy K) : (tFree "max") K = true := c.tst 25
theorem f_free_min {K : Fr} (c : Sy K) : (tFree "min") K = true := c.tst 26
theorem f_free_property {K : Fr} (c : Sy K) : (tFree "property") K = true := c.tst 27
theorem f_free_range {K : Fr} (c : Sy K) : (tFree "range") K = true := c.tst 28
theorem f_free_repr {K : Fr} (c : Sy K) : (tFree "repr") K = true := c.tst 29
theorem f_free_staticmethod {K : Fr} (c : Sy K) : (tFree "staticmethod") K = true := c.tst 30
theorem f_free_str {K : Fr} (c : Sy K) : (tFree "str") K = true := c.tst 31
theorem f_glo_InputError {K : Fr} (c : Sy K) : (tGlo "InputError") K = true := c.tst 32
theorem f_glo_InvalidText {K : Fr} (c : Sy K) : (tGlo "InvalidText") K = true := c.tst 33
theorem f_glo_InvalidCount {K : Fr} (c : Sy K) : (tGlo "InvalidCount") K = true := c.tst 34
theorem f_glo_NotANumber {K : Fr} (c : Sy K) : (tGlo "NotANumber") K = true := c.tst 35
theorem f_glo_StateError {K : Fr} (c : Sy K) : (tGlo "StateError") K = true := c.tst 36
theorem f_glo_DividedByZero {K : Fr} (c : Sy K) : (tGlo "DividedByZero") K = true := c.tst 37
theorem f_glo_Number {K : Fr} (c : Sy K) : (tGlo "Number") K = true := c.tst 38
theorem f_cls_Number {K : Fr} (c : Sy K) : (tCls "Number") K = true := c.tst 39
theorem f_mkr_Number {K : Fr} (c : Sy K) : (tMkr "Number") K = true := c.tst 40
theorem f_noat_top {K : Fr} (c : Sy K) : (tNoat "Number" "_top") K = true := c.tst 41
theorem f_noat_bot {K : Fr} (c : Sy K) : (tNoat "Number" "_bottom") K = true := c.tst 42
theorem f_prop_top {K : Fr} (c : Sy K) : (tProp "Number" "top") K = true := c.tst 43
theorem f_prop_bottom {K : Fr} (c : Sy K) : (tProp "Number" "bottom") K = true := c.tst 44
theorem f_prop_sign {K : Fr} (c : Sy K) : (tProp "Number" "sign") K = true := c.tst 45
theorem f_meth_init {K : Fr} (c : Sy K) : (tMeth "Number" "__init__") K = true := c.tst 46
theorem f_meth_str {K : Fr} (c : Sy K) : (tMeth "Number" "__str__") K = true := c.tst 47
theorem f_meth_repr {K : Fr} (c : Sy K) : (tMeth "Number" "__repr__") K = true := c.tst 48
theorem f_meth_eq {K : Fr} (c : Sy K) : (tMeth "Number" "__eq__") K = true := c.tst 49
theorem f_ne {K : Fr} (c : Sy K) : (tNe "Number") K = true := c.tst 50
theorem f_ins {K : Fr} (c : Sy K) : (tIns "Number") K = true := c.tst 51
theorem f_stat_read {K : Fr} (c : Sy K) : (tStat "Number" "read") K = true := c.tst 52
theorem f_kitO {K : Fr} (c : Sy K) : (tKitO "Number" "Number" true) K = true := c.tst 53
theorem f_kit_int {K : Fr} (c : Sy K) : (tKit "int" "Number" false) K = true := c.tst 54
theorem f_fst_int {K : Fr} (c : Sy K) : (tFst "Number" "int") K = true := c.tst 55
theorem f_kit_str {K : Fr} (c : Sy K) : (tKit "str" "Number" false) K = true := c.tst 56
theorem f_fst_str {K : Fr} (c : Sy K) : (tFst "Number" "str") K = true := c.tst 57
theorem f_kit_tuple {K : Fr} (c : Sy K) : (tKit "tuple" "Number" false) K = true := c.tst 58
theorem f_fst_tuple {K : Fr} (c : Sy K) : (tFst "Number" "tuple") K = true := c.tst 59
theorem f_kit_NoneType {K : Fr} (c : Sy K) : (tKit "NoneType" "Number" false) K = true := c.tst 60
theorem f_fst_NoneType {K : Fr} (c : Sy K) : (tFst "Number" "NoneType") K = true := c.tst 61
theorem f_fstO {K : Fr} (c : Sy K) : (tFstO "Number") K = true := c.tst 62
structure Tx (K : Fr) (mg : Str → Option Value) : Prop where
  c : Sy K
  g : ∃ h, K.In h ∧ h.Ns mainGlobals mg
theorem g_wall {K : Fr} {mg : Str → Option Value} (T : Tx K mg) : mg "_wall" = some (.ref (gAd "_wall" K)) := by
  obtain ⟨h, X, G⟩ := T.g
  exact He.glo_ok X G (f_glo_wall T.c)
theorem g_is_integer {K : Fr} {mg : Str → Option Value} (T : Tx K mg) : mg "is_integer" = some (.ref (gAd "is_integer" K)) := by
  obtain ⟨h, X, G⟩ := T.g
  exact He.glo_ok X G (f_glo_is_integer T.c)
theorem g_as_number {K : Fr} {mg : Str → Option Value} (T : Tx K mg) : mg "as_number" = some (.ref (gAd "as_number" K)) := by
  obtain ⟨h, X, G⟩ := T.g
  exact He.glo_ok X G (f_glo_as_number T.c)
theorem g_number_in {K : Fr} {mg : Str → Option Value} (T : Tx K mg) : mg "_number_in" = some (.ref (gAd "_number_in" K)) := by
  obtain ⟨h, X, G⟩ := T.g
  exact He.glo_ok X G (f_glo_number_in T.c)
theorem g_is_digits {K : Fr} {mg : Str → Option Value} (T : Tx K mg) : mg "_is_digits" = some (.ref (gAd "_is_digits" K)) := by
  obtain ⟨h, X, G⟩ := T.g
  exact He.glo_ok X G (f_glo_is_digits T.c)
theorem g_l_spring {K : Fr} {mg : Str → Option Value} (T : Tx K mg) : mg "_law_spring" = some (.ref (gAd "_law_spring" K)) := by
  obtain ⟨h, X, G⟩ := T.g
  exact He.glo_ok X G (f_glo_l_spring T.c)
theorem g_l_next {K : Fr} {mg : Str → Option Value} (T : Tx K mg) : mg "_law_next" = some (.ref (gAd "_law_next" K)) := by
  obtain ⟨h, X, G⟩ := T.g
  exact He.glo_ok X G (f_glo_l_next T.c)
theorem g_l_one {K : Fr} {mg : Str → Option Value} (T : Tx K mg) : mg "_law_one" = some (.ref (gAd "_law_one" K)) := by
  obtain ⟨h, X, G⟩ := T.g
  exact He.glo_ok X G (f_glo_l_one T.c)
theorem g_l_low {K : Fr} {mg : Str → Option Value} (T : Tx K mg) : mg "_law_low" = some (.ref (gAd "_law_low" K)) := by
  obtain ⟨h, X, G⟩ := T.g
  exact He.glo_ok X G (f_glo_l_low T.c)
theorem g_l_written {K : Fr} {mg : Str → Option Value} (T : Tx K mg) : mg "_law_written" = some (.ref (gAd "_law_written" K)) := by
  obtain ⟨h, X, G⟩ := T.g
  exact He.glo_ok X G (f_glo_l_written T.c)
theorem g_l_parts {K : Fr} {mg : Str → Option Value} (T : Tx K mg) : mg "_law_parts" = some (.ref (gAd "_law_parts" K)) := by
  obtain ⟨h, X, G⟩ := T.g
  exact He.glo_ok X G (f_glo_l_parts T.c)
theorem g_l_seen {K : Fr} {mg : Str → Option Value} (T : Tx K mg) : mg "_law_seen" = some (.ref (gAd "_law_seen" K)) := by
  obtain ⟨h, X, G⟩ := T.g
  exact He.glo_ok X G (f_glo_l_seen T.c)
theorem g_l_due {K : Fr} {mg : Str → Option Value} (T : Tx K mg) : mg "_law_due" = some (.ref (gAd "_law_due" K)) := by
  obtain ⟨h, X, G⟩ := T.g
  exact He.glo_ok X G (f_glo_l_due T.c)
theorem g_l_right {K : Fr} {mg : Str → Option Value} (T : Tx K mg) : mg "_law_right" = some (.ref (gAd "_law_right" K)) := by
  obtain ⟨h, X, G⟩ := T.g
  exact He.glo_ok X G (f_glo_l_right T.c)
theorem g_law {K : Fr} {mg : Str → Option Value} (T : Tx K mg) : mg "law" = some (.ref (gAd "law" K)) := by
  obtain ⟨h, X, G⟩ := T.g
  exact He.glo_ok X G (f_glo_law T.c)
theorem m_gcd {K : Fr} {mg : Str → Option Value} (T : Tx K mg) : mg "gcd" = some (.builtin "math.gcd") := by
  obtain ⟨h, X, G⟩ := T.g
  exact blt_ok X G (f_blt_gcd T.c)
theorem i_MAX_POWER {K : Fr} {mg : Str → Option Value} (T : Tx K mg) : ∃ t, mg "MAX_POWER" = some (.int 20 t) := by
  obtain ⟨h, X, G⟩ := T.g
  exact He.int_ok X G (f_int_MAX_POWER T.c)
theorem n_RuntimeError {K : Fr} {mg : Str → Option Value} (T : Tx K mg) : mg "RuntimeError" = none := by
  obtain ⟨h, X, G⟩ := T.g
  exact He.free_ok X G (f_free_RuntimeError T.c)
theorem n_ValueError {K : Fr} {mg : Str → Option Value} (T : Tx K mg) : mg "ValueError" = none := by
  obtain ⟨h, X, G⟩ := T.g
  exact He.free_ok X G (f_free_ValueError T.c)
theorem n_abs {K : Fr} {mg : Str → Option Value} (T : Tx K mg) : mg "abs" = none := by
  obtain ⟨h, X, G⟩ := T.g
  exact He.free_ok X G (f_free_abs T.c)
theorem n_all {K : Fr} {mg : Str → Option Value} (T : Tx K mg) : mg "all" = none := by
  obtain ⟨h, X, G⟩ := T.g
  exact He.free_ok X G (f_free_all T.c)
theorem n_bool {K : Fr} {mg : Str → Option Value} (T : Tx K mg) : mg "bool" = none := by
  obtain ⟨h, X, G⟩ := T.g
  exact He.free_ok X G (f_free_bool T.c)
theorem n_int {K : Fr} {mg : Str → Option Value} (T : Tx K mg) : mg "int" = none := by
  obtain ⟨h, X, G⟩ := T.g
  exact He.free_ok X G (f_free_int T.c)
theorem n_isinstance {K : Fr} {mg : Str → Option Value} (T : Tx K mg) : mg "isinstance" = none := by
  obtain ⟨h, X, G⟩ := T.g
  exact He.free_ok X G (f_free_isinstance T.c)
theorem n_len {K : Fr} {mg : Str → Option Value} (T : Tx K mg) : mg "len" = none := by
  obtain ⟨h, X, G⟩ := T.g
  exact He.free_ok X G (f_free_len T.c)
theorem n_max {K : Fr} {mg : Str → Option Value} (T : Tx K mg) : mg "max" = none := by
  obtain ⟨h, X, G⟩ := T.g
  exact He.free_ok X G (f_free_max T.c)
theorem n_min {K : Fr} {mg : Str → Option Value} (T : Tx K mg) : mg "min" = none := by
  obtain ⟨h, X, G⟩ := T.g
  exact He.free_ok X G (f_free_min T.c)
theorem n_property {K : Fr} {mg : Str → Option Value} (T : Tx K mg) : mg "property" = none := by
  obtain ⟨h, X, G⟩ := T.g
  exact He.free_ok X G (f_free_property T.c)
theorem n_range {K : Fr} {mg : Str → Option Value} (T : Tx K mg) : mg "range" = none := by
  obtain ⟨h, X, G⟩ := T.g
  exact He.free_ok X G (f_free_range T.c)
theorem n_repr {K : Fr} {mg : Str → Option Value} (T : Tx K mg) : mg "repr" = none := by
  obtain ⟨h, X, G⟩ := T.g
  exact He.free_ok X G (f_free_repr T.c)
theorem n_staticmethod {K : Fr} {mg : Str → Option Value} (T : Tx K mg) : mg "staticmethod" = none := by
  obtain ⟨h, X, G⟩ := T.g
  exact He.free_ok X G (f_free_staticmethod T.c)
theorem n_str {K : Fr} {mg : Str → Option Value} (T : Tx K mg) : mg "str" = none := by
  obtain ⟨h, X, G⟩ := T.g
  exact He.free_ok X G (f_free_str T.c)
theorem g_InputError {K : Fr} {mg : Str → Option Value} (T : Tx K mg) : mg "InputError" = some (.ref (gAd "InputError" K)) := by
  obtain ⟨h, X, G⟩ := T.g
  exact He.glo_ok X G (f_glo_InputError T.c)
theorem g_InvalidText {K : Fr} {mg : Str → Option Value} (T : Tx K mg) : mg "InvalidText" = some (.ref (gAd "InvalidText" K)) := by
  obtain ⟨h, X, G⟩ := T.g
  exact He.glo_ok X G (f_glo_InvalidText T.c)
theorem g_InvalidCount {K : Fr} {mg : Str → Option Value} (T : Tx K mg) : mg "InvalidCount" = some (.ref (gAd "InvalidCount" K)) := by
  obtain ⟨h, X, G⟩ := T.g
  exact He.glo_ok X G (f_glo_InvalidCount T.c)
theorem g_NotANumber {K : Fr} {mg : Str → Option Value} (T : Tx K mg) : mg "NotANumber" = some (.ref (gAd "NotANumber" K)) := by
  obtain ⟨h, X, G⟩ := T.g
  exact He.glo_ok X G (f_glo_NotANumber T.c)
theorem g_StateError {K : Fr} {mg : Str → Option Value} (T : Tx K mg) : mg "StateError" = some (.ref (gAd "StateError" K)) := by
  obtain ⟨h, X, G⟩ := T.g
  exact He.glo_ok X G (f_glo_StateError T.c)
theorem g_DividedByZero {K : Fr} {mg : Str → Option Value} (T : Tx K mg) : mg "DividedByZero" = some (.ref (gAd "DividedByZero" K)) := by
  obtain ⟨h, X, G⟩ := T.g
  exact He.glo_ok X G (f_glo_DividedByZero T.c)
theorem g_Number {K : Fr} {mg : Str → Option Value} (T : Tx K mg) : mg "Number" = some (.ref (gAd "Number" K)) := by
  obtain ⟨h, X, G⟩ := T.g
  exact He.glo_ok X G (f_glo_Number T.c)
theorem a_wall {K : Fr} (c : Sy K) : ∃ fd, DAt K d_wall fd := c.dat 0
theorem a_InvalidText_init {K : Fr} (c : Sy K) : ∃ fd, DAt K d_InvalidText_init fd := c.dat 1
theorem a_InvalidCount_init {K : Fr} (c : Sy K) : ∃ fd, DAt K d_InvalidCount_init fd := c.dat 2
theorem a_NotANumber_init {K : Fr} (c : Sy K) : ∃ fd, DAt K d_NotANumber_init fd := c.dat 3
theorem a_is_integer {K : Fr} (c : Sy K) : ∃ fd, DAt K d_is_integer fd := c.dat 4
theorem a_as_number {K : Fr} (c : Sy K) : ∃ fd, DAt K d_as_number fd := c.dat 5
theorem a_Number_init {K : Fr} (c : Sy K) : ∃ fd, DAt K d_Number_init fd := c.dat 6
theorem a_Number_read {K : Fr} (c : Sy K) : ∃ fd, DAt K d_Number_read fd := c.dat 7
theorem a_Number_top {K : Fr} (c : Sy K) : ∃ fd, DAt K d_Number_top fd := c.dat 8
theorem a_Number_bottom {K : Fr} (c : Sy K) : ∃ fd, DAt K d_Number_bottom fd := c.dat 9
theorem a_Number_sign {K : Fr} (c : Sy K) : ∃ fd, DAt K d_Number_sign fd := c.dat 10
theorem a_Number_over {K : Fr} (c : Sy K) : ∃ fd, DAt K d_Number_over fd := c.dat 11
theorem a_Number_add {K : Fr} (c : Sy K) : ∃ fd, DAt K d_Number_add fd := c.dat 12
theorem a_Number_radd {K : Fr} (c : Sy K) : ∃ fd, DAt K d_Number_radd fd := c.dat 13
theorem a_Number_sub {K : Fr} (c : Sy K) : ∃ fd, DAt K d_Number_sub fd := c.dat 14
theorem a_Number_rsub {K : Fr} (c : Sy K) : ∃ fd, DAt K d_Number_rsub fd := c.dat 15
theorem a_Number_mul {K : Fr} (c : Sy K) : ∃ fd, DAt K d_Number_mul fd := c.dat 16
theorem a_Number_rmul {K : Fr} (c : Sy K) : ∃ fd, DAt K d_Number_rmul fd := c.dat 17
theorem a_Number_neg {K : Fr} (c : Sy K) : ∃ fd, DAt K d_Number_neg fd := c.dat 18
theorem a_Number_abs {K : Fr} (c : Sy K) : ∃ fd, DAt K d_Number_abs fd := c.dat 19
theorem a_Number_pow {K : Fr} (c : Sy K) : ∃ fd, DAt K d_Number_pow fd := c.dat 20
theorem a_Number_eq {K : Fr} (c : Sy K) : ∃ fd, DAt K d_Number_eq fd := c.dat 21
theorem a_Number_str {K : Fr} (c : Sy K) : ∃ fd, DAt K d_Number_str fd := c.dat 22
theorem a_Number_repr {K : Fr} (c : Sy K) : ∃ fd, DAt K d_Number_repr fd := c.dat 23
theorem a_number_in {K : Fr} (c : Sy K) : ∃ fd, DAt K d_number_in fd := c.dat 24
theorem a_is_digits {K : Fr} (c : Sy K) : ∃ fd, DAt K d_is_digits fd := c.dat 25
theorem a_l_spring {K : Fr} (c : Sy K) : ∃ fd, DAt K d_l_spring fd := c.dat 26
theorem a_l_next {K : Fr} (c : Sy K) : ∃ fd, DAt K d_l_next fd := c.dat 27
theorem a_l_one {K : Fr} (c : Sy K) : ∃ fd, DAt K d_l_one fd := c.dat 28
theorem a_l_low {K : Fr} (c : Sy K) : ∃ fd, DAt K d_l_low fd := c.dat 29
theorem a_l_written {K : Fr} (c : Sy K) : ∃ fd, DAt K d_l_written fd := c.dat 30
theorem a_l_parts {K : Fr} (c : Sy K) : ∃ fd, DAt K d_l_parts fd := c.dat 31
theorem a_l_seen {K : Fr} (c : Sy K) : ∃ fd, DAt K d_l_seen fd := c.dat 32
theorem a_l_due {K : Fr} (c : Sy K) : ∃ fd, DAt K d_l_due fd := c.dat 33
theorem a_l_right {K : Fr} (c : Sy K) : ∃ fd, DAt K d_l_right fd := c.dat 34
theorem a_law {K : Fr} (c : Sy K) : ∃ fd, DAt K d_law fd := c.dat 35
abbrev R : PySem.W.OpenRow := PySem.W.OpenLaw.row PySem.Challenge.rw_delaynets_k01_numbers_made
abbrev hk : PySem.W.Hook := hook 5 FA FN
def ob (s : PySem.W.SharedT) : Al2 := lookG 5 FA FN (HeadRun.getT s)
theorem ob_eq (s : PySem.W.SharedT) : ob s = hk.obs s.abs := lookG_eq (HeadRun.getT_eq s)
def loose0 : List Str := ["_wall", "InputError", "InvalidText", "InvalidCount", "NotANumber", "StateError", "DividedByZero", "MAX_POWER", "is_integer", "as_number", "Number", "_number_in", "_is_digits", "_law_spring", "_law_next", "_law_one", "_law_low", "_law_written", "_law_parts", "_law_seen", "_law_due", "_law_right"]
abbrev loose : List Str := loose0
abbrev qv : Program := PySem.W.view R.prog [0, 26]
abbrev lawAt : Nat := 26
end K01

namespace K01
open PySem PySem.Spec PyProof.Rows L2 Hk
section
variable {P : Program} {w : World} {K : Fr} {mg : Str → Option Value} {base : Heap}
/-- a spring's list: the digits left, the state, the count -/
structure Spr (d e c : Int) : Prop where
  d0 : 0 ≤ d
  e0 : 0 ≤ e
  e1 : e < 1000000007
  c0 : 0 ≤ c
def sprL (d e c : Int) : List V := [.int d, .int e, .int c]
/-- draws a number below many, turns the spring's list alone -/
def spNext : Sp := fun vs H Q _ => ∃ (a : Addr) (m d e c : Int), vs = [.ref a, .int m] ∧ H a = some (.lst (sprL d e c)) ∧ Spr d e c ∧ 0 < m ∧ m.natAbs < 2 ^ 200 ∧
  ∀ (v d' e' c' : Int), 0 ≤ v → v < m → Spr d' e' c' → Q (.int v) (upd H a (.lst (sprL d' e' c')))
theorem c_next (T : Tx K mg) : Cal P w K mg base 1 "_law_next" (gAd "_law_next" K) ["_law_spring_here", "_law_many"] spNext := by
  refine cal_of (d := d_l_next) (N := ["_law_spring_here", "_law_many", "_law_digit", "_law_state"]) (a_l_next T.c) rfl sc_l_next (g_l_next T) (fun _ _ _ _ _ _ us hl => match us, hl with | [_, _], _ => rfl) (fun vs H Q E h => ?_) (fun cdv A outer s H vs Q E hr h => ?_)
  · obtain ⟨a, m, d, e, c, rfl, _⟩ := h
    rfl
  · obtain ⟨a, m, d, e, c, rfl, hH, hs, hm, hm2, k⟩ := h
    refine ⟨_, pss_cons (ps_asg (pe_op op_add (pe_ix ix_list (pv 0) pe_int (fun _ _ => rfl)) pe_int) (pg_sub (pv 0) pe_int set_list))
      (pss_cons (ps_if (pt_cmpR op_gt (pe_ix ix_list (pv 0) pe_int (fun _ _ => rfl)) pe_int (nomark _))
        (pss_cons (ps_set (i := 2) sc_l_next.nd rfl (.inl rfl) (pe_op op_modN (pe_callTy call_int1 (by rfl) (n_int T) bo_int (pa_cons (pe_ix ix_list (pv 0) pe_int (fun _ _ => rfl)) pa_nil)) (pv 1)))
        (pss_cons (ps_asg (pe_op op_fdivW (pe_ix ix_list (pv 0) pe_int (fun _ _ => rfl)) (pv 1)) (pg_sub (pv 0) pe_int set_list))
        (pss_one (ps_ret (pv 2))))) pss_nil)
      (pss_cons (ps_set (i := 3) sc_l_next.nd rfl (.inl rfl) (pe_callTy call_int1 (by rfl) (n_int T) bo_int (pa_cons (pe_ix ix_list (pv 0) pe_int (fun _ _ => rfl)) pa_nil)))
      (pss_cons (ps_asg (pe_op op_mod (pe_callTy call_int1 (by rfl) (n_int T) bo_int (pa_cons
          (pe_op op_add (pe_op op_add (pe_op op_mul (pv 3) (pe_op op_add (pe_op op_mod (pv 3) pe_int) pe_int)) (pe_op op_mul pe_int (pe_ix ix_list (pv 0) pe_int (fun _ _ => rfl)))) pe_int) pa_nil)) pe_int) (pg_sub (pv 0) pe_int set_list))
      (pss_one (ps_ret (pe_op op_modN (pe_callTy call_int1 (by rfl) (n_int T) bo_int (pa_cons (pe_op op_fdiv (pe_ix ix_list (pv 0) pe_int (fun _ _ => rfl)) pe_int) pa_nil)) (pv 1))))))), ?_⟩
    refine ⟨_, rfl, a, _, 2, _, rfl, rfl, .inl (.inl hH), rfl, c, 1, rfl, rfl, _, rfl, a, _, 2, 2, rfl, rfl, hH, rfl, ?_⟩
    -- h[0] > 0
    refine ⟨_, rfl, a, _, 0, _, rfl, rfl, .inl (.inl upd_same), rfl, _, _, rfl, rfl, _, rfl, ?_⟩
    refine ite2 (fun hd => ?_) (fun hd => ?_)
    · have hd : 0 < d := of_decide_eq_true hd
      refine ⟨_, rfl, a, _, 0, _, rfl, rfl, .inl (.inl upd_same), rfl, .inl ⟨_, rfl, _, rfl, _, _, rfl, rfl, (by omega), ?_⟩⟩
      refine ⟨_, rfl, a, _, 0, _, rfl, rfl, .inl (.inl upd_same), rfl, _, rfl, _, _, rfl, rfl, wide_div hm hm2 (by decide) (by decide), _, rfl, a, _, 0, 0, rfl, rfl, upd_same, rfl, ?_⟩
      refine ⟨_, rfl, ?_⟩
      show Q _ _
      rw [upd_upd]
      refine k _ (d / m) e (c + 1) (Int.fmod_nonneg_of_pos _ hm) (Int.fmod_lt_of_pos _ hm) ⟨Int.ediv_nonneg hs.d0 (by omega), hs.e0, hs.e1, by have := hs.c0; omega⟩
    · refine ⟨_, rfl, a, _, 1, _, rfl, rfl, .inl (.inl upd_same), rfl, .inl ⟨_, rfl, ?_⟩⟩
      refine ⟨_, rfl, _, rfl, _, _, rfl, rfl, (by show (0 : Int) < 65521; decide), _, _, rfl, rfl, _, _, rfl, rfl, .inl ⟨by have := hs.e0; omega, by have := hs.e1; omega⟩, ?_⟩
      refine ⟨_, rfl, a, _, 2, _, rfl, rfl, .inl (.inl upd_same), rfl, _, _, rfl, rfl, .inl ⟨by decide, by decide⟩, _, _, rfl, rfl, _, _, rfl, rfl, .inl ⟨_, rfl, _, _, rfl, rfl, (by show (0 : Int) < 1000000007; decide), _, rfl, a, _, 1, 1, rfl, rfl, upd_same, rfl, ?_⟩⟩
      refine ⟨_, rfl, a, _, 1, _, rfl, rfl, .inl (.inl upd_same), rfl, _, _, rfl, rfl, ⟨by decide, by decide⟩, .inl ⟨_, rfl, _, rfl, _, _, rfl, rfl, (by omega), ?_⟩⟩
      show Q _ _
      rw [upd_upd]
      exact k _ d _ (c + 1) (Int.fmod_nonneg_of_pos _ hm) (Int.fmod_lt_of_pos _ hm) ⟨hs.d0, Int.emod_nonneg _ (by decide), Int.emod_lt_of_pos _ (by decide), by have := hs.c0; omega⟩
end
end K01

namespace Hk
open PySem PySem.Spec PyProof.Rows L2 NumM
/-! ### the class Number: data, promises -/
def numF (t b : Int) : List (Str × V) := [("_top", .int t), ("_bottom", .int b)]
theorem ktb : ¬ (("_top" : Str) = "_bottom") := by decide +kernel
theorem numF_eq (t b : Int) : putF "_bottom" (.int b) (putF "_top" (.int t) []) = numF t b := by
  show (if ("_top" : Str) = "_bottom" then [(("_top" : Str), V.int b)] else (("_top" : Str), V.int t) :: putF "_bottom" (V.int b) []) = numF t b
  rw [if_neg ktb]
  rfl
theorem numF_top (t b : Int) : (numF t b).lookup ("_top" : Str) = some (.int t) := by
  rw [← numF_eq, lookup_putF, if_neg ktb, lookup_putF, if_pos rfl]
theorem numF_bot (t b : Int) : (numF t b).lookup ("_bottom" : Str) = some (.int b) := by
  rw [← numF_eq, lookup_putF, if_pos rfl]
/-- a Number in lowest terms stands at p -/
structure NumAt (C : Addr) (H : Hp) (p : Addr) (t b : Int) : Prop where
  at_ : ∃ dx, H p = some (.ins C dx (numF t b))
  pos : 0 < b
  cop : Nat.gcd t.natAbs b.natAbs = 1
theorem NumAt.same {C : Addr} {H H' : Hp} {p : Addr} {t b : Int} (n : NumAt C H p t b) (s : Same H H') : NumAt C H' p t b := by
  obtain ⟨dx, h⟩ := n.at_
  exact ⟨⟨dx, s _ _ h⟩, n.pos, n.cop⟩
/-- sizes: numbers of this many bits -/
abbrev Sz (n : Int) : Prop := n.natAbs < 2 ^ 1000
def spInit (C : Addr) : Sp := fun vs H Q _ => ∃ (p dx : Addr) (h b : Int), vs = [.ref p, .int h, .int b] ∧ H p = some (.ins C dx []) ∧ b ≠ 0 ∧ Sz b ∧ Q .non (upd H p (.ins C dx (numF (lowT h b) (lowB h b))))
/-- a reader of a Number -/
def spGet (C : Addr) (g : Int → Int → V) : Sp := fun vs H Q _ => ∃ (p : Addr) (t b : Int), vs = [.ref p] ∧ NumAt C H p t b ∧ Sz t ∧ Sz b ∧ Q (g t b) H
def sgn (t : Int) : Int := if t = 0 then 0 else if 0 < t then 1 else -1
def txt (t b : Int) : Str := if b = 1 then ((toString t : String) : Str) else ((toString t : String) : Str) ++ ("/" : Str) ++ ((toString b : String) : Str)
/-- __eq__ -/
def spEq (C : Addr) (K : Fr) : Sp := fun vs H Q _ => ∃ (p : Addr) (t b : Int) (y : V), vs = [.ref p, y] ∧ NumAt C H p t b ∧
  ((∃ q u c, y = .ref q ∧ NumAt C H q u c ∧ Q (.bl (decide (t = u) && decide (b = c))) H) ∨ (∃ ty, TyX K H y ty ∧ PySem.W.kitOne K ty (.ref C) = some false ∧ Q (.bl false) H))
def spIsInt : Sp := fun vs H Q _ => ∃ i : Int, vs = [.int i] ∧ Q (.bl true) H
section
variable {X : Cx}
/-- // by any divisor below 2 ^ 9000 -/
def CDivG (_ j : Int) : Prop := j ≠ 0 ∧ j.natAbs.log2 < 9000
theorem op_fdivG : OpR X (binaryOp .FloorDiv) (rI CDivG fun i j => .int (i.fdiv j)) := opI fun _ _ _ _ _ _ _ hc q => floordiv_int hc.1 q (.inl (PyProof.noPylong_of_log2 hc.2))
end
theorem log2_sz {i : Int} (h : Sz i) : i.natAbs.log2 < 1000 := PySem.Flt.log2_lt_of (by decide) h
end Hk
namespace K01
open PySem PySem.Spec PyProof.Rows L2 Hk NumM
section
variable {P : Program} {w : World} {K : Fr} {mg : Str → Option Value} {base : Heap}
abbrev CN (K : Fr) : Addr := He.ga K "Number"
theorem c_isint (T : Tx K mg) : Cal P w K mg base 1 "is_integer" (gAd "is_integer" K) ["value"] spIsInt := by
  refine cal_of (d := d_is_integer) (N := ["value"]) (a_is_integer T.c) rfl sc_is_integer (g_is_integer T) (fun _ _ _ _ _ _ us hl => match us, hl with | [_], _ => rfl) (fun vs H Q E h => ?_) (fun cdv A outer s H vs Q E hr h => ?_)
  · obtain ⟨i, rfl, _⟩ := h
    rfl
  · obtain ⟨i, rfl, k⟩ := h
    refine ⟨_, (pss_one (ps_ret (pe_and (pe_callB call_isi (by rfl) (n_isinstance T) bo_isinstance (pa_cons (pv 0) (pa_cons (pe_bltn (v := .ty "int") (by rfl) (n_int T) (by decide +kernel) rfl) pa_nil)))
      (pe_one (pe_not (pe_callB call_isi (by rfl) (n_isinstance T) bo_isinstance (pa_cons (pv 0) (pa_cons (pe_bltn (v := .ty "bool") (by rfl) (n_bool T) (by decide +kernel) rfl) pa_nil)))))))), ?_⟩
    refine ⟨_, rfl, _, _, .type "int", .type "int", true, rfl, .ty _, .base (.int i), kit_ty (by decide +kernel), true, rfl, iteT ?_⟩
    exact ⟨_, rfl, _, _, .type "int", .type "bool", false, rfl, .ty _, .base (.int i), kit_ty (by decide +kernel), false, rfl, k⟩
theorem f_init (T : Tx K mg) : ∃ fd, DAt K d_Number_init fd ∧ FnOk P w K mg base CX0 2 (d_Number_init.ad K) fd ["self", "top", "bottom"] (spInit (CN K)) := by
  obtain ⟨fd, D⟩ := a_Number_init T.c
  have C_is_integer := c_isint (P := P) (w := w) (base := base) T
  refine ⟨fd, D, ok_of (N := ["self", "top", "bottom", "shared"]) D sc_Number_init (fun vs H Q E h => ?_) (fun cdv A outer s H vs Q E hr h => ?_)⟩
  · obtain ⟨p, dx, h, b, rfl, _⟩ := h
    rfl
  · obtain ⟨p, dx, h, b, rfl, hp, hb, sb, k⟩ := h
    refine ⟨_, (pss_cons (ps_if (pt_not (pt_val (pe_c C_is_integer hr (pa_cons (pv 1) pa_nil)))) (pss_one ps_never) pss_nil)
      (pss_cons (ps_if (pt_not (pt_val (pe_c C_is_integer hr (pa_cons (pv 2) pa_nil)))) (pss_one ps_never) pss_nil)
      (pss_cons (ps_if (pt_cmpR op_eq (pv 2) pe_int (nomark _)) (pss_one ps_never) pss_nil)
      (pss_cons (ps_set (i := 3) sc_Number_init.nd rfl (.inl rfl) (pe_callBfun cr_gcd rfl (m_gcd T) (pa_cons (pv 1) (pa_cons (pv 2) pa_nil))))
      (pss_cons (ps_if (pt_cmpR op_lt (pv 2) pe_int (nomark _)) (pss_one (ps_set (i := 3) sc_Number_init.nd rfl (.inl rfl) (pe_un un_neg (pv 3)))) pss_nil)
      (pss_cons (ps_fld (pv 0) (pe_op op_fdivG (pv 1) (pv 3)) rfl)
      (pss_one (ps_fld (pv 0) (pe_op op_fdivG (pv 2) (pv 3)) rfl)))))))), ?_⟩
    refine ⟨_, rfl, h, rfl, _, rfl, iteF ?_⟩
    refine ⟨_, rfl, b, rfl, _, rfl, iteF ?_⟩
    refine ⟨_, rfl, rfl, _, rfl, ?_⟩
    refine ite2 (fun z => absurd (V.int.inj (of_decide_eq_true z)) hb) (fun _ => ?_)
    refine ⟨_, rfl, _, rfl, h, b, rfl, ?_⟩
    have cl := He.cls_ok (f_cls_Number T.c)
    have sz : CDivG h (shr h b) := ⟨shr_ne hb, by
      have := log2_sz (i := shr h b) (Nat.lt_of_le_of_lt (shr_le (h := h) hb) sb)
      omega⟩
    have szb : CDivG b (shr h b) := sz
    refine ⟨_, rfl, _, _, rfl, rfl, _, rfl, ?_⟩
    have fin : ∀ x : Int, x = shr h b → (fun (σ : L2.St) (H : Hp) => L2.tSeq (sFld K (tVar 0) (tOp (rI CDivG fun i j => .int (i.fdiv j)) (tVar 1) (tVar 3)) "_top") (sFld K (tVar 0) (tOp (rI CDivG fun i j => .int (i.fdiv j)) (tVar 2) (tVar 3)) "_bottom") { nx := fun _ H' => Q .non H', rt := Q } σ H) [some (.ref p), some (.int h), some (.int b), some (.int x)] H := by
      rintro x rfl
      refine ⟨_, rfl, _, rfl, h, _, rfl, rfl, sz, _, rfl, p, CN K, dx, _, rfl, hp, cl, He.noat_ok (f_noat_top T.c), (by show 0 < 1000; decide), ?_⟩
      refine ⟨_, rfl, _, rfl, b, _, rfl, rfl, szb, _, rfl, p, CN K, dx, _, rfl, upd_same, cl, He.noat_ok (f_noat_bot T.c), (by show 1 < 1000; decide), ?_⟩
      show Q .non _
      rw [upd_upd]
      rw [numF_eq, init_top hb, init_bot hb]
      exact k
    refine ite2 (fun z => ?_) (fun z => ?_)
    · refine ⟨_, rfl, _, rfl, ?_⟩
      exact fin _ (by unfold shr; rw [if_pos (of_decide_eq_true z)]; rfl)
    · exact fin _ (by unfold shr; rw [if_neg (fun q => z (decide_eq_true q))]; rfl)
end
end K01

namespace Hk
open PySem PySem.Spec PyProof.Rows L2 NumM NumT SX
theorem empty_S : Str.empty = S [] := by decide +kernel
theorem log2_small {i : Int} (h : Sz i) : i.natAbs.log2 < 1920 := Nat.lt_trans (log2_sz h) (by decide)
theorem line_ge {n : Nat} (h : n ≤ 100000) : n ≤ sizeLine := Nat.le_trans h (by decide)
end Hk
namespace K01
open PySem PySem.Spec PyProof.Rows L2 Hk NumM NumT SX
section
variable {P : Program} {w : World} {K : Fr} {mg : Str → Option Value} {base : Heap}
theorem cl (T : Tx K mg) : Cls K (CN K) := He.cls_ok (f_cls_Number T.c)
theorem nT (T : Tx K mg) : NoAttr K (CN K) "_top" := He.noat_ok (f_noat_top T.c)
theorem nB (T : Tx K mg) : NoAttr K (CN K) "_bottom" := He.noat_ok (f_noat_bot T.c)
theorem f_top (T : Tx K mg) : ∃ fd, DAt K d_Number_top fd ∧ FnOk P w K mg base CX0 1 (d_Number_top.ad K) fd ["self"] (spGet (CN K) fun t _ => .int t) := by
  obtain ⟨fd, D⟩ := a_Number_top T.c
  refine ⟨fd, D, ok_of (N := ["self"]) D sc_Number_top (fun vs H Q E h => ?_) (fun cdv A outer s H vs Q E hr h => ?_)⟩
  · obtain ⟨p, t, b, rfl, _⟩ := h
    rfl
  · obtain ⟨p, t, b, rfl, ⟨⟨dx, hp⟩, _, _⟩, _, _, k⟩ := h
    exact ⟨_, pss_one (ps_ret (pe_fld (pv 0) rfl)), _, rfl, p, CN K, dx, _, _, rfl, hp, cl T, nT T, numF_top _ _, k⟩
theorem f_bottom (T : Tx K mg) : ∃ fd, DAt K d_Number_bottom fd ∧ FnOk P w K mg base CX0 1 (d_Number_bottom.ad K) fd ["self"] (spGet (CN K) fun _ b => .int b) := by
  obtain ⟨fd, D⟩ := a_Number_bottom T.c
  refine ⟨fd, D, ok_of (N := ["self"]) D sc_Number_bottom (fun vs H Q E h => ?_) (fun cdv A outer s H vs Q E hr h => ?_)⟩
  · obtain ⟨p, t, b, rfl, _⟩ := h
    rfl
  · obtain ⟨p, t, b, rfl, ⟨⟨dx, hp⟩, _, _⟩, _, _, k⟩ := h
    exact ⟨_, pss_one (ps_ret (pe_fld (pv 0) rfl)), _, rfl, p, CN K, dx, _, _, rfl, hp, cl T, nB T, numF_bot _ _, k⟩
theorem f_sign (T : Tx K mg) : ∃ fd, DAt K d_Number_sign fd ∧ FnOk P w K mg base CX0 1 (d_Number_sign.ad K) fd ["self"] (spGet (CN K) fun t _ => .int (sgn t)) := by
  obtain ⟨fd, D⟩ := a_Number_sign T.c
  refine ⟨fd, D, ok_of (N := ["self"]) D sc_Number_sign (fun vs H Q E h => ?_) (fun cdv A outer s H vs Q E hr h => ?_)⟩
  · obtain ⟨p, t, b, rfl, _⟩ := h
    rfl
  · obtain ⟨p, t, b, rfl, ⟨⟨dx, hp⟩, _, _⟩, _, _, k⟩ := h
    refine ⟨_, (pss_cons (ps_if (pt_cmpR op_eq (pe_fld (pv 0) rfl) pe_int (nomark _)) (pss_one (ps_ret pe_int)) pss_nil)
      (pss_one (ps_ret (pe_ifExp (pt_cmpR op_gt (pe_fld (pv 0) rfl) pe_int (nomark _)) pe_int (pe_un un_neg pe_int))))), ?_⟩
    refine ⟨_, rfl, p, CN K, dx, _, _, rfl, hp, cl T, nT T, numF_top _ _, rfl, _, rfl, ?_⟩
    refine ite2 (fun z => ?_) (fun z => ?_)
    · have e : t = 0 := V.int.inj (of_decide_eq_true z)
      subst e
      exact k
    · have e : ¬ t = 0 := fun q => z (decide_eq_true (by rw [q]))
      refine ⟨_, rfl, p, CN K, dx, _, _, rfl, hp, cl T, nT T, numF_top _ _, _, _, rfl, rfl, _, rfl, ?_⟩
      refine ite2 (fun q => ?_) (fun q => ?_)
      · have q' : 0 < t := of_decide_eq_true q
        have es : sgn t = 1 := by unfold sgn; rw [if_neg e, if_pos q']
        have k' : Q (.int (sgn t)) H := k
        rw [es] at k'
        exact k'
      · have q' : ¬ 0 < t := fun q2 => q (decide_eq_true q2)
        have es : sgn t = -1 := by unfold sgn; rw [if_neg e, if_neg q']
        have k' : Q (.int (sgn t)) H := k
        rw [es] at k'
        exact ⟨_, rfl, k'⟩
theorem f_str (T : Tx K mg) : ∃ fd, DAt K d_Number_str fd ∧ FnOk P w K mg base CX0 1 (d_Number_str.ad K) fd ["self"] (spGet (CN K) fun t b => .str (S (fL t b))) := by
  obtain ⟨fd, D⟩ := a_Number_str T.c
  refine ⟨fd, D, ok_of (N := ["self"]) D sc_Number_str (fun vs H Q E h => ?_) (fun cdv A outer s H vs Q E hr h => ?_)⟩
  · obtain ⟨p, t, b, rfl, _⟩ := h
    rfl
  · obtain ⟨p, t, b, rfl, ⟨⟨dx, hp⟩, _, _⟩, st, sb, k⟩ := h
    refine ⟨_, (pss_cons (ps_if (pt_cmpR op_eq (pe_fld (pv 0) rfl) pe_int (nomark _)) (pss_one (ps_ret (pe_callTy call_str_int (by rfl) (n_str T) bo_str (pa_cons (pe_fld (pv 0) rfl) pa_nil)))) pss_nil)
      (pss_one (ps_ret (pe_joined (.cons (pe_fmt (pe_fld (pv 0) rfl)) (.cons pe_str (.cons (pe_fmt (pe_fld (pv 0) rfl)) .nil))))))), ?_⟩
    refine ⟨_, rfl, p, CN K, dx, _, _, rfl, hp, cl T, nB T, numF_bot _ _, rfl, _, rfl, ?_⟩
    have l1 := i_len st
    have l2 := i_len sb
    refine ite2 (fun z => ?_) (fun z => ?_)
    · have e : b = 1 := V.int.inj (of_decide_eq_true z)
      refine ⟨_, rfl, p, CN K, dx, _, _, rfl, hp, cl T, nT T, numF_top _ _, _, rfl, log2_small st, ?_⟩
      show Q (.str _) H
      rw [toS]
      have k' : Q (.str (S (fL t b))) H := k
      unfold fL at k'
      rw [if_pos e] at k'
      exact k'
    · have e : ¬ b = 1 := fun q => z (decide_eq_true (by rw [q]))
      refine ⟨_, rfl, p, CN K, dx, _, _, rfl, hp, cl T, nT T, numF_top _ _, .inr ⟨_, rfl, log2_small st, _, rfl, ?_, _, rfl, ?_, ?_⟩⟩
      · rw [toS, empty_S, S_cat, S_len]
        exact line_ge (by rw [List.nil_append]; omega)
      · rw [toS, empty_S, slash_S, S_cat, S_cat, S_len]
        exact line_ge (by rw [List.nil_append, List.length_append]; simp; omega)
      · refine ⟨_, rfl, p, CN K, dx, _, _, rfl, hp, cl T, nB T, numF_bot _ _, .inr ⟨_, rfl, log2_small sb, _, rfl, ?_, ?_⟩⟩
        · rw [toS, toS, empty_S, slash_S, S_cat, S_cat, S_cat, S_len]
          exact line_ge (by rw [List.nil_append, List.length_append, List.length_append]; simp; omega)
        · show Q (.str _) H
          rw [toS, toS, empty_S, slash_S, S_cat, S_cat, S_cat, List.nil_append, List.append_assoc]
          have k' : Q (.str (S (fL t b))) H := k
          unfold fL at k'
          rw [if_neg e] at k'
          exact k'
end
end K01

namespace Hk
open PySem PySem.Spec PyProof.Rows L2 NumM NumT SX
/-- a promise about one text -/
def spDigits : Sp := fun vs H Q _ => ∃ a : List Nat, vs = [.str (S a)] ∧ Q (.bl (dig a)) H
end Hk
namespace K01
open PySem PySem.Spec PyProof.Rows L2 Hk NumM NumT SX
section
variable {P : Program} {w : World} {K : Fr} {mg : Str → Option Value} {base : Heap}
theorem f_repr (T : Tx K mg) : ∃ fd, DAt K d_Number_repr fd ∧ FnOk P w K mg base CX0 4 (d_Number_repr.ad K) fd ["self"] (spGet (CN K) fun t b => .str (("Number(" : Str) ++ S (fL t b) ++ (")" : Str))) := by
  obtain ⟨fd, D⟩ := a_Number_repr T.c
  obtain ⟨fs, Ds, Fs⟩ := f_str (P := P) (w := w) (base := base) T
  have bs : Binds K fs ["self"] [] := FunD.bindsN Ds fun _ _ _ _ _ _ us hl => match us, hl with | [_], _ => rfl
  refine ⟨fd, D, ok_of (N := ["self"]) D sc_Number_repr (fun vs H Q E h => ?_) (fun cdv A outer s H vs Q E hr h => ?_)⟩
  · obtain ⟨p, t, b, rfl, _⟩ := h
    rfl
  · obtain ⟨p, t, b, rfl, N, st, sb, k⟩ := h
    obtain ⟨dx, hp⟩ := id N.at_
    refine ⟨_, (pss_one (ps_ret (pe_joined (.cons pe_str (.cons (pe_fmt (pe_callTy (call_strO (own_ok (f_meth_str T.c)) Fs bs hr) (by rfl) (n_str T) bo_str (pa_cons (pv 0) pa_nil))) (.cons pe_str .nil)))))), ?_⟩
    have l := f_len st sb
    have e1 : Str.empty ++ ("Number(" : Str) = ("Number(" : Str) := by decide +kernel
    have l1 : ("Number(" : Str).length = 7 := by decide +kernel
    have l2 : (")" : Str).length = 1 := by decide +kernel
    have lap : ∀ x y : Str, (x ++ y).length = x.length + y.length := fun x y => by
      show (x.cps ++ y.cps).size = _
      rw [Array.size_append]
      rfl
    refine ⟨_, rfl, ?_, _, rfl, p, dx, _, rfl, hp, p, t, b, rfl, N, st, sb, _, rfl, .inl ⟨_, rfl, ?_, _, rfl, ?_, _, rfl, ?_, ?_⟩⟩
    · rw [e1, l1]
      exact line_ge (by decide)
    · rw [S_len]
      exact line_ge (by omega)
    · rw [e1, lap, l1, S_len]
      exact line_ge (by omega)
    · rw [e1, lap, lap, l1, l2, S_len]
      exact line_ge (by omega)
    · show Q (.str _) H
      rw [e1]
      exact k
theorem f_eq (T : Tx K mg) : ∃ fd, DAt K d_Number_eq fd ∧ FnOk P w K mg base CX0 1 (d_Number_eq.ad K) fd ["self", "other"] (spEq (CN K) K) := by
  obtain ⟨fd, D⟩ := a_Number_eq T.c
  refine ⟨fd, D, ok_of (N := ["self", "other"]) D sc_Number_eq (fun vs H Q E h => ?_) (fun cdv A outer s H vs Q E hr h => ?_)⟩
  · obtain ⟨p, t, b, y, rfl, _⟩ := h
    rfl
  · obtain ⟨p, t, b, y, rfl, ⟨⟨dx, hp⟩, _, _⟩, h⟩ := h
    refine ⟨_, (pss_one (ps_ret (pe_and (pe_callB call_isi (by rfl) (n_isinstance T) bo_isinstance (pa_cons (pv 1) (pa_cons (pe_glob (v := .ref (gAd "Number" K)) rfl (g_Number T) rfl) pa_nil)))
      (pe_and (pe_cmpR op_eq (pe_fld (pv 0) rfl) (pe_fld (pv 1) rfl) (nomark _)) (pe_one (pe_cmpR op_eq (pe_fld (pv 0) rfl) (pe_fld (pv 1) rfl) (nomark _))))))), ?_⟩
    rcases h with ⟨q, u, c, rfl, ⟨⟨dy, hq⟩, _, _⟩, k⟩ | ⟨ty, hty, hk, k⟩
    · refine ⟨_, rfl, _, _, _, _, true, rfl, .own _, .base (ins_ok (f_ins T.c) hq (cl T)), of_decide_eq_true (f_kitO T.c), true, rfl, iteT ?_⟩
      refine ⟨_, rfl, p, CN K, dx, _, _, rfl, hp, cl T, nT T, numF_top _ _, _, rfl, q, CN K, dy, _, _, rfl, hq, cl T, nT T, numF_top _ _, rfl, _, rfl, ?_⟩
      have e1 : ∀ x y : Int, decide (V.int x = V.int y) = decide (x = y) := fun x y => by
        by_cases h : x = y
        · subst h; simp
        · rw [decide_eq_false h, decide_eq_false fun z => h (V.int.inj z)]
      rw [e1]
      refine ite2 (fun z => ?_) (fun z => ?_)
      · refine ⟨_, rfl, p, CN K, dx, _, _, rfl, hp, cl T, nB T, numF_bot _ _, _, rfl, q, CN K, dy, _, _, rfl, hq, cl T, nB T, numF_bot _ _, rfl, ?_⟩
        show Q (.bl _) H
        rw [e1]
        rw [z, Bool.true_and] at k
        exact k
      · rw [show decide (t = u) = false by simpa using z, Bool.false_and] at k
        exact k
    · exact ⟨_, rfl, _, _, _, _, false, rfl, .own _, hty, hk, false, rfl, iteF k⟩
theorem c_digits (T : Tx K mg) : Cal P w K mg base 1 "_is_digits" (gAd "_is_digits" K) ["text"] spDigits := by
  refine cal_of (d := d_is_digits) (N := ["text"]) (a_is_digits T.c) rfl sc_is_digits (g_is_digits T) (fun _ _ _ _ _ _ us hl => match us, hl with | [_], _ => rfl) (fun vs H Q E h => ?_) (fun cdv A outer s H vs Q E hr h => ?_)
  · obtain ⟨a, rfl, _⟩ := h
    rfl
  · obtain ⟨a, rfl, k⟩ := h
    refine ⟨_, (pss_one (ps_ret (pe_and (pe_bm0 PySem.F.plainAttrs_str PySem.F.slot_str_isascii PySem.F.type_str_isascii mt_isascii (pv 0)) (pe_one (pe_bm0 PySem.F.plainAttrs_str PySem.F.slot_str_isdigit PySem.F.type_str_isdigit mt_isdigit (pv 0)))))), ?_⟩
    have e := both_S a
    refine ⟨_, rfl, rfl, _, rfl, rfl, trivial, _, rfl, ?_⟩
    refine ite2 (fun z => ?_) (fun z => ?_)
    · refine ⟨_, rfl, rfl, _, rfl, rfl, trivial, ?_⟩
      rw [z, Bool.true_and] at e
      rw [e]
      exact k
    · rw [show Txt.isascii (S a) = false by simpa using z, Bool.false_and] at e
      rw [← e] at k
      exact k
end
end K01

namespace Hk
open PySem PySem.Spec PyProof.Rows L2 NumM NumT SX
/-- a new Number comes back -/
abbrev NewNum (C : Addr) (H : Hp) (Q : VK) (t b : Int) : Prop := ∀ (H' : Hp) (p : Addr), Same H H' → H p = none → NumAt C H' p t b → Q (.ref p) H'
/-- a text of a fraction in lowest terms is read -/
def spRead (C : Addr) : Sp := fun vs H Q _ => ∃ t b : Int, vs = [.str (S (fL t b))] ∧ 0 < b ∧ Nat.gcd t.natAbs b.natAbs = 1 ∧ Sz t ∧ Sz b ∧ NewNum C H Q t b
theorem truS {K : Fr} {H : Hp} {a : List Nat} (h : a.length ≤ 100000) : TruV K (.str (S a)) H (!a.isEmpty) := by
  refine ⟨by rw [S_len]; exact line_ge h, ?_⟩
  rw [S_len]
  cases a with
  | nil => rfl
  | cons c r => rfl
/-- an instance is laid: it and its dict are new -/
theorem laid_same {H : Hp} {x dx C : Addr} {fs : List (Str × V)} (nx : H x = none) (nd : H dx = none) : Same H (upd (upd (upd H dx (.own x)) x (.ins C dx [])) x (.ins C dx fs)) := by
  intro b o e
  rw [upd_upd, upd_ne (ne_of_none e nx), upd_ne (ne_of_none e nd)]
  exact e
theorem same_upd {H : Hp} {p : Addr} {o : HO} (h : H p = none) : Same H (upd H p o) := fun b u e => by
  rw [upd_ne (ne_of_none e h)]
  exact e
theorem same_upd' {H H1 : Hp} {p : Addr} {o : HO} (s : Same H H1) (h : H p = none) : Same H (upd H1 p o) := fun b u e => by
  rw [upd_ne (ne_of_none e h)]
  exact s b u e
/-- a call of the class with its two arguments: what __init__ promises of it -/
theorem mk_num {C : Addr} {H : Hp} {Q : VK} {h b : Int} (hb : b ≠ 0) (sb : Sz b) (k : NewNum C H Q (lowT h b) (lowB h b)) : ∀ x dx, H x = none → H dx = none → dx ≠ x →
    spInit C [.ref x, .int h, .int b] (upd (upd H dx (.own x)) x (.ins C dx [])) (fun v H2 => v = .non ∧ Q (.ref x) H2) E0 := by
  intro x dx nx nd ne
  refine ⟨x, dx, h, b, rfl, upd_same, hb, sb, rfl, ?_⟩
  exact k _ x (laid_same nx nd) nx ⟨⟨dx, upd_same⟩, low_pos hb, low_cop hb⟩
end Hk
namespace K01
open PySem PySem.Spec PyProof.Rows L2 Hk NumM NumT SX
open TL (numL)
section
variable {P : Program} {w : World} {K : Fr} {mg : Str → Option Value} {base : Heap}
theorem mkN (T : Tx K mg) : Mk K (CN K) (d_Number_init.ad K) := He.mkr_ok (f_mkr_Number T.c)
theorem b_init2 {fd : FuncData} (D : DAt K d_Number_init fd) : Binds K fd ["self", "top", "bottom"] [] := by
  obtain ⟨ds, r, b⟩ := FunD.binds1 (ps := ["self", "top", "bottom"]) D 3 1 (by intro z; exact nomatch z) rfl (fun T kV doc pm an cdv ct us its hu hi => match us, its, hu, hi with | [_, _, _], [_], _, _ => ⟨_, rfl, rfl⟩)
  cases r
  exact b
theorem b_init1 {fd : FuncData} (D : DAt K d_Number_init fd) : ∃ ds, Vals [.int 1] ds ∧ Binds K fd ["self", "top", "bottom"] ds :=
  FunD.binds1 (ps := ["self", "top", "bottom"]) D 2 0 (by intro z; exact nomatch z) rfl (fun T kV doc pm an cdv ct us its hu hi => match us, its, hu, hi with | [_, _], [_], _, _ => ⟨_, rfl, rfl⟩)
theorem c_number_in (T : Tx K mg) : Cal P w K mg base 4 "_number_in" (gAd "_number_in" K) ["text"] (spRead (CN K)) := by
  have C_is_digits := c_digits (P := P) (w := w) (base := base) T
  obtain ⟨fi, Di, Fi⟩ := f_init (P := P) (w := w) (base := base) T
  refine cal_of (d := d_number_in) (N := ["text", "top", "slash", "bottom"]) (a_number_in T.c) rfl sc_number_in (g_number_in T) (fun _ _ _ _ _ _ us hl => match us, hl with | [_], _ => rfl) (fun vs H Q E h => ?_) (fun cdv A outer s H vs Q E hr h => ?_)
  · obtain ⟨t, b, rfl, _⟩ := h
    rfl
  · obtain ⟨t, b, rfl, hb, hco, st, sb, k⟩ := h
    have hr1 : Room 1 _ := hr.mono (by decide)
    refine ⟨_, (pss_cons (ps_asg (pe_partition (pv 0) pe_str) (pg_tup (by rfl) (pgs_cons (pg_name (i := 1) sc_number_in.nd rfl (.inl rfl)) (pgs_cons (pg_name (i := 2) sc_number_in.nd rfl (.inl rfl)) (pgs_cons (pg_name (i := 3) sc_number_in.nd rfl (.inl rfl)) pgs_nil)))))
      (pss_cons (ps_if (pt_not (pt_truth (pv 2) (by intro _; rfl))) (pss_one (ps_set (i := 3) sc_number_in.nd rfl (.inl rfl) pe_str)) pss_nil)
      (pss_cons (ps_if (PW.pt (pw_or (pt_not (pt_val (pe_c C_is_digits hr1 (pa_cons (pe_bm PySem.F.plainAttrs_str PySem.F.slot_str_removeprefix PySem.F.type_str_removeprefix mt_removeprefix (pv 1) (pa_cons pe_str pa_nil)) pa_nil))))
          (pw_or1 (pt_not (pt_val (pe_c C_is_digits hr1 (pa_cons (pv 3) pa_nil))))))) (pss_one (ps_ret pe_non)) pss_nil)
      (pss_cons (ps_if (pt_cmpR op_eq (pe_callTy call_int_str (by rfl) (n_int T) bo_int (pa_cons (pv 3) pa_nil)) pe_int (nomark _)) (pss_one (ps_ret pe_non)) pss_nil)
      (pss_one (ps_ret (pe_make (mkN T) Fi hr rfl (g_Number T) (b_init2 Di) .nil pass0 (pa_cons (pe_callTy call_int_str (by rfl) (n_int T) bo_int (pa_cons (pv 1) pa_nil)) (pa_cons (pe_callTy call_int_str (by rfl) (n_int T) bo_int (pa_cons (pv 3) pa_nil)) pa_nil))))))))), ?_⟩
    have lf := f_len st sb
    have l1 := i_len st
    have l2 := i_len sb
    have hbi : iL b = numL b.natAbs := by unfold iL; rw [if_neg (by omega)]
    have low := low_red (t := t) hb hco
    have k' : ∀ H1, Same H H1 → NewNum (CN K) H1 Q (lowT t b) (lowB t b) := fun H1 s1 H2 p s2 np N => by
      rw [low.1, low.2] at N
      exact k H2 p (s1.trans s2) (s1.free np) N
    have e45 : Txt.removeprefix (S (iL t)) ("-" : Str) = S (numL t.natAbs) := by rw [minus_S, rmp_S _ (iL_ne45 t), unsig_i]
    refine ⟨_, rfl, ⟨_, rfl⟩, _, _, rfl, rfl, by decide +kernel, (by rw [S_len]; exact line_ge (by omega)), fun p np => ?_⟩
    rw [slash_S]
    by_cases eb : b = 1
    rotate_left
    · have ef : fL t b = iL t ++ 47 :: iL b := by unfold fL; rw [if_neg eb]
      rw [ef, part_some iL_free]
      refine ⟨p, _, rfl, .inl (.inl upd_same), rfl, _, _, rfl, _, _, rfl, _, _, rfl, rfl, ?_⟩
      refine ⟨_, rfl, true, truS (a := [47]) (by decide), iteF ?_⟩
      have s1 : Same H (upd H p (.tup [.str (S (iL t)), .str (S [47]), .str (S (iL b))])) := same_upd np
      refine ⟨_, rfl, rfl, _, _, rfl, rfl, (by rw [S_len]; exact line_ge (by omega)), numL t.natAbs, (by rw [e45]; rfl), true, (by rw [dig_num]), iteF ?_⟩
      refine ⟨_, rfl, iL b, rfl, true, (by rw [hbi, dig_num]), iteF ?_⟩
      refine ⟨_, rfl, _, b, rfl, int_i sb, (by rw [S_len]; omega), rfl, _, rfl, ?_⟩
      refine ite2 (fun z => absurd (V.int.inj (of_decide_eq_true z)) (by omega)) (fun _ => ?_)
      refine ⟨_, rfl, _, t, rfl, int_i st, (by rw [S_len]; omega), _, rfl, _, b, rfl, int_i sb, (by rw [S_len]; omega), ?_⟩
      exact mk_num (by omega) sb (k' _ s1)
    · have ef : fL t b = iL t := by unfold fL; rw [if_pos eb]
      have e1 : ("1" : Str) = S (iL b) := by subst eb; decide +kernel
      rw [ef, part_none iL_free]
      refine ⟨p, _, rfl, .inl (.inl upd_same), rfl, _, _, rfl, _, _, rfl, _, _, rfl, rfl, ?_⟩
      refine ⟨_, rfl, false, truS (a := []) (by decide), iteT ?_⟩
      rw [e1]
      have s1 : Same H (upd H p (.tup [.str (S (iL t)), .str (S []), .str (S [])])) := same_upd np
      refine ⟨_, rfl, rfl, _, _, rfl, rfl, (by rw [S_len]; exact line_ge (by omega)), numL t.natAbs, (by rw [e45]; rfl), true, (by rw [dig_num]), iteF ?_⟩
      refine ⟨_, rfl, iL b, rfl, true, (by rw [hbi, dig_num]), iteF ?_⟩
      refine ⟨_, rfl, _, b, rfl, int_i sb, (by rw [S_len]; omega), rfl, _, rfl, ?_⟩
      refine ite2 (fun z => absurd (V.int.inj (of_decide_eq_true z)) (by omega)) (fun _ => ?_)
      refine ⟨_, rfl, _, t, rfl, int_i st, (by rw [S_len]; omega), _, rfl, _, b, rfl, int_i sb, (by rw [S_len]; omega), ?_⟩
      exact mk_num (by omega) sb (k' _ s1)
theorem f_read (T : Tx K mg) : ∃ fd, DAt K d_Number_read fd ∧ FnOk P w K mg base CX0 5 (d_Number_read.ad K) fd ["text"] (spRead (CN K)) := by
  obtain ⟨fd, D⟩ := a_Number_read T.c
  have C_number_in := c_number_in (P := P) (w := w) (base := base) T
  obtain ⟨fs, Ds, Fs⟩ := f_str (P := P) (w := w) (base := base) T
  have bs : Binds K fs ["self"] [] := FunD.bindsN Ds fun _ _ _ _ _ _ us hl => match us, hl with | [_], _ => rfl
  refine ⟨fd, D, ok_of (N := ["text", "number"]) D sc_Number_read (fun vs H Q E h => ?_) (fun cdv A outer s H vs Q E hr h => ?_)⟩
  · obtain ⟨t, b, rfl, _⟩ := h
    rfl
  · obtain ⟨t, b, rfl, hb, hco, st, sb, k⟩ := h
    refine ⟨_, (pss_cons (ps_if (pt_not (pt_val (pe_callB call_isi (by rfl) (n_isinstance T) bo_isinstance (pa_cons (pv 0) (pa_cons (pe_bltn (v := .ty "str") (by rfl) (n_str T) (by decide +kernel) rfl) pa_nil))))) (pss_one ps_never) pss_nil)
      (pss_cons (ps_set (i := 1) sc_Number_read.nd rfl (.inl rfl) (pe_c C_number_in hr (pa_cons (pv 0) pa_nil)))
      (pss_cons (ps_if (PW.pt (pw_or (pt_cmpR op_isN (pv 1) pe_non (nomark _)) (pw_or1 (pt_cmpR op_ne (pe_callTy (call_strO (own_ok (f_meth_str T.c)) Fs bs (hr.mono (by decide))) (by rfl) (n_str T) bo_str (pa_cons (pv 1) pa_nil)) (pv 0) (nomark _))))) (pss_one ps_never) pss_nil)
      (pss_one (ps_ret (pv 1)))))), ?_⟩
    refine ⟨_, rfl, _, _, .type "str", .type "str", true, rfl, .ty _, .base (.str _), kit_ty (by decide +kernel), true, rfl, iteF ?_⟩
    refine ⟨_, rfl, t, b, rfl, hb, hco, st, sb, fun H1 p s1 np N => ?_⟩
    obtain ⟨dx, hp⟩ := id N.at_
    refine ⟨_, rfl, rfl, _, rfl, iteF ?_⟩
    refine ⟨_, rfl, p, dx, _, rfl, hp, p, t, b, rfl, N, st, sb, _, rfl, _, rfl, rfl, _, rfl, ?_⟩
    refine iteNS rfl ?_
    exact ⟨_, rfl, k H1 p s1 np N⟩
end
end K01

namespace Hk
open PySem PySem.Spec PyProof.Rows L2 NumM NumT SX
theorem map_int_get {ns : List Int} {j : Nat} (h : j < ns.length) : ∃ n : Int, ns[j]? = some n ∧ atI (ns.map V.int) ((j : Nat) : Int) = some (V.int n) := by
  refine ⟨ns[j], by simp [h], ?_⟩
  refine atI_nat ?_
  rw [List.getElem?_map]
  simp [h]
end Hk
namespace K01
open PySem PySem.Spec PyProof.Rows L2 Hk NumM NumT SX
section
variable {P : Program} {w : World} {K : Fr} {mg : Str → Option Value} {base : Heap}
/-- a new spring from the script -/
def spSpring (K : Fr) : Sp := fun vs H Q _ => ∃ (a : Addr) (ns : List Int) (j : Nat), vs = [.ref a, .int j] ∧ SqL K H a (ns.map V.int) ∧ ns.length ≤ 63 ∧ j ≤ 63 ∧
  ∀ (p : Addr) (d e c : Int), H p = none → Spr d e c → Q (.ref p) (upd H p (.lst (sprL d e c)))
theorem c_spring (T : Tx K mg) : Cal P w K mg base 1 "_law_spring" (gAd "_law_spring" K) ["_law_script", "_law_spot"] (spSpring K) := by
  refine cal_of (d := d_l_spring) (N := ["_law_script", "_law_spot", "_law_mixed", "_law_at", "_law_own", "_law_digits"]) (a_l_spring T.c) rfl sc_l_spring (g_l_spring T) (fun _ _ _ _ _ _ us hl => match us, hl with | [_, _], _ => rfl) (fun vs H Q E h => ?_) (fun cdv A outer s H vs Q E hr h => ?_)
  · obtain ⟨a, ns, j, rfl, _⟩ := h
    rfl
  · obtain ⟨a, ns, j, rfl, hS, hn, hj, k⟩ := h
    refine ⟨_, (pss_cons (ps_set (i := 2) sc_l_spring.nd rfl (.inl rfl) pe_int)
 (pss_cons (ps_for PassesOwn.never rfl (pi_range1 (by rfl) (n_range T) (pa_cons (pe_callB (call_min2 rfl) (by rfl) (n_min T) bo_min (pa_cons (pe_callB call_len_seq (by rfl) (n_len T) bo_len (pa_cons (pv 0) pa_nil)) (pa_cons pe_int pa_nil))) pa_nil)) (pg_name (i := 3) sc_l_spring.nd rfl (.inl rfl))
 (pss_one (ps_set (i := 2) sc_l_spring.nd rfl (.inl rfl) (pe_op op_mod (pe_callTy call_int1 (by rfl) (n_int T) bo_int (pa_cons (pe_op op_add (pe_op op_add (pe_op op_mul (pv 2) pe_int) (pe_op op_mul (pe_ix ix_list (pv 0) (pv 3) (fun _ _ => rfl)) (pe_op op_add (pv 3) pe_int))) pe_int) pa_nil)) pe_int))))
 (pss_cons (ps_set (i := 4) sc_l_spring.nd rfl (.inl rfl) (pe_ifExp (pt_cmpR op_lt (pv 1) (pe_callB call_len_seq (by rfl) (n_len T) bo_len (pa_cons (pv 0) pa_nil)) (nomark _)) (pe_ix ix_list (pv 0) (pv 1) (fun _ _ => rfl)) (pe_op op_add (pe_op op_mul (pv 2) pe_int) (pe_op op_mul (pv 1) pe_int))))
 (pss_cons (ps_set (i := 5) sc_l_spring.nd rfl (.inl rfl) (pe_ifExp (PW.pt (pw_or (pt_cmpR op_lt (pv 4) pe_int (nomark _)) (pw_or1 (pt_cmpR op_ge (pv 4) (pe_op op_pow pe_int pe_int) (nomark _))))) (pe_callB call_abs (by rfl) (n_abs T) bo_abs (pa_cons (pv 4) pa_nil)) pe_int))
 (pss_one (ps_ret (pe_lst (pa_cons (pv 5) (pa_cons (pe_op op_mod (pe_callTy call_int1 (by rfl) (n_int T) bo_int (pa_cons (pe_op op_add (pe_op op_add (pe_op op_mul (pv 4) pe_int) (pv 2)) pe_int) pa_nil)) pe_int) (pa_cons pe_int pa_nil)))))))))), ?_⟩
    -- mixed = 23; for at in range(min(len(script), 5))
    have hlen : ((ns.map V.int).length : Int) = (ns.length : Int) := by rw [List.length_map]
    refine ⟨_, rfl, a, _, rfl, .inl hS, _, _, rfl, _, rfl, ?_, ?_, ?_⟩
    · rw [hlen]; split <;> omega
    · rw [hlen]; split <;> omega
    rw [hlen]
    generalize hm : (if (5 : Int) < (ns.length : Int) then (5 : Int) else (ns.length : Int)) = m
    have hm2 : m ≤ ns.length := by rw [← hm]; split <;> omega
    refine for_range (lo := 0) (n := m.toNat) (fun i σ H' => H' = H ∧ ∃ (x : Int) (y : Option V), σ = [some (.ref a), some (.int j), some (.int x), y, none, none]) ⟨rfl, 23, none, rfl⟩ ?_ ?_
    · rintro i σ H' hi ⟨rfl, x, y, rfl⟩
      have hi2 : i < ns.length := by omega
      obtain ⟨n, h1, h2⟩ := map_int_get hi2
      have e0 : (0 : Int) + (i : Int) = ((i : Nat) : Int) := by omega
      rw [e0]
      refine ⟨_, rfl, _, _, rfl, rfl, .inr ⟨by decide, by decide⟩, _, rfl, _, rfl, a, _, _, _, rfl, rfl, hS, h2, _, rfl, _, _, rfl, rfl, _, _, rfl, rfl, .inr ⟨by omega, by omega⟩, ?_⟩
      refine ⟨_, _, rfl, rfl, _, _, rfl, rfl, .inl ⟨_, rfl, _, _, rfl, rfl, (by show (0 : Int) < 1000000007; decide), rfl, _, _, rfl⟩⟩
    · rintro σ H' ⟨rfl, x, y, rfl⟩
      -- own
      refine ⟨_, rfl, _, rfl, a, _, rfl, .inl hS, _, _, rfl, rfl, _, rfl, ?_⟩
      have fin : ∀ o : Int, (fun (σ : L2.St) (H : Hp) => L2.tSeq (tAsg (tIf (tOr (tTest (tOp (rI0 fun i j => V.bl (decide (i < j))) (tVar 4) (tC (.int 0)))) (tTest (tOp (rI0 fun i j => V.bl (decide (j ≤ i))) (tVar 4) (tOp (rI CPow fun i j => V.int (i ^ j.toNat)) (tC (.int 10)) (tC (.int 18)))))) (tCB (fun xs H Q => ∃ i, xs = [.int i] ∧ Q (.int (if i < 0 then -i else i)) H) (tCons (tVar 4) tNil)) (tC (.int 0))) (gName 5))
          (tRet (tLst (tCons (tVar 5) (tCons (tOp (rI (fun _ j => 0 < j) fun i j => V.int (i % j)) (tCB (fun xs H Q => (∃ i, xs = [V.int i] ∧ Q (V.int i) H) ∨ ∃ k, xs = [V.bl k] ∧ Q (V.int (if k then 1 else 0)) H) (tCons (tOp (rI0 fun i j => V.int (i + j)) (tOp (rI0 fun i j => V.int (i + j)) (tOp (rI CMul fun i j => V.int (i * j)) (tVar 4) (tC (.int 2654435))) (tVar 2)) (tC (.int 12345))) tNil)) (tC (.int 1000000007))) (tCons (tC (.int 0)) tNil))))) { nx := fun _ H' => Q .non H', rt := Q } σ H) [some (.ref a), some (.int j), some (.int x), y, some (.int o), none] H' := by
        intro o
        refine ⟨_, rfl, _, _, rfl, rfl, _, rfl, ?_⟩
        have last : ∀ d : Int, 0 ≤ d → (fun (σ : L2.St) (H : Hp) => tRet (tLst (tCons (tVar 5) (tCons (tOp (rI (fun _ j => 0 < j) fun i j => V.int (i % j)) (tCB (fun xs H Q => (∃ i, xs = [V.int i] ∧ Q (V.int i) H) ∨ ∃ k, xs = [V.bl k] ∧ Q (V.int (if k then 1 else 0)) H) (tCons (tOp (rI0 fun i j => V.int (i + j)) (tOp (rI0 fun i j => V.int (i + j)) (tOp (rI CMul fun i j => V.int (i * j)) (tVar 4) (tC (.int 2654435))) (tVar 2)) (tC (.int 12345))) tNil)) (tC (.int 1000000007))) (tCons (tC (.int 0)) tNil)))) { nx := fun _ H' => Q .non H', rt := Q } σ H) [some (.ref a), some (.int j), some (.int x), y, some (.int o), some (.int d)] H' := by
          intro d hd
          refine ⟨_, rfl, _, rfl, _, _, rfl, rfl, .inr ⟨by decide, by decide⟩, _, rfl, _, _, rfl, rfl, _, _, rfl, rfl, .inl ⟨_, rfl, _, _, rfl, rfl, (by show (0 : Int) < 1000000007; decide), (by show 3 ≤ sizeLine; decide), fun p np => ?_⟩⟩
          exact k p _ _ 0 np ⟨hd, Int.emod_nonneg _ (by decide), Int.emod_lt_of_pos _ (by decide), by decide⟩
        refine ite2 (fun z => ?_) (fun z => ?_)
        · refine iteT ⟨_, rfl, _, rfl, ?_⟩
          exact last _ (by have := of_decide_eq_true z; split <;> omega)
        · refine ⟨_, rfl, _, _, rfl, rfl, ⟨by decide, by decide, by decide⟩, _, _, rfl, rfl, _, rfl, ?_⟩
          refine ite2 (fun z2 => ⟨_, rfl, _, rfl, ?_⟩) (fun z2 => ?_)
          · exact last _ (by split <;> omega)
          · exact last 0 (by omega)
      refine ite2 (fun z => ?_) (fun z => ?_)
      · have hj2 : j < ns.length := by
          have := of_decide_eq_true z
          rw [hlen] at this
          omega
        obtain ⟨n, h1, h2⟩ := map_int_get hj2
        exact ⟨_, rfl, _, rfl, a, _, _, _, rfl, rfl, hS, h2, fin n⟩
      · exact ⟨_, rfl, _, _, rfl, rfl, .inr ⟨by decide, by decide⟩, _, rfl, _, _, rfl, rfl, .inr ⟨by decide, by decide⟩, _, _, rfl, rfl, fin _⟩
end
end K01

namespace Hk
open PySem PySem.Spec PyProof.Rows L2 NumM NumT SX
theorem iL_small (z : Int) : ∀ c ∈ iL z, c < 128 := fun c hc => by
  unfold iL at hc
  split at hc
  · rcases List.mem_cons.mp hc with h | h
    · omega
    · have := numL_all _ c h; omega
  · have := numL_all _ c hc; omega
theorem fL_small (t b : Int) : ∀ c ∈ fL t b, c < 128 := fun c hc => by
  unfold fL at hc
  split at hc
  · exact iL_small _ c hc
  · rcases List.mem_append.mp hc with h | h
    · exact iL_small _ c h
    · rcases List.mem_cons.mp h with h | h
      · omega
      · exact iL_small _ c h
/-- repr of a Number, by its codes -/
def rL (t b : Int) : List Nat := [78, 117, 109, 98, 101, 114, 40] ++ fL t b ++ [41]
theorem repr_S (t b : Int) : ("Number(" : Str) ++ S (fL t b) ++ (")" : Str) = S (rL t b) := by
  have e1 : ("Number(" : Str) = S [78, 117, 109, 98, 101, 114, 40] := by decide +kernel
  have e2 : (")" : Str) = S [41] := by decide +kernel
  rw [e1, e2, S_cat, S_cat]
  rfl
theorem rL_small (t b : Int) : ∀ c ∈ rL t b, c < 128 := fun c hc => by
  unfold rL at hc
  rcases List.mem_append.mp hc with h | h
  · rcases List.mem_append.mp h with h | h
    · exact (by decide : ∀ c ∈ [78, 117, 109, 98, 101, 114, 40], c < 128) c h
    · exact fL_small _ _ c h
  · rw [List.mem_singleton.mp h]; decide
/-- what is shown of a Number -/
def seenD (t b : Int) : PyData := .list [.int t, .int b, .int (sgn t), .str (S (fL t b)), .str (S (rL t b)), .bool true]
def seenT (t b : Int) : Str := (seenD t b).shown
theorem sgn_sz (t : Int) : Sz (sgn t) := by
  unfold sgn
  split
  · decide +kernel
  · split <;> decide +kernel
theorem show_int {i : Int} (h : Sz i) : (PyData.int i).showable = true := by
  simp only [PyData.showable, decide_eq_true_eq]
  exact log2_small h
theorem short_int {i : Int} (h : Sz i) : (PyData.int i).leavesShort 320 = true := by
  simp only [PyData.leavesShort, decide_eq_true_eq]
  rw [PyData.shown_int, toS, S_len]
  have := i_len h
  omega
theorem short_S {a : List Nat} (h : ∀ c ∈ a, c < 128) : (PyData.str (S a)).leavesShort 320 = true := by
  simp only [PyData.leavesShort, List.all_eq_true, decide_eq_true_eq]
  intro c hc
  exact Nat.lt_trans (h c hc) (by decide)
theorem seen_ok {t b : Int} (st : Sz t) (sb : Sz b) : (seenD t b).showable = true ∧ (seenD t b).depth ≤ 60 ∧ (seenD t b).shown.length ≤ sizeLine := by
  have l := f_len st sb
  refine ⟨?_, ?_, ?_⟩
  · unfold seenD
    have a := show_int st
    have c := show_int sb
    have d := show_int (sgn_sz t)
    simp only [PyData.showable, PyData.showableAll] at a c d ⊢
    simp [a, c, d]
  · unfold seenD
    simp [PyData.depth, PyData.depthAll]
  · have h := PyData.shown_le_bulk 320 (by decide) (seenD t b) (by
      have a := short_int st
      have c := short_int sb
      have d := short_int (sgn_sz t)
      have e := short_S (fL_small t b)
      have f := short_S (rL_small t b)
      have g : (PyData.bool true).leavesShort 320 = true := rfl
      unfold seenD
      simp only [PyData.leavesShort, PyData.leavesShortAll] at a c d e f g ⊢
      simp [a, c, d, e, f])
    have hb : (seenD t b).bulk ≤ 2000 := by
      unfold seenD
      simp only [PyData.bulk, PyData.bulkAll]
      have e1 : (S (fL t b)).cps.size = (fL t b).length := by simp
      have e2 : (S (rL t b)).cps.size = (fL t b).length + 8 := by simp [rL]
      rw [e1, e2]
      omega
    rw [sizeLine_eq]
    have : 322 * (seenD t b).bulk ≤ 322 * 2000 := Nat.mul_le_mul (Nat.le_refl _) hb
    omega
theorem dp_seen {K : Fr} {H : Hp} {p : Addr} {t b z : Int} (hz : z = sgn t) (h : H p = some (.lst [.int t, .int b, .int z, .str (S (fL t b)), .str (S (rL t b)), .bl true])) : Dp K H (.ref p) (seenD t b) := by
  subst hz
  exact .lst (.inl (.inl h)) (.cons (.int _) (.cons (.int _) (.cons (.int _) (.cons (.str _) (.cons (.str _) (.cons (.bl _) .nil))))))
theorem dp_due {K : Fr} {H : Hp} {p : Addr} {t b z : Int} (hz : z = sgn t) (h : H p = some (.lst [.int t, .int b, .int z, .str (S (fL t b)), .str (("Number(" : Str) ++ S (fL t b) ++ (")" : Str)), .bl true])) : Dp K H (.ref p) (seenD t b) := by
  rw [repr_S] at h
  exact dp_seen hz h
end Hk
namespace K01
open PySem PySem.Spec PyProof.Rows L2 Hk NumM NumT SX
section
variable {P : Program} {w : World} {K : Fr} {mg : Str → Option Value} {base : Heap}
/-- an item of a list is drawn -/
def spOne : Sp := fun vs H Q _ => ∃ (a q : Addr) (d e c : Int) (xs : List V), vs = [.ref a, .ref q] ∧ H a = some (.lst (sprL d e c)) ∧ Spr d e c ∧ H q = some (.lst xs) ∧ a ≠ q ∧ xs ≠ [] ∧ xs.length ≤ 1000 ∧
  ∀ (x : V) (d' e' c' : Int), x ∈ xs → Spr d' e' c' → Q x (upd H a (.lst (sprL d' e' c')))
theorem c_one (T : Tx K mg) : Cal P w K mg base 2 "_law_one" (gAd "_law_one" K) ["_law_spring_here", "_law_things"] spOne := by
  have C_l_next := c_next (P := P) (w := w) (base := base) T
  refine cal_of (d := d_l_one) (N := ["_law_spring_here", "_law_things"]) (a_l_one T.c) rfl sc_l_one (g_l_one T) (fun _ _ _ _ _ _ us hl => match us, hl with | [_, _], _ => rfl) (fun vs H Q E h => ?_) (fun cdv A outer s H vs Q E hr h => ?_)
  · obtain ⟨a, q, d, e, c, xs, rfl, _⟩ := h
    rfl
  · obtain ⟨a, q, d, e, c, xs, rfl, ha, hs, hq, ne, nx, hl, k⟩ := h
    have lp : 0 < xs.length := List.length_pos_iff.mpr nx
    refine ⟨_, (pss_one (ps_ret (pe_ix ix_list (pv 1) (pe_c C_l_next hr (pa_cons (pv 0) (pa_cons (pe_callB call_len_seq (by rfl) (n_len T) bo_len (pa_cons (pv 1) pa_nil)) pa_nil))) (fun _ _ => rfl)))), ?_⟩
    refine ⟨_, rfl, _, rfl, _, rfl, q, xs, rfl, .inl (.inl (.inl hq)), a, _, d, e, c, rfl, ha, hs, by omega, ?_, fun v d' e' c' h0 h1 hs' => ?_⟩
    · have : ((xs.length : Nat) : Int).natAbs = xs.length := by omega
      rw [this]
      exact Nat.lt_of_le_of_lt hl (by decide +kernel)
    · obtain ⟨j, rfl⟩ := Int.eq_ofNat_of_zero_le h0
      have hj : j < xs.length := by omega
      have hx : xs[j]? = some xs[j] := by simp [hj]
      exact ⟨q, xs, _, xs[j], rfl, rfl, .inl (.inl (by rw [upd_ne (Ne.symm ne)]; exact hq)), atI_nat hx, k _ d' e' c' (List.getElem_mem hj) hs'⟩
/-- the law's own lowest terms -/
def spLow : Sp := fun vs H Q _ => ∃ h b : Int, vs = [.int h, .int b] ∧ b ≠ 0 ∧ Sz h ∧ Sz b ∧ ∀ p : Addr, H p = none → Q (.ref p) (upd H p (.tup [.int (lowT h b), .int (lowB h b)]))
theorem c_low (T : Tx K mg) : Cal P w K mg base 1 "_law_low" (gAd "_law_low" K) ["_law_head", "_law_base"] spLow := by
  refine cal_of (d := d_l_low) (N := ["_law_head", "_law_base", "_law_one_here", "_law_two", "_law_sign"]) (a_l_low T.c) rfl sc_l_low (g_l_low T) (fun _ _ _ _ _ _ us hl => match us, hl with | [_, _], _ => rfl) (fun vs H Q E h => ?_) (fun cdv A outer s H vs Q E hr h => ?_)
  · obtain ⟨h, b, rfl, _⟩ := h
    rfl
  · obtain ⟨h, b, rfl, hb, sh, sb, k⟩ := h
    refine ⟨_, (pss_cons (ps_par (i := 2) (j := 3) (by rfl) sc_l_low.nd rfl rfl (by decide) rfl rfl (pa_cons (pe_callB call_abs (by rfl) (n_abs T) bo_abs (pa_cons (pv 0) pa_nil)) (pa_cons (pe_callB call_abs (by rfl) (n_abs T) bo_abs (pa_cons (pv 1) pa_nil)) pa_nil)) (by rfl))
 (pss_cons (ps_while PassesOwn.never (pt_cmpR op_ne (pv 3) pe_int (nomark _))
 (pss_one (ps_par (i := 2) (j := 3) (by rfl) sc_l_low.nd rfl rfl (by decide) rfl rfl (pa_cons (pv 3) (pa_cons (pe_op op_modN (pv 2) (pv 3)) pa_nil)) (by rfl))))
 (pss_cons (ps_set (i := 4) sc_l_low.nd rfl (.inl rfl) (pe_ifExp (pt_cmpR op_lt (pv 1) pe_int (nomark _)) (pe_un un_neg pe_int) pe_int))
 (pss_one (ps_ret (pe_tup (pa_cons (pe_op op_fdivW (pe_op op_mul (pv 4) (pv 0)) (pv 2)) (pa_cons (pe_op op_fdivW (pe_op op_mul (pv 4) (pv 1)) (pv 2)) pa_nil)))))))), ?_⟩
    have abse : ∀ z : Int, (if z < 0 then -z else z) = ((z.natAbs : Nat) : Int) := fun z => by split <;> omega
    refine ⟨_, rfl, _, rfl, _, rfl, _, rfl, _, _, rfl, ?_⟩
    rw [abse, abse]
    refine while_by (fun σ H' => H' = H ∧ ∃ x y : Nat, σ = [some (.int h), some (.int b), some (.int x), some (.int y), none] ∧ Nat.gcd x y = Nat.gcd h.natAbs b.natAbs)
      (fun σ _ => match σ with | [_, _, _, some (.int y), _] => y.natAbs | _ => 0) ⟨rfl, h.natAbs, b.natAbs, rfl, rfl⟩ ?_ ?_
    · rintro σ H' ⟨rfl, x, y, rfl, hg⟩
      refine ⟨_, rfl, rfl, _, rfl, ?_⟩
      by_cases hy : y = 0
      · subst hy
        rw [show (V.int ((0 : Nat) : Int)) = V.int 0 from rfl]
        refine iteNS rfl ?_
        -- behind the loop
        rw [Nat.gcd_zero_right] at hg
        have hgd : ((x : Nat) : Int) = gd h b := by rw [hg]; rfl
        have hp := gd_pos (h := h) hb
        refine ⟨_, rfl, _, _, rfl, rfl, _, rfl, ?_⟩
        have fin : ∀ sg' : Int, sg' = sg b → (fun (σ : L2.St) (H : Hp) => tRet (tTup (tCons (tOp (rI CDivW fun i j => .int (i / j)) (tOp (rI CMul fun i j => .int (i * j)) (tVar 4) (tVar 0)) (tVar 2)) (tCons (tOp (rI CDivW fun i j => .int (i / j)) (tOp (rI CMul fun i j => .int (i * j)) (tVar 4) (tVar 1)) (tVar 2)) tNil))) { nx := fun _ H' => Q .non H', rt := Q } σ H) [some (.int h), some (.int b), some (.int x), some (.int ((0 : Nat) : Int)), some (.int sg')] H' := by
          rintro s' rfl
          rw [hgd]
          have sgs : CMul (sg b) h ∧ CMul (sg b) b := by unfold sg CMul; split <;> exact ⟨.inl ⟨by decide, by decide⟩, .inl ⟨by decide, by decide⟩⟩
          have dv : ∀ z : Int, CDivW z (gd h b) := fun z => wide_div hp (Nat.lt_of_le_of_lt (gd_le hb) sb) (by decide) (by decide)
          refine ⟨_, rfl, _, rfl, _, _, rfl, rfl, sgs.1, _, rfl, _, _, rfl, rfl, dv _, _, rfl, _, rfl, _, _, rfl, rfl, sgs.2, _, rfl, _, _, rfl, rfl, dv _, (by show 2 ≤ sizeLine; decide), fun p np => ?_⟩
          exact k p np
        refine ite2 (fun z => ?_) (fun z => ?_)
        · exact ⟨_, rfl, fin _ (by unfold sg; rw [if_pos (of_decide_eq_true z)])⟩
        · exact fin _ (by unfold sg; rw [if_neg (fun q => z (decide_eq_true q))])
      · have hd : (!decide (V.int ((y : Nat) : Int) = V.int 0)) = true := by
          rw [Bool.not_eq_true', decide_eq_false]
          intro q
          have := V.int.inj q
          omega
        rw [hd]
        refine iteT ?_
        refine ⟨_, rfl, _, rfl, _, rfl, _, _, rfl, rfl, (by show ((y : Nat) : Int) ≠ 0; omega), _, _, rfl, ⟨rfl, y, x % y, ?_, ?_⟩, ?_⟩
        · show [_, _, _, some (V.int ((x : Int).fmod (y : Int))), _] = _
          rw [show ((x : Nat) : Int).fmod ((y : Nat) : Int) = ((x % y : Nat) : Int) from by rw [Int.fmod_eq_emod_of_nonneg _ (by omega)]; rfl]
        · rw [Nat.gcd_comm, ← Nat.gcd_rec, Nat.gcd_comm, hg]
        · show ((x : Int).fmod (y : Int)).natAbs < (((y : Nat) : Int)).natAbs
          rw [show ((x : Nat) : Int).fmod ((y : Nat) : Int) = ((x % y : Nat) : Int) from by rw [Int.fmod_eq_emod_of_nonneg _ (by omega)]; rfl]
          have := Nat.mod_lt x (show 0 < y by omega)
          omega
    · rintro σ H' Q1 Q2 hm ⟨v, e, hsc, kk, ek, q⟩
      exact ⟨v, e, hsc, kk, ek, hm _ _ q⟩
end
end K01

namespace Hk
open PySem PySem.Spec PyProof.Rows L2 NumM NumT SX
/-- a promise of a def over a pair (a tuple of two ints at p) -/
def spPair (g : Int → Int → V) : Sp := fun vs H Q _ => ∃ (p : Addr) (t b : Int), vs = [.ref p] ∧ H p = some (.tup [.int t, .int b]) ∧ 0 < b ∧ Sz t ∧ Sz b ∧ ∀ H', Same H H' → Q (g t b) H'
def spSeen (C : Addr) : Sp := fun vs H Q _ => ∃ (p : Addr) (t b : Int), vs = [.ref p] ∧ NumAt C H p t b ∧ Sz t ∧ Sz b ∧ ∀ H', Same H H' → Q (.str (seenT t b)) H'
theorem add_SS (a b : List Nat) : S a ++ S b = S (a ++ b) := S_cat a b
end Hk
namespace K01
open PySem PySem.Spec PyProof.Rows L2 Hk NumM NumT SX
section
variable {P : Program} {w : World} {K : Fr} {mg : Str → Option Value} {base : Heap}
theorem c_written (T : Tx K mg) : Cal P w K mg base 1 "_law_written" (gAd "_law_written" K) ["_law_pair"] (spPair fun t b => .str (S (fL t b))) := by
  refine cal_of (d := d_l_written) (N := ["_law_pair"]) (a_l_written T.c) rfl sc_l_written (g_l_written T) (fun _ _ _ _ _ _ us hl => match us, hl with | [_], _ => rfl) (fun vs H Q E h => ?_) (fun cdv A outer s H vs Q E hr h => ?_)
  · obtain ⟨p, t, b, rfl, _⟩ := h
    rfl
  · obtain ⟨p, t, b, rfl, hp, hb, st, sb, k⟩ := h
    refine ⟨_, (pss_one (ps_ret (pe_ifExp (pt_cmpR op_eq (pe_ix ix_tup (pv 0) pe_int (fun _ _ => rfl)) pe_int (nomark _)) (pe_callTy call_str_int (by rfl) (n_str T) bo_str (pa_cons (pe_ix ix_tup (pv 0) pe_int (fun _ _ => rfl)) pa_nil)) (pe_op op_add_str (pe_op op_add_str (pe_callTy call_str_int (by rfl) (n_str T) bo_str (pa_cons (pe_ix ix_tup (pv 0) pe_int (fun _ _ => rfl)) pa_nil)) pe_str) (pe_callTy call_str_int (by rfl) (n_str T) bo_str (pa_cons (pe_ix ix_tup (pv 0) pe_int (fun _ _ => rfl)) pa_nil)))))), ?_⟩
    have l1 := i_len st
    have l2 := i_len sb
    have k := k H (Same.refl H)
    refine ⟨_, rfl, p, _, _, _, rfl, rfl, .inl (.inl hp), rfl, rfl, _, rfl, ?_⟩
    refine ite2 (fun z => ?_) (fun z => ?_)
    · have e : b = 1 := V.int.inj (of_decide_eq_true z)
      refine ⟨_, rfl, p, _, _, _, rfl, rfl, .inl (.inl hp), rfl, _, rfl, log2_small st, ?_⟩
      have k' : Q (.str (S (fL t b))) H := k
      unfold fL at k'
      rw [if_pos e] at k'
      show Q (.str _) H
      rw [toS]
      exact k'
    · have e : ¬ b = 1 := fun q => z (decide_eq_true (by rw [q]))
      refine ⟨_, rfl, p, _, _, _, rfl, rfl, .inl (.inl hp), rfl, _, rfl, log2_small st, _, _, rfl, rfl, ?_, ?_⟩
      · rw [toS, slash_S, S_len, S_len]
        exact line_ge (by simp; omega)
      refine ⟨_, rfl, p, _, _, _, rfl, rfl, .inl (.inl hp), rfl, _, rfl, log2_small sb, _, _, rfl, rfl, ?_, ?_⟩
      · rw [toS, toS, slash_S, S_cat, S_len, S_len]
        exact line_ge (by simp; omega)
      have k' : Q (.str (S (fL t b))) H := k
      unfold fL at k'
      rw [if_neg e] at k'
      show Q (.str _) H
      rw [toS, toS, slash_S, S_cat, S_cat, List.append_assoc]
      exact k'
theorem c_seen (T : Tx K mg) : CalG P w K mg base 6 "_law_seen" (gAd "_law_seen" K) ["_law_number"] (spSeen (CN K)) := by
  obtain ⟨f1, D1, F1⟩ := f_top (P := P) (w := w) (base := base) T
  obtain ⟨f2, D2, F2⟩ := f_bottom (P := P) (w := w) (base := base) T
  obtain ⟨f3, D3, F3⟩ := f_sign (P := P) (w := w) (base := base) T
  obtain ⟨f4, D4, F4⟩ := f_str (P := P) (w := w) (base := base) T
  obtain ⟨f5, D5, F5⟩ := f_repr (P := P) (w := w) (base := base) T
  have e5 : (fun t b : Int => V.str (("Number(" : Str) ++ S (fL t b) ++ (")" : Str))) = fun t b => V.str (S (rL t b)) := by
    funext t b
    rw [repr_S]
  rw [e5] at F5
  have b1 : Binds K f1 ["self"] [] := FunD.bindsN D1 fun _ _ _ _ _ _ us hl => match us, hl with | [_], _ => rfl
  have b2 : Binds K f2 ["self"] [] := FunD.bindsN D2 fun _ _ _ _ _ _ us hl => match us, hl with | [_], _ => rfl
  have b3 : Binds K f3 ["self"] [] := FunD.bindsN D3 fun _ _ _ _ _ _ us hl => match us, hl with | [_], _ => rfl
  have b4 : Binds K f4 ["self"] [] := FunD.bindsN D4 fun _ _ _ _ _ _ us hl => match us, hl with | [_], _ => rfl
  have b5 : Binds K f5 ["self"] [] := FunD.bindsN D5 fun _ _ _ _ _ _ us hl => match us, hl with | [_], _ => rfl
  refine calg_of (d := d_l_seen) (N := ["_law_number"]) (a_l_seen T.c) rfl sc_l_seen (g_l_seen T) (fun _ _ _ _ _ _ us hl => match us, hl with | [_], _ => rfl) (fun vs H Q E h => ?_) (fun cdv A outer s H vs Q E hr hc h => ?_)
  · obtain ⟨p, t, b, rfl, _⟩ := h
    rfl
  · obtain ⟨p, t, b, rfl, N, st, sb, k⟩ := h
    obtain ⟨dx, hp⟩ := id N.at_
    have hr2 : Room 2 _ := hr.mono (by decide)
    refine ⟨_, (pss_one (ps_ret (pe_callB (call_reprD hc hr) (by rfl) (n_repr T) bo_repr (pa_cons (pe_lst
      (pa_cons (pe_prop (pv 0) (cl T) (prop_ok (f_prop_top T.c)) F1 hr2 b1 .nil pass0 rfl)
      (pa_cons (pe_prop (pv 0) (cl T) (prop_ok (f_prop_bottom T.c)) F2 hr2 b2 .nil pass0 rfl)
      (pa_cons (pe_prop (pv 0) (cl T) (prop_ok (f_prop_sign T.c)) F3 hr2 b3 .nil pass0 rfl)
      (pa_cons (pe_callTy (call_strO (own_ok (f_meth_str T.c)) F4 b4 (hr.mono (by decide))) (by rfl) (n_str T) bo_str (pa_cons (pv 0) pa_nil))
      (pa_cons (pe_callB (call_reprO (own_ok (f_meth_repr T.c)) F5 b5 hr) (by rfl) (n_repr T) bo_repr (pa_cons (pv 0) pa_nil))
      (pa_cons (pe_callB call_isi (by rfl) (n_isinstance T) bo_isinstance (pa_cons (pv 0) (pa_cons (pe_glob (v := .ref (gAd "Number" K)) rfl (g_Number T) rfl) pa_nil))) pa_nil))))))) pa_nil)))), ?_⟩
    refine ⟨_, rfl, p, dx, _, rfl, hp, p, t, b, rfl, N, st, sb, ?_⟩
    refine ⟨_, rfl, p, dx, _, rfl, hp, p, t, b, rfl, N, st, sb, ?_⟩
    refine ⟨_, rfl, p, dx, _, rfl, hp, p, t, b, rfl, N, st, sb, ?_⟩
    refine ⟨_, rfl, p, dx, _, rfl, hp, p, t, b, rfl, N, st, sb, _, rfl, ?_⟩
    refine ⟨_, rfl, p, dx, _, rfl, hp, p, t, b, rfl, N, st, sb, _, rfl, ?_⟩
    refine ⟨_, rfl, _, _, _, _, true, rfl, .own _, .base (ins_ok (f_ins T.c) hp (cl T)), of_decide_eq_true (f_kitO T.c), (by show 6 ≤ sizeLine; decide), fun q nq => ?_⟩
    obtain ⟨o1, o2, o3⟩ := seen_ok st sb
    exact ⟨_, seenD t b, rfl, dp_seen rfl upd_same, o1, o2, o3, k _ (same_upd nq)⟩
theorem c_due (T : Tx K mg) : CalG P w K mg base 2 "_law_due" (gAd "_law_due" K) ["_law_pair"] (spPair fun t b => .str (seenT t b)) := by
  have C_l_written := c_written (P := P) (w := w) (base := base) T
  refine calg_of (d := d_l_due) (N := ["_law_pair", "_law_sign"]) (a_l_due T.c) rfl sc_l_due (g_l_due T) (fun _ _ _ _ _ _ us hl => match us, hl with | [_], _ => rfl) (fun vs H Q E h => ?_) (fun cdv A outer s H vs Q E hr hc h => ?_)
  · obtain ⟨p, t, b, rfl, _⟩ := h
    rfl
  · obtain ⟨p, t, b, rfl, hp, hb, st, sb, k⟩ := h
    refine ⟨_, (pss_cons (ps_set (i := 1) sc_l_due.nd rfl (.inl rfl) (pe_ifExp (pt_cmpR op_gt (pe_ix ix_tup (pv 0) pe_int (fun _ _ => rfl)) pe_int (nomark _)) pe_int (pe_ifExp (pt_cmpR op_eq (pe_ix ix_tup (pv 0) pe_int (fun _ _ => rfl)) pe_int (nomark _)) pe_int (pe_un un_neg pe_int))))
 (pss_one (ps_ret (pe_callB (call_reprD hc hr) (by rfl) (n_repr T) bo_repr (pa_cons (pe_lst (pa_cons (pe_ix ix_tup (pv 0) pe_int (fun _ _ => rfl)) (pa_cons (pe_ix ix_tup (pv 0) pe_int (fun _ _ => rfl)) (pa_cons (pv 1) (pa_cons (pe_c C_l_written hr (pa_cons (pv 0) pa_nil)) (pa_cons (pe_op op_add_str (pe_op op_add_str pe_str (pe_c C_l_written hr (pa_cons (pv 0) pa_nil))) pe_str) (pa_cons pe_bl pa_nil))))))) pa_nil))))), ?_⟩
    have l := f_len st sb
    obtain ⟨o1, o2, o3⟩ := seen_ok st sb
    have e1 : ("Number(" : Str) = S [78, 117, 109, 98, 101, 114, 40] := by decide +kernel
    have e2 : (")" : Str) = S [41] := by decide +kernel
    refine ⟨_, rfl, p, _, _, _, rfl, rfl, .inl (.inl hp), rfl, _, _, rfl, rfl, _, rfl, ?_⟩
    refine ite2 (fun z => ?_) (fun z => ?_)
    · have z' : 0 < t := of_decide_eq_true z
      have hz : (1 : Int) = sgn t := by unfold sgn; rw [if_neg (by omega), if_pos z']
      refine ⟨_, rfl, p, _, _, _, rfl, rfl, .inl (.inl hp), rfl, _, rfl, p, _, _, _, rfl, rfl, .inl (.inl hp), rfl, _, rfl, _, rfl, p, t, b, rfl, hp, hb, st, sb, fun H1 s1 => ?_⟩
      refine ⟨_, rfl, p, t, b, rfl, s1 _ _ hp, hb, st, sb, fun H2 s2 => ?_⟩
      refine ⟨_, _, rfl, rfl, (by rw [e1, S_len, S_len]; exact line_ge (by simp; omega)), _, _, rfl, rfl, (by rw [e1, e2, S_cat, S_len, S_len]; exact line_ge (by simp; omega)), (by show 6 ≤ sizeLine; decide), fun q nq => ?_⟩
      refine ⟨_, seenD t b, rfl, dp_due hz upd_same, o1, o2, o3, k _ (same_upd' (s1.trans s2) ((s1.trans s2).free nq))⟩
    · have z' : ¬ 0 < t := fun q => z (decide_eq_true q)
      refine ⟨_, rfl, p, _, _, _, rfl, rfl, .inl (.inl hp), rfl, rfl, _, rfl, ?_⟩
      refine ite2 (fun y => ?_) (fun y => ?_)
      · have y' : t = 0 := V.int.inj (of_decide_eq_true y)
        have hz : (0 : Int) = sgn t := by unfold sgn; rw [if_pos y']
        refine ⟨_, rfl, p, _, _, _, rfl, rfl, .inl (.inl hp), rfl, _, rfl, p, _, _, _, rfl, rfl, .inl (.inl hp), rfl, _, rfl, _, rfl, p, t, b, rfl, hp, hb, st, sb, fun H1 s1 => ?_⟩
        refine ⟨_, rfl, p, t, b, rfl, s1 _ _ hp, hb, st, sb, fun H2 s2 => ?_⟩
        refine ⟨_, _, rfl, rfl, (by rw [e1, S_len, S_len]; exact line_ge (by simp; omega)), _, _, rfl, rfl, (by rw [e1, e2, S_cat, S_len, S_len]; exact line_ge (by simp; omega)), (by show 6 ≤ sizeLine; decide), fun q nq => ?_⟩
        refine ⟨_, seenD t b, rfl, dp_due hz upd_same, o1, o2, o3, k _ (same_upd' (s1.trans s2) ((s1.trans s2).free nq))⟩
      · have y' : ¬ t = 0 := fun q => y (decide_eq_true (by rw [q]))
        have hz : (-1 : Int) = sgn t := by unfold sgn; rw [if_neg y', if_neg z']
        refine ⟨_, rfl, ?_⟩
        refine ⟨_, rfl, p, _, _, _, rfl, rfl, .inl (.inl hp), rfl, _, rfl, p, _, _, _, rfl, rfl, .inl (.inl hp), rfl, _, rfl, _, rfl, p, t, b, rfl, hp, hb, st, sb, fun H1 s1 => ?_⟩
        refine ⟨_, rfl, p, t, b, rfl, s1 _ _ hp, hb, st, sb, fun H2 s2 => ?_⟩
        refine ⟨_, _, rfl, rfl, (by rw [e1, S_len, S_len]; exact line_ge (by simp; omega)), _, _, rfl, rfl, (by rw [e1, e2, S_cat, S_len, S_len]; exact line_ge (by simp; omega)), (by show 6 ≤ sizeLine; decide), fun q nq => ?_⟩
        refine ⟨_, seenD t b, rfl, dp_due hz upd_same, o1, o2, o3, k _ (same_upd' (s1.trans s2) ((s1.trans s2).free nq))⟩
end
end K01

namespace Hk
open PySem PySem.Spec PyProof.Rows L2 NumM NumT SX
/-- all but what stands at a is as it was -/
def Old (a : Addr) (H H' : Hp) : Prop := ∀ x o, H x = some o → x ≠ a → H' x = some o
theorem Old.refl (a : Addr) (H : Hp) : Old a H H := fun _ _ h _ => h
theorem Old.trans {a : Addr} {H H1 H2 : Hp} (s : Old a H H1) (t : Old a H1 H2) : Old a H H2 := fun x o h n => t x o (s x o h n) n
theorem Old.same {a : Addr} {H H1 : Hp} (s : Same H H1) : Old a H H1 := fun x o h _ => s x o h
theorem Old.put {a : Addr} {H : Hp} {o : HO} : Old a H (upd H a o) := fun x u h n => by
  rw [upd_ne n]
  exact h
theorem Old.new {a p : Addr} {H : Hp} {o : HO} (np : H p = none) : Old a H (upd H p o) := Old.same (same_upd np)
end Hk
namespace K01
open PySem PySem.Spec PyProof.Rows L2 Hk NumM NumT SX
def SprAt (a : Addr) (H : Hp) : Prop := ∃ d e c, H a = some (.lst (sprL d e c)) ∧ Spr d e c
theorem SprAt.same {a : Addr} {H H' : Hp} (s : SprAt a H) (h : Same H H') : SprAt a H' := by
  obtain ⟨d, e, c, h1, h2⟩ := s
  exact ⟨d, e, c, h _ _ h1, h2⟩
theorem SprAt.ne {a p : Addr} {H : Hp} (s : SprAt a H) (np : H p = none) : a ≠ p := by
  obtain ⟨d, e, c, h1, h2⟩ := s
  exact ne_of_none h1 np
def spNextO : Sp := fun vs H Q _ => ∃ (a : Addr) (m : Int), vs = [.ref a, .int m] ∧ SprAt a H ∧ 0 < m ∧ m.natAbs < 2 ^ 200 ∧ ∀ (v : Int) (H' : Hp), 0 ≤ v → v < m → Old a H H' → SprAt a H' → Q (.int v) H'
def spOneO : Sp := fun vs H Q _ => ∃ (a q : Addr) (xs : List V), vs = [.ref a, .ref q] ∧ SprAt a H ∧ H q = some (.lst xs) ∧ a ≠ q ∧ xs ≠ [] ∧ xs.length ≤ 1000 ∧ ∀ (x : V) (H' : Hp), x ∈ xs → Old a H H' → SprAt a H' → Q x H'
def spParts : Sp := fun vs H Q _ => ∃ a : Addr, vs = [.ref a] ∧ SprAt a H ∧ ∀ (H' : Hp) (p : Addr) (h b : Int), Old a H H' → SprAt a H' → H' p = some (.lst [.int h, .int b]) → p ≠ a → b ≠ 0 → h.natAbs < 2 ^ 200 → b.natAbs < 2 ^ 200 → Q (.ref p) H'
section
variable {P : Program} {w : World} {K : Fr} {mg : Str → Option Value} {base : Heap}
theorem c_nextO (T : Tx K mg) : Cal P w K mg base 1 "_law_next" (gAd "_law_next" K) ["_law_spring_here", "_law_many"] spNextO :=
  (c_next T).imp fun vs H Q E ⟨a, m, e, ⟨d, x, c, h1, h2⟩, hm, hm2, k⟩ => ⟨a, m, d, x, c, e, h1, h2, hm, hm2, fun v d' e' c' v0 v1 s => k v _ v0 v1 Old.put ⟨d', e', c', upd_same, s⟩⟩
theorem c_oneO (T : Tx K mg) : Cal P w K mg base 2 "_law_one" (gAd "_law_one" K) ["_law_spring_here", "_law_things"] spOneO :=
  (c_one T).imp fun vs H Q E ⟨a, q, xs, e, ⟨d, x, c, h1, h2⟩, hq, ne, nx, hl, k⟩ => ⟨a, q, d, x, c, xs, e, h1, h2, hq, ne, nx, hl, fun v d' e' c' hv s => k v _ hv Old.put ⟨d', e', c', upd_same, s⟩⟩
theorem p37 : ((10 : Int) ^ (37 : Int).toNat) = 10000000000000000000000000000000000000 := by decide +kernel
theorem p20 : ((10 : Int) ^ (20 : Int).toNat) = 100000000000000000000 := by decide +kernel
theorem sz_of {z : Int} (h : -(2 ^ 200) < z) (h2 : z < 2 ^ 200) : Sz z := by
  have e : (2 : Nat) ^ 200 ≤ 2 ^ 1000 := by decide +kernel
  have : z.natAbs < 2 ^ 200 := by omega
  exact Nat.lt_of_lt_of_le this e
theorem c_parts (T : Tx K mg) : Cal P w K mg base 3 "_law_parts" (gAd "_law_parts" K) ["_law_spring_here"] spParts := by
  have C_l_next := c_nextO (P := P) (w := w) (base := base) T
  have C_l_one := c_oneO (P := P) (w := w) (base := base) T
  refine cal_of (d := d_l_parts) (N := ["_law_spring_here", "_law_way", "_law_head"]) (a_l_parts T.c) rfl sc_l_parts (g_l_parts T) (fun _ _ _ _ _ _ us hl => match us, hl with | [_], _ => rfl) (fun vs H Q E h => ?_) (fun cdv A outer s H vs Q E hr h => ?_)
  · obtain ⟨a, rfl, _⟩ := h
    rfl
  · obtain ⟨a, rfl, hs, k⟩ := h
    have hr1 : Room 1 _ := hr.mono (by decide)
    refine ⟨_, (pss_cons (ps_set (i := 1) sc_l_parts.nd rfl (.inl rfl) (pe_c C_l_next hr1 (pa_cons (pv 0) (pa_cons pe_int pa_nil))))
 (pss_cons (ps_if (pt_cmpR op_eq (pv 1) pe_int (nomark _))
 (pss_one (ps_ret (pe_lst (pa_cons (pe_op op_sub (pe_c C_l_next hr1 (pa_cons (pv 0) (pa_cons (pe_op op_pow pe_int pe_int) pa_nil))) (pe_op op_pow pe_int pe_int)) (pa_cons (pe_op op_add pe_int (pe_c C_l_next hr1 (pa_cons (pv 0) (pa_cons (pe_op op_pow pe_int pe_int) pa_nil)))) pa_nil)))))
 pss_nil)
 (pss_cons (ps_set (i := 2) sc_l_parts.nd rfl (.inl rfl) (pe_op op_sub (pe_c C_l_next hr1 (pa_cons (pv 0) (pa_cons pe_int pa_nil))) pe_int))
 (pss_one (ps_ret (pe_lst (pa_cons (pv 2) (pa_cons (pe_c C_l_one hr (pa_cons (pv 0) (pa_cons (pe_lst (pa_cons pe_int (pa_cons (pe_un un_neg pe_int) (pa_cons pe_int (pa_cons pe_int (pa_cons (pe_un un_neg pe_int) (pa_cons pe_int (pa_cons pe_int (pa_cons pe_int (pa_cons pe_int (pa_cons (pe_un un_neg pe_int) (pa_cons (pe_op op_add pe_int (pe_c C_l_next hr1 (pa_cons (pv 0) (pa_cons pe_int pa_nil)))) pa_nil)))))))))))) pa_nil))) pa_nil)))))))), ?_⟩
    refine ⟨_, rfl, a, 4, rfl, hs, by decide, by decide +kernel, fun v H1 v0 v1 o1 s1 => ?_⟩
    refine ⟨_, rfl, rfl, _, rfl, ?_⟩
    refine ite2 (fun z => ?_) (fun z => ?_)
    · refine ⟨_, rfl, _, _, rfl, rfl, ⟨by decide, by decide, by decide⟩, ?_⟩
      refine ⟨a, _, rfl, s1, by decide +kernel, by decide +kernel, fun x H2 x0 x1 o2 s2 => ?_⟩
      refine ⟨_, _, rfl, rfl, ⟨by decide, by decide, by decide⟩, _, _, rfl, rfl, _, rfl, _, _, rfl, rfl, ⟨by decide, by decide, by decide⟩, ?_⟩
      refine ⟨a, _, rfl, s2, by decide +kernel, by decide +kernel, fun y H3 y0 y1 o3 s3 => ?_⟩
      refine ⟨_, _, rfl, rfl, (by show 2 ≤ sizeLine; decide), fun p np => ?_⟩
      rw [p37] at x1 y1
      refine k _ p _ _ (((o1.trans o2).trans o3).trans (Old.new np)) (s3.same (same_upd np)) upd_same (Ne.symm (s3.ne np)) (by omega) (by rw [p20]; omega) (by omega)
    · refine ⟨_, rfl, a, 199, rfl, s1, by decide, by decide +kernel, fun x H2 x0 x1 o2 s2 => ?_⟩
      refine ⟨_, _, rfl, rfl, _, rfl, _, rfl, ?_⟩
      refine ⟨_, rfl, _, rfl, _, rfl, _, rfl, ?_⟩
      refine ⟨a, 99, rfl, s2, by decide, by decide +kernel, fun y H3 y0 y1 o3 s3 => ?_⟩
      refine ⟨_, _, rfl, rfl, (by show 11 ≤ sizeLine; decide), fun q nq => ?_⟩
      refine ⟨a, q, _, rfl, s3.same (same_upd nq), upd_same, s3.ne nq, by simp, (by show 11 ≤ 1000; decide), fun b H4 hb o4 s4 => ?_⟩
      refine ⟨(by show 2 ≤ sizeLine; decide), fun p np => ?_⟩
      obtain ⟨b', rfl, b0, b1, b2⟩ : ∃ b' : Int, b = .int b' ∧ b' ≠ 0 ∧ -1000 < b' ∧ b' < 1000 := by
        simp only [List.mem_cons, List.not_mem_nil, or_false] at hb
        rcases hb with rfl | rfl | rfl | rfl | rfl | rfl | rfl | rfl | rfl | rfl | rfl <;> exact ⟨_, rfl, by omega, by omega, by omega⟩
      exact k _ p _ b' (((((o1.trans o2).trans o3).trans (Old.new nq)).trans o4).trans (Old.new np)) (s4.same (same_upd np)) upd_same (Ne.symm (s4.ne np)) b0 (by omega) (by omega)
end
end K01

namespace Hk
open PySem PySem.Spec PyProof.Rows L2 NumM NumT SX
theorem dec_int (x y : Int) : decide (V.int x = V.int y) = decide (x = y) := by
  by_cases h : x = y
  · subst h; simp
  · rw [decide_eq_false h, decide_eq_false fun z => h (V.int.inj z)]
theorem sz200 {z : Int} (h : z.natAbs < 2 ^ 200) : Sz z := Nat.lt_of_lt_of_le h (by decide +kernel)
theorem sz_mul {x y : Int} (h : x.natAbs < 2 ^ 200) (h2 : y.natAbs < 2 ^ 4) : Sz (x * y) := Nat.lt_of_lt_of_le (wide_lt h h2) (by decide +kernel)
theorem sz_succ {x : Int} (h : x.natAbs < 2 ^ 200) : Sz (x + 1) := by
  have e : (2 : Nat) ^ 200 + 1 ≤ 2 ^ 1000 := by decide +kernel
  have : (x + 1).natAbs ≤ x.natAbs + 1 := by omega
  exact Nat.lt_of_lt_of_le (show (x + 1).natAbs < 2 ^ 200 + 1 by omega) e
/-- the fraction one greater is another one -/
theorem far_ne {t b : Int} (hb : 0 < b) : (decide (t = lowT (t + 1) b) && decide (b = lowB (t + 1) b)) = false := by
  cases h : (decide (t = lowT (t + 1) b) && decide (b = lowB (t + 1) b)) with
  | false => rfl
  | true =>
    obtain ⟨h1, h2⟩ := Bool.and_eq_true_iff.mp h
    have e1 := of_decide_eq_true h1
    have e2 := of_decide_eq_true h2
    have l := low_eq (h := t + 1) (b := b) (by omega)
    rw [← e1, ← e2, Int.add_mul, Int.one_mul] at l
    omega
theorem num_ne {C : Addr} {H : Hp} {a p : Addr} {xs : List V} {t b : Int} (N : NumAt C H p t b) (h : H a = some (.lst xs)) : p ≠ a := by
  obtain ⟨dx, e⟩ := N.at_
  exact ne_of e h (by intro z; exact nomatch z)
theorem NumAt.old {C : Addr} {H H' : Hp} {a p : Addr} {t b : Int} (N : NumAt C H p t b) (s : Old a H H') (ne : p ≠ a) : NumAt C H' p t b := by
  obtain ⟨dx, h⟩ := N.at_
  exact ⟨⟨dx, s _ _ h ne⟩, N.pos, N.cop⟩
theorem dp_strs {K : Fr} {H : Hp} {p : Addr} {xs : List Str} (h : H p = some (.lst (xs.map V.str))) : Dp K H (.ref p) (.list (xs.map PyData.str)) := by
  refine .lst (.inl (.inl h)) ?_
  clear h
  induction xs with
  | nil => exact .nil
  | cons x r ih => exact .cons (.str x) ih
theorem dp_bls {K : Fr} {H : Hp} {p : Addr} {xs : List Bool} (h : H p = some (.lst (xs.map V.bl))) : Dp K H (.ref p) (.list (xs.map PyData.bool)) := by
  refine .lst (.inl (.inl h)) ?_
  clear h
  induction xs with
  | nil => exact .nil
  | cons x r ih => exact .cons (.bl x) ih
theorem depth_strs : ∀ xs : List Str, PyData.depthAll (xs.map PyData.str) ≤ 1
  | [] => by simp [PyData.depthAll]
  | x :: r => by
    have := depth_strs r
    simp only [List.map_cons, PyData.depthAll, PyData.depth]
    omega
theorem depth_bls : ∀ xs : List Bool, PyData.depthAll (xs.map PyData.bool) ≤ 1
  | [] => by simp [PyData.depthAll]
  | x :: r => by
    have := depth_bls r
    simp only [List.map_cons, PyData.depthAll, PyData.depth]
    omega
theorem shaped_strs {xs : List Str} (h : ∀ x ∈ xs, Asc x) : SeqAt.shaped (.list (xs.map PyData.str)) = true := by
  unfold SeqAt.shaped
  rw [Bool.and_eq_true]
  refine ⟨?_, decide_eq_true ?_⟩
  · show PyData.canLayAll0 (xs.map PyData.str) = true
    rw [PyProof.Rows.canLayAll_strs', List.all_eq_true]
    exact fun x hx => (h x hx).ok
  · have := depth_strs xs
    simp only [PyData.depth]
    omega
theorem shaped_bls (xs : List Bool) : SeqAt.shaped (.list (xs.map PyData.bool)) = true := by
  unfold SeqAt.shaped
  rw [Bool.and_eq_true]
  refine ⟨?_, decide_eq_true ?_⟩
  · show PyData.canLayAll0 (xs.map PyData.bool) = true
    induction xs with
    | nil => rfl
    | cons x r ih => simpa [PyData.canLayAll0, PyData.canLay0] using ih
  · have := depth_bls xs
    simp only [PyData.depth]
    omega
theorem seen_asc (t b : Int) : Asc (seenT t b) := by
  refine shown_asc _ ?_
  unfold seenD
  simp only [ascD, ascDs, and_true, true_and]
  exact ⟨S_asc (fL_small t b), S_asc (rL_small t b)⟩
theorem eqv_strs (xs : List Str) : PyData.eqv (.list (xs.map PyData.str)) (.list (xs.map PyData.str)) = true := by
  simp only [PyData.eqv]
  induction xs with
  | nil => rfl
  | cons x r ih => simp [PyData.eqvAll, PyData.eqv, ih]
theorem eqv_bls (xs : List Bool) : PyData.eqv (.list (xs.map PyData.bool)) (.list (xs.map PyData.bool)) = true := by
  simp only [PyData.eqv]
  induction xs with
  | nil => rfl
  | cons x r ih => simp [PyData.eqvAll, PyData.eqv, ih]
/-- two keywords, given in the other order -/
def kwTurn {α : Type} (us ws : List α) : List α := match ws with
  | [b, t] => us ++ [t, b]
  | _ => us
/-- Number(e, ..): a new Number in lowest terms -/
def tNum (C : Addr) (dvs : List V) (t : TA) : TE := fun σ H Q => t σ H fun vs H1 => ∃ h b : Int, vs ++ dvs = [.int h, .int b] ∧ b ≠ 0 ∧ Sz b ∧ NewNum C H1 Q (lowT h b) (lowB h b)
def tNumK (C : Addr) (tk : TA) : TE := fun σ H Q => tk σ H fun zs H1 => ∃ h b : Int, zs = [.int b, .int h] ∧ b ≠ 0 ∧ Sz b ∧ NewNum C H1 Q (lowT h b) (lowB h b)
section
variable {X : Cx} {k : Nat} {f C : Addr} {fd : FuncData} {ps : List Str} {dvs : List V} {ds : List Value} {x : Str} {p pos : Pos} {e : Expr} {es : List Expr} {kws : List Keyword} {t tk : TA} {g : List Value → List Value → List Value}
theorem pe_num (M : Mk X.K C f) (F : FnOk X.prog X.w X.K X.mg X.base CX0 k f fd ps (spInit C)) (hr : Room (k + 1) X.A) (hm : X.mg x = some (.ref C)) (hb : Binds X.K fd ps ds) (hd : Vals dvs ds) (ha : PA X (e :: es) t) (hg : Gl X x := by rfl)
    (hdb : (x == ("__debug__" : Str)) = false := by decide) (he : starEach (e :: es) X.env = (false, eval e X.env) :: starEach es X.env := by rfl) (hpl : (backTo pos (starEach es X.env)).any (·.1) = false := by rfl) :
    PE X (.Call (.Name x p) (e :: es) [] pos) (tNum C dvs t) := by
  refine ⟨fun pins s σ H Q I h => wpAny_Call_Name_kw (ld_glob I hg hm ?_ hdb)⟩
  refine PySem.W.callWith_K (h₀ := X.base) I.ok.mod.kin M.kp (thn (ha.run pos pins s σ H _ I h) fun us s1 hu => ?_) he hpl
  obtain ⟨vs, H1, J, r, a, b, ev, hb0, sb, q⟩ := hu
  refine ⟨J.kIn, run_make (E := E0) M F hr hb hd pass0 J r ?_⟩
  rw [ev]
  exact mk_num hb0 sb q
theorem pe_numK (M : Mk X.K C f) (F : FnOk X.prog X.w X.K X.mg X.base CX0 k f fd ps (spInit C)) (hr : Room (k + 1) X.A) (hm : X.mg x = some (.ref C)) (hb : KBn X.K fd ps 1 ["bottom", "top"] g (fun vs zs => kwTurn vs zs)) (hkw : PK X kws tk) (hg : Gl X x := by rfl)
    (hall : (backToKw pos (keywordEach kws X.env)).all (·.1.isSome) = true := by rfl) (hks : (backToKw pos (keywordEach kws X.env)).filterMap (·.1) = [("bottom" : Str), ("top" : Str)] := by rfl) (hdb : (x == ("__debug__" : Str)) = false := by decide)
    (hpl : ((backTo pos (starEach [] X.env)).any (·.1) || (backToKw pos (keywordEach kws X.env)).any (·.1.isNone)) = false := by rfl) : PE X (.Call (.Name x p) [] kws pos) (tNumK C tk) := by
  refine ⟨fun pins s σ H Q I h => wpAny_Call_Name_kw (ld_glob I hg hm ?_ hdb)⟩
  refine PySem.W.callWith_KW0 (h₀ := X.base) I.ok.mod.kin M.kp hall (thn (hkw.run pos pins s σ H _ I h) fun ws s2 hu => ?_) hpl
  obtain ⟨zs, H2, J, rz, a, b, ev, hb0, sb, q⟩ := hu
  refine ⟨J.kIn, ?_⟩
  rw [hks]
  refine run_makeK (E := E0) (us := []) (vs := []) M F hr hb pass0 J .nil rz rfl (by rw [ev]; rfl) ?_
  rw [ev]
  exact mk_num hb0 sb q
end
end Hk

namespace K01
open PySem PySem.Spec PyProof.Rows L2 Hk NumM NumT SX
abbrev N_l_right : List Str := ["_law_spring_here", "_law_head", "_law_base", "_law_pair", "_law_many", "_law_number", "_law_twin", "_law_due_here", "_law_each", "_law_far", "_law_low_here", "_law_told"]
def spRight : Sp := fun vs H Q _ => ∃ a : Addr, vs = [.ref a] ∧ SprAt a H ∧ ∀ H' : Hp, Old a H H' → SprAt a H' → Q (.bl true) H'
section
variable {P : Program} {w : World} {K : Fr} {mg : Str → Option Value} {base : Heap}
/-- bottom and top by name -/
theorem kb_init {fd : FuncData} (D : DAt K d_Number_init fd) : ∃ its : List Value, KBn K fd ["self", "top", "bottom"] 1 ["bottom", "top"] (fun us ws => kwTurn us ws) (fun vs zs => kwTurn vs zs) :=
  FunD.kbindsD D 1 ["bottom", "top"] (fun us _ ws => kwTurn us ws) (by intro z; exact nomatch z)
    (fun {vs ds zs us its ws} rv rd rz => by
      cases rz with
      | nil => exact rv
      | cons r1 r =>
        cases r with
        | nil => exact rv
        | cons r2 r =>
          cases r with
          | nil => exact rv.append (.cons r2 (.cons r1 .nil))
          | cons r3 r => exact rv)
    (fun T kV doc pm an cdv ct us its ws hu hi hw => match us, its, ws, hu, hi, hw with | [_], [_], [_, _], _, _, _ => ⟨_, rfl, rfl⟩)
theorem kb_read {fd : FuncData} (D : DAt K d_Number_read fd) : ∀ (s : Shared) (ws : List Value), K.In s.heap → ws.length = ["text"].length → BindsTo s fd ⟨[], (["text"] : List Str).zip ws⟩ ((["text"] : List Str).zip ws) := by
  obtain ⟨oc, od, dV, kV, doc, pm, an, cdv, ct, osl, rfl, lk, hcd, hD, hK⟩ := D.ex
  rcases hD with ⟨_, rfl⟩ | ⟨e, _⟩
  · intro s ws _ hl
    match ws, hl with
    | [u], _ => exact .of_eq rfl
  · exact absurd rfl e
theorem c_right (T : Tx K mg) : CalG P w K mg base 7 "_law_right" (gAd "_law_right" K) ["_law_spring_here"] spRight := by
  have C_l_parts := c_parts (P := P) (w := w) (base := base) T
  have C_l_low := c_low (P := P) (w := w) (base := base) T
  have C_l_one := c_oneO (P := P) (w := w) (base := base) T
  have C_l_due := c_due (P := P) (w := w) (base := base) T
  have C_l_seen := c_seen (P := P) (w := w) (base := base) T
  obtain ⟨fi, Di, Fi⟩ := f_init (P := P) (w := w) (base := base) T
  obtain ⟨fe, De, Fe⟩ := f_eq (P := P) (w := w) (base := base) T
  obtain ⟨fs, Ds, Fs⟩ := f_str (P := P) (w := w) (base := base) T
  obtain ⟨fr, Dr, Fr'⟩ := f_read (P := P) (w := w) (base := base) T
  have be : Binds K fe ["self", "other"] [] := FunD.bindsN De fun _ _ _ _ _ _ us hl => match us, hl with | [_, _], _ => rfl
  have bs : Binds K fs ["self"] [] := FunD.bindsN Ds fun _ _ _ _ _ _ us hl => match us, hl with | [_], _ => rfl
  obtain ⟨its, kb⟩ := kb_init Di
  obtain ⟨ds1, rd1, bi1⟩ := b_init1 Di
  have OE : Own K (CN K) "__eq__" (d_Number_eq.ad K) := own_ok (f_meth_eq T.c)
  have NE : NeOf K (CN K) := ne_ok (f_ne T.c)
  refine calg_of (d := d_l_right) (N := N_l_right) (a_l_right T.c) rfl sc_l_right (g_l_right T) (fun _ _ _ _ _ _ us hl => match us, hl with | [_], _ => rfl) (fun vs H Q E h => ?_) (fun cdv A outer s H vs Q E hr hc h => ?_)
  · obtain ⟨a, rfl, _⟩ := h
    rfl
  · obtain ⟨a, rfl, hs, k⟩ := h
    have r1 : Room 1 _ := hr.mono (by decide)
    have r2 : Room 2 _ := hr.mono (by decide)
    have r3 : Room 3 _ := hr.mono (by decide)
    have r5 : Room 5 _ := hr.mono (by decide)
    refine ⟨_, (pss_cons (ps_asg (pe_c C_l_parts r3 (pa_cons (pv 0) pa_nil)) (pg_unl rfl (pgs_cons (pg_name (i := 1) sc_l_right.nd rfl (.inl rfl)) (pgs_cons (pg_name (i := 2) sc_l_right.nd rfl (.inl rfl)) pgs_nil))))
 (pss_cons (ps_par (i := 3) (j := 4) (by rfl) sc_l_right.nd rfl rfl (by decide) rfl rfl (pa_cons (pe_c C_l_low r1 (pa_cons (pv 1) (pa_cons (pv 2) pa_nil))) (pa_cons (pe_c C_l_one r2 (pa_cons (pv 0) (pa_cons (pe_lst (pa_cons pe_int (pa_cons pe_int (pa_cons (pe_un un_neg pe_int) (pa_cons pe_int (pa_cons (pe_un un_neg pe_int) pa_nil)))))) pa_nil))) pa_nil)) (by rfl))
 (pss_cons (ps_par (i := 5) (j := 6) (by rfl) sc_l_right.nd rfl rfl (by decide) rfl rfl (pa_cons (pe_num (mkN T) Fi r3 (g_Number T) (b_init2 Di) .nil (pa_cons (pv 1) (pa_cons (pv 2) pa_nil)))
   (pa_cons (pe_numK (mkN T) Fi r3 (g_Number T) kb (pk_cons (pe_op op_mul (pe_ix ix_tup (pv 3) pe_int (fun _ _ => rfl)) (pv 4)) (pk_cons (pe_op op_mul (pe_ix ix_tup (pv 3) pe_int (fun _ _ => rfl)) (pv 4)) pk_nil))) pa_nil)) (by rfl))
 (pss_cons (ps_set (i := 7) sc_l_right.nd rfl (.inl rfl) (pe_g C_l_due r2 hc (pa_cons (pv 3) pa_nil)))
 (pss_cons (ps_if (pt_cmpR (op_neD hr.units) (pe_lc (own := [("_law_each", 8)]) (g := gName 8) (tt := tYes) rfl sc_l_right.nd (pi_list (pe_lst (pa_cons (pv 5) (pa_cons (pv 6) (pa_cons (pe_statK (pe_glob (v := .ref (gAd "Number" K)) rfl (g_Number T) rfl) (stat_ok (f_stat_read T.c)) Fr' r5 (kb_read Dr) (pk_cons (pe_callTy (call_strO (own_ok (f_meth_str T.c)) Fs bs r3) (by rfl) (n_str T) bo_str (pa_cons (pv 5) pa_nil)) pk_nil)) pa_nil))))) (blkOk_by (N := N_l_right) (sc := defScope s_l_right) (by decide +kernel)) (fun _ _ _ _ _ => pg_name (i := 8) sc_l_right.nd rfl (.inl rfl)) (fun _ _ _ _ _ => pts_nil) (fun _ _ _ _ _ => (pe_g C_l_seen hr hc (pa_cons (pv 8) pa_nil)))) (pe_op op_rep (pe_lst (pa_cons (pv 7) pa_nil)) pe_int) (nomark _))
 (pss_one (ps_ret pe_bl))
 pss_nil)
 (pss_cons (ps_par (i := 9) (j := 10) (by rfl) sc_l_right.nd rfl rfl (by decide) rfl rfl (pa_cons (pe_num (mkN T) Fi r3 (g_Number T) (b_init2 Di) .nil (pa_cons (pe_op op_add (pe_ix ix_tup (pv 3) pe_int (fun _ _ => rfl)) pe_int) (pa_cons (pe_ix ix_tup (pv 3) pe_int (fun _ _ => rfl)) pa_nil))) (pa_cons (pe_c C_l_low r1 (pa_cons (pe_op op_add (pe_ix ix_tup (pv 3) pe_int (fun _ _ => rfl)) pe_int) (pa_cons (pe_ix ix_tup (pv 3) pe_int (fun _ _ => rfl)) pa_nil))) pa_nil)) (by rfl))
 (pss_cons (ps_set (i := 11) sc_l_right.nd rfl (.inl rfl) (pe_lst (pa_cons (pe_cmpR (op_eqO OE Fe be r1) (pv 5) (pv 6) (nomark _)) (pa_cons (pe_cmpR (op_neO OE NE Fe be r2) (pv 5) (pv 6) (nomark _)) (pa_cons (pe_cmpR (op_eqO OE Fe be r1) (pv 5) (pv 9) (nomark _)) (pa_cons (pe_cmpR (op_neO OE NE Fe be r2) (pv 5) (pv 9) (nomark _)) (pa_cons (pe_cmpR (op_eqO OE Fe be r1) (pv 5) (pe_ix ix_tup (pv 3) pe_int (fun _ _ => rfl)) (nomark _)) (pa_cons (pe_cmpR (op_eqO OE Fe be r1) (pv 5) (pe_callTy (call_strO (own_ok (f_meth_str T.c)) Fs bs r3) (by rfl) (n_str T) bo_str (pa_cons (pv 5) pa_nil)) (nomark _)) pa_nil))))))))
 (pss_cons (ps_if (PW.pt (pw_or (pt_cmpR (op_neD hr.units) (pv 11) (pe_lst (pa_cons pe_bl (pa_cons pe_bl (pa_cons pe_bl (pa_cons pe_bl (pa_cons pe_bl (pa_cons pe_bl pa_nil))))))) (nomark _)) (pw_or (pt_cmpR (op_eqO OE Fe be r1) (pv 5) (pe_tup (pa_cons (pv 1) (pa_cons (pv 2) pa_nil))) (nomark _)) (pw_or1 (pt_cmpR (op_eqO OE Fe be r1) (pv 5) pe_non (nomark _))))))
 (pss_one (ps_ret pe_bl))
 pss_nil)
 (pss_one (ps_ret (pe_cmpR (op_eqD hr.units) (pe_lst (pa_cons (pe_g C_l_seen hr hc (pa_cons (pv 9) pa_nil)) (pa_cons (pe_g C_l_seen hr hc (pa_cons (pe_num (mkN T) Fi r3 (g_Number T) bi1 rd1 (pa_cons (pv 1) pa_nil)) pa_nil)) pa_nil))) (pe_lst (pa_cons (pe_g C_l_due r2 hc (pa_cons (pv 10) pa_nil)) (pa_cons (pe_g C_l_due r2 hc (pa_cons (pe_tup (pa_cons (pv 1) (pa_cons pe_int pa_nil))) pa_nil)) pa_nil))) (nomark _)))))))))))), ?_⟩
    -- head, base = parts(spring)
    refine ⟨_, rfl, a, rfl, hs, fun H1 p0 h b o1 s1 hp0 n0 hb sh sb => ?_⟩
    refine ⟨p0, _, rfl, .inl (.inl hp0), rfl, _, _, rfl, _, _, rfl, rfl, ?_⟩
    -- pair, many = low(head, base), one(spring, ..)
    refine ⟨_, rfl, _, rfl, h, b, rfl, hb, sz200 sh, sz200 sb, fun pr npr => ?_⟩
    refine ⟨_, rfl, _, rfl, _, rfl, (by show 5 ≤ sizeLine; decide), fun q nq => ?_⟩
    have s1' : SprAt a (upd (upd H1 pr (.tup [.int (lowT h b), .int (lowB h b)])) q (.lst [.int 1, .int 2, .int (-3), .int 10, .int (-1)])) := (s1.same (same_upd npr)).same (same_upd nq)
    refine ⟨a, q, _, rfl, s1', upd_same, (s1.same (same_upd npr)).ne nq, by simp, (by show 5 ≤ 1000; decide), fun m H2 hm o2 s2 => ?_⟩
    have hpr : H2 pr = some (.tup [.int (lowT h b), .int (lowB h b)]) := o2 pr _ (by rw [upd_ne (ne_of_none upd_same nq)]; exact upd_same) (Ne.symm (s1.ne npr))
    have oA : Old a H H2 := ((o1.trans (Old.new npr)).trans (Old.new nq)).trans o2
    obtain ⟨m', rfl, m0, m1⟩ : ∃ m' : Int, m = .int m' ∧ m' ≠ 0 ∧ m'.natAbs < 2 ^ 4 := by
      simp only [List.mem_cons, List.not_mem_nil, or_false] at hm
      rcases hm with rfl | rfl | rfl | rfl | rfl <;> exact ⟨_, rfl, by omega, by omega⟩
    clear hm
    have bp : 0 < lowB h b := low_pos hb
    have bc := low_cop (h := h) hb
    have tz : (lowT h b).natAbs < 2 ^ 200 := Nat.lt_of_le_of_lt (lowT_le hb) sh
    have bz : (lowB h b).natAbs < 2 ^ 200 := Nat.lt_of_le_of_lt (lowB_le hb) sb
    have l2 := low_mul (h := lowT h b) (b := lowB h b) (m := m') (by omega) m0
    have l3 := low_red bp bc
    have lfar : lowB (lowT h b + 1) (lowB h b) ≠ 0 := by have := low_pos (h := lowT h b + 1) (b := lowB h b) (by omega); omega
    have fne := far_ne (t := lowT h b) bp
    have e1 : ∀ t' b' : Int, lowT h b = t' → lowB h b = b' → True := fun _ _ _ _ => trivial
    generalize ht : lowT h b = t at *
    generalize hbb : lowB h b = c at *
    refine ⟨_, _, rfl, ?_⟩
    -- number, twin
    refine ⟨_, rfl, _, rfl, h, b, rfl, hb, sz200 sb, fun H3 n1 s3 nn1 N1 => ?_⟩
    rw [ht, hbb] at N1
    refine ⟨_, rfl, pr, _, _, _, rfl, rfl, .inl (.inl (s3 _ _ hpr)), rfl, _, rfl, _, _, rfl, rfl, .inr ⟨by omega, by omega⟩, ?_⟩
    refine ⟨_, rfl, pr, _, _, _, rfl, rfl, .inl (.inl (s3 _ _ hpr)), rfl, _, rfl, _, _, rfl, rfl, .inr ⟨by omega, by omega⟩, ?_⟩
    refine ⟨t * m', c * m', rfl, Int.mul_ne_zero (by omega) m0, sz_mul bz m1, fun H4 n2 s4 nn2 N2 => ?_⟩
    rw [l2.1, l2.2, l3.1, l3.2] at N2
    refine ⟨_, _, rfl, ?_⟩
    have N1 : NumAt (CN K) H3 n1 t c := N1
    have N2 : NumAt (CN K) H4 n2 t c := N2
    have zt := sz200 tz
    have zc := sz200 bz
    have hp4 := s4 _ _ (s3 _ _ hpr)
    -- due
    refine ⟨_, rfl, pr, t, c, rfl, hp4, bp, zt, zc, fun H5 s5 => ?_⟩
    have N1' : NumAt (CN K) H5 n1 t c := (N1.same s4).same s5
    have N2' : NumAt (CN K) H5 n2 t c := N2.same s5
    obtain ⟨dx1, hn1⟩ := id N1'.at_
    -- the three of them, shown
    refine ⟨_, rfl, _, rfl, rfl, _, rfl, n1, dx1, _, rfl, hn1, n1, t, c, rfl, N1', zt, zc, _, rfl, t, c, rfl, bp, bc, zt, zc, fun H6 n3 s6 nn3 N3 => ?_⟩
    refine ⟨(by show 3 ≤ sizeLine; decide), fun L nL => ?_⟩
    refine ⟨L, rfl, ⟨_, .inl (.inl upd_same)⟩, fun D nD => ?_⟩
    refine lc_list (K := K) (a := L) (xs := [.ref n1, .ref n2, .ref n3]) (fun i H' => Same (upd H6 L (.lst [.ref n1, .ref n2, .ref n3])) H' ∧ H' D = some (.lst (List.replicate i (.str (seenT t c))))) ⟨same_upd nD, upd_same⟩ (fun i H' _ p => .inl (.inl (p.1 _ _ upd_same))) ?_ ?_
    · rintro i x H' hx ⟨sm, hD⟩
      have hi : i < 3 := (List.getElem?_eq_some_iff.mp hx).1
      obtain ⟨p, rfl, Np⟩ : ∃ p, x = .ref p ∧ NumAt (CN K) H' p t c := by
        have hm := List.mem_of_getElem? hx
        simp only [List.mem_cons, List.not_mem_nil, or_false] at hm
        rcases hm with rfl | rfl | rfl
        · exact ⟨_, rfl, ((N1'.same s6).same (same_upd nL)).same sm⟩
        · exact ⟨_, rfl, ((N2'.same s6).same (same_upd nL)).same sm⟩
        · exact ⟨_, rfl, (N3.same (same_upd nL)).same sm⟩
      refine ⟨rfl, ?_⟩
      unfold tYes
      dsimp only
      rw [if_pos rfl]
      refine ⟨_, rfl, p, t, c, rfl, Np, zt, zc, fun H7 s7 => ⟨_, s7 _ _ hD, ?_, same_upd' (sm.trans s7) nD, ?_⟩⟩
      · rw [List.length_replicate]
        exact small1000 (by omega)
      · rw [upd_same, List.replicate_succ']
    · rintro H7 ⟨sm7, hD7⟩
      refine ⟨_, rfl, (by show 1 ≤ sizeLine; decide), fun l nl => ?_⟩
      refine ⟨l, 3, _, rfl, rfl, upd_same, by decide, by decide, (by show 1 * 3 ≤ sizeLine; decide), fun r nr => ?_⟩
      have hDr : D ≠ r := ne_of_none (same_upd nl D _ hD7) nr
      have hDl : D ≠ l := ne_of_none hD7 nl
      have asc : ∀ x ∈ [seenT t c, seenT t c, seenT t c], Asc x := by
        intro x hx
        simp only [List.mem_cons, List.not_mem_nil, or_false, or_self] at hx
        rw [hx]
        exact seen_asc t c
      refine ⟨_, _, dp_strs (xs := [seenT t c, seenT t c, seenT t c]) (by rw [upd_ne hDr, upd_ne hDl, hD7]; rfl), dp_strs (xs := [seenT t c, seenT t c, seenT t c]) (by rw [upd_same]; rfl), shaped_strs asc, shaped_strs asc, _, rfl, ?_⟩
      rw [eqv_strs]
      refine iteF ?_
      -- far, low_here
      have s8 : Same H5 (upd (upd H7 l (.lst [.str (seenT t c)])) r (.lst (List.replicate (3 : Int).toNat [V.str (seenT t c)]).flatten)) := ((((s6.trans (same_upd nL)).trans sm7).trans (same_upd nl)).trans (same_upd nr))
      have hp8 := s8 _ _ (s5 _ _ hp4)
      refine ⟨_, rfl, pr, _, _, _, rfl, rfl, .inl (.inl hp8), rfl, _, _, rfl, rfl, _, rfl, pr, _, _, _, rfl, rfl, .inl (.inl hp8), rfl, t + 1, c, rfl, by omega, zc, fun H9 n4 s9 nn4 N4 => ?_⟩
      have hp9 := s9 _ _ hp8
      refine ⟨_, rfl, pr, _, _, _, rfl, rfl, .inl (.inl hp9), rfl, _, _, rfl, rfl, _, rfl, pr, _, _, _, rfl, rfl, .inl (.inl hp9), rfl, t + 1, c, rfl, by omega, sz_succ tz, zc, fun pl npl => ?_⟩
      refine ⟨_, _, rfl, ?_⟩
      have zu : Sz (lowT (t + 1) c) := Nat.lt_of_le_of_lt (lowT_le (by omega)) (sz_succ tz)
      have zv : Sz (lowB (t + 1) c) := Nat.lt_of_le_of_lt (lowB_le (by omega)) zc
      have vp : 0 < lowB (t + 1) c := low_pos (by omega)
      generalize lowT (t + 1) c = u at *
      generalize lowB (t + 1) c = v at *
      have s10 : Same H5 (upd H9 pl (.tup [.int u, .int v])) := (s8.trans s9).trans (same_upd npl)
      have hpl : (upd H9 pl (HO.tup [V.int u, V.int v])) pl = some (.tup [.int u, .int v]) := upd_same
      have N4 : NumAt (CN K) (upd H9 pl (.tup [.int u, .int v])) n4 u v := NumAt.same (C := CN K) N4 (same_upd npl)
      have hp10 := s10 _ _ (s5 _ _ hp4)
      generalize upd H9 pl (HO.tup [V.int u, V.int v]) = H10 at *
      have M1 : NumAt (CN K) H10 n1 t c := N1'.same s10
      have M2 : NumAt (CN K) H10 n2 t c := N2'.same s10
      obtain ⟨dy1, g1⟩ := id M1.at_
      obtain ⟨dy2, g2⟩ := id M2.at_
      obtain ⟨dy4, g4⟩ := id N4.at_
      have fO : PySem.W.notFirst K (CN K) (.ref (CN K)) = true := f_fstO T.c
      -- told
      refine ⟨_, rfl, _, rfl, n1, dy1, _, _, rfl, g1, .ins g2, fO, n1, t, c, _, rfl, M1, .inl ⟨n2, t, c, rfl, M2, _, rfl, ?_⟩⟩
      refine ⟨_, rfl, _, rfl, n1, dy1, _, _, rfl, g1, .ins g2, fO, n1, t, c, _, rfl, M1, .inl ⟨n2, t, c, rfl, M2, _, rfl, ?_⟩⟩
      refine ⟨_, rfl, _, rfl, n1, dy1, _, _, rfl, g1, .ins g4, fO, n1, t, c, _, rfl, M1, .inl ⟨n4, u, v, rfl, N4, _, rfl, ?_⟩⟩
      refine ⟨_, rfl, _, rfl, n1, dy1, _, _, rfl, g1, .ins g4, fO, n1, t, c, _, rfl, M1, .inl ⟨n4, u, v, rfl, N4, _, rfl, ?_⟩⟩
      refine ⟨_, rfl, _, rfl, pr, _, _, _, rfl, rfl, .inl (.inl hp10), rfl, n1, dy1, _, _, rfl, g1, .int _, f_fst_int T.c, n1, t, c, _, rfl, M1, .inr ⟨_, .base (.int _), of_decide_eq_true (f_kit_int T.c), _, rfl, ?_⟩⟩
      refine ⟨_, rfl, _, rfl, n1, dy1, _, rfl, g1, n1, t, c, rfl, M1, zt, zc, _, rfl, n1, dy1, _, _, rfl, g1, .str _, f_fst_str T.c, n1, t, c, _, rfl, M1, .inr ⟨_, .base (.str _), of_decide_eq_true (f_kit_str T.c), _, rfl, ?_⟩⟩
      refine ⟨(by show 6 ≤ sizeLine; decide), fun tl ntl => ?_⟩
      have b1 : (decide (t = t) && decide (c = c)) = true := by simp
      -- told == [..]
      refine ⟨_, rfl, (by show 6 ≤ sizeLine; decide), fun tw ntw => ?_⟩
      have ntl' : tl ≠ tw := ne_of_none upd_same ntw
      refine ⟨_, _, dp_bls (xs := [true, false, false, true, false, false]) (by rw [upd_ne ntl', upd_same]; simp [fne]), dp_bls (xs := [true, false, false, true, false, false]) (by rw [upd_same]; rfl), shaped_bls _, shaped_bls _, _, rfl, ?_⟩
      rw [eqv_bls]
      refine iteF ?_
      -- == (head, base), == None
      have s11 : Same H10 (upd (upd H10 tl (.lst [.bl (decide (t = t) && decide (c = c)), .bl (!(decide (t = t) && decide (c = c))), .bl (decide (t = u) && decide (c = v)), .bl (!(decide (t = u) && decide (c = v))), .bl false, .bl false])) tw (.lst [.bl true, .bl false, .bl false, .bl true, .bl false, .bl false])) := (same_upd ntl).trans (same_upd ntw)
      have M1' := M1.same s11
      obtain ⟨dy1', g1'⟩ := id M1'.at_
      refine ⟨_, rfl, _, rfl, _, rfl, (by show 2 ≤ sizeLine; decide), fun hb2 nhb => ?_⟩
      have M1'' := M1'.same (same_upd (o := .tup [.int h, .int b]) nhb)
      obtain ⟨dz1, gz1⟩ := id M1''.at_
      refine ⟨n1, dz1, _, _, rfl, gz1, .tup upd_same, f_fst_tuple T.c, n1, t, c, _, rfl, M1'', .inr ⟨_, .base (.tup upd_same), of_decide_eq_true (f_kit_tuple T.c), _, rfl, _, rfl, iteF ?_⟩⟩
      refine ⟨_, rfl, n1, dz1, _, _, rfl, gz1, .non, f_fst_NoneType T.c, n1, t, c, _, rfl, M1'', .inr ⟨_, .base .non, of_decide_eq_true (f_kit_NoneType T.c), _, rfl, _, rfl, iteF ?_⟩⟩
      have s12 : Same H10 (upd (upd (upd H10 tl (.lst [.bl (decide (t = t) && decide (c = c)), .bl (!(decide (t = t) && decide (c = c))), .bl (decide (t = u) && decide (c = v)), .bl (!(decide (t = u) && decide (c = v))), .bl false, .bl false])) tw (.lst [.bl true, .bl false, .bl false, .bl true, .bl false, .bl false])) hb2 (.tup [.int h, .int b])) := s11.trans (same_upd nhb)
      have sz1 : Sz 1 := by decide +kernel
      -- seen(far), seen(Number(head))
      refine ⟨_, rfl, n4, u, v, rfl, N4.same s12, zu, zv, fun H11 s13 => ?_⟩
      refine ⟨_, rfl, h, 1, rfl, by decide, sz1, fun H12 n5 s14 nn5 N5 => ?_⟩
      have lo1 := low_red (t := h) (b := 1) (by decide) (by simp)
      rw [lo1.1, lo1.2] at N5
      refine ⟨n5, h, 1, rfl, N5, sz200 sh, sz1, fun H13 s15 => ?_⟩
      refine ⟨(by show 2 ≤ sizeLine; decide), fun w1 nw1 => ?_⟩
      have s16 : Same H10 (upd H13 w1 (.lst [.str (seenT u v), .str (seenT h 1)])) := (((s12.trans s13).trans s14).trans s15).trans (same_upd nw1)
      refine ⟨_, rfl, pl, u, v, rfl, s16 _ _ hpl, vp, zu, zv, fun H14 s17 => ?_⟩
      refine ⟨_, rfl, (by show 2 ≤ sizeLine; decide), fun tp ntp => ?_⟩
      refine ⟨tp, h, 1, rfl, upd_same, by decide, sz200 sh, sz1, fun H15 s18 => ?_⟩
      refine ⟨(by show 2 ≤ sizeLine; decide), fun w2 nw2 => ?_⟩
      have hw1 : H15 w1 = some (.lst [.str (seenT u v), .str (seenT h 1)]) := s18 _ _ (same_upd ntp _ _ (s17 _ _ upd_same))
      have asc2 : ∀ x ∈ [seenT u v, seenT h 1], Asc x := by
        intro x hx
        simp only [List.mem_cons, List.not_mem_nil, or_false] at hx
        rcases hx with rfl | rfl <;> exact seen_asc _ _
      refine ⟨_, _, dp_strs (xs := [seenT u v, seenT h 1]) (by rw [upd_ne (ne_of_none hw1 nw2), hw1]; rfl), dp_strs (xs := [seenT u v, seenT h 1]) (by rw [upd_same]; rfl), shaped_strs asc2, shaped_strs asc2, ?_⟩
      show Q (.bl _) _
      rw [eqv_strs]
      have sEnd : Same H2 (upd H15 w2 (.lst [.str (seenT u v), .str (seenT h 1)])) := ((((((s3.trans s4).trans s5).trans s10).trans s16).trans s17).trans (same_upd ntp)).trans (s18.trans (same_upd nw2))
      exact k _ (oA.trans (Old.same sEnd)) (s2.same sEnd)
end
end K01

namespace K01
open PySem PySem.Spec PyProof.Rows L2 Hk NumM NumT SX
abbrev N_law : List Str := ["_law_script", "_law_spot", "_law_spring_here", "_law_turn"]
def spLaw (K : Fr) : Sp := fun vs H Q _ => ∃ (a : Addr) (ns : List Int), vs = [.ref a] ∧ SqL K H a (ns.map V.int) ∧ ns.length ≤ 63 ∧ ∀ H' : Hp, Q (.bl true) H'
section
variable {P : Program} {w : World} {K : Fr} {mg : Str → Option Value} {base : Heap}
theorem g_law_ok (T : Tx K mg) {fd : FuncData} (D : DAt K d_law fd) : FnG P w K mg base 8 (d_law.ad K) fd ["_law_script"] (spLaw K) := by
  have C_l_spring := c_spring (P := P) (w := w) (base := base) T
  have C_l_right := c_right (P := P) (w := w) (base := base) T
  refine okg_of (N := N_law) D sc_law (fun vs H Q E h => ?_) (fun cdv A outer s H vs Q E hr hc h => ?_)
  · obtain ⟨a, ns, rfl, _⟩ := h
    rfl
  · obtain ⟨a, ns, rfl, hS, hn, k⟩ := h
    have r1 : Room 1 _ := hr.mono (by decide)
    refine ⟨_, (pss_cons (ps_for PassesOwn.never rfl (pi_range1 (by rfl) (n_range T) (pa_cons (pe_callB (call_max2 rfl) (by rfl) (n_max T) bo_max (pa_cons pe_int (pa_cons (pe_callB (call_min2 rfl) (by rfl) (n_min T) bo_min (pa_cons (pe_callB call_len_seq (by rfl) (n_len T) bo_len (pa_cons (pv 0) pa_nil)) (pa_cons pe_int pa_nil))) pa_nil))) pa_nil)) (pg_name (i := 1) sc_law.nd rfl (.inl rfl))
 (pss_cons (ps_set (i := 2) sc_law.nd rfl (.inr rfl) (pe_c C_l_spring r1 (pa_cons (pv 0) (pa_cons (pv 1) pa_nil))))
 (pss_one (ps_if (pt_not (pt_val (pe_callB (cr_all rfl) (by rfl) (n_all T) bo_all (pa_cons (pe_lc (own := [("_law_turn", 3)]) (g := gName 3) (tt := tYes) rfl sc_law.nd (pi_range1 (by rfl) (n_range T) (pa_cons pe_int pa_nil)) (blkOk_by (N := N_law) (sc := defScope s_law) (by decide +kernel)) (fun _ _ _ _ _ => pg_name (i := 3) sc_law.nd rfl (.inl rfl)) (fun _ _ _ _ _ => pts_nil) (fun _ _ _ _ _ => (pe_g C_l_right hr hc (pa_cons (pv 2) pa_nil)))) pa_nil))))
 (pss_one (ps_ret pe_bl))
 pss_nil))))
 (pss_one (ps_ret pe_bl))), ?_⟩
    have hlen : ((ns.map V.int).length : Int) = (ns.length : Int) := by rw [List.length_map]
    refine ⟨_, rfl, a, _, rfl, .inl hS, _, _, rfl, _, _, rfl, _, rfl, ?_⟩
    rw [hlen]
    generalize hm : (if (if (5 : Int) < (ns.length : Int) then (5 : Int) else (ns.length : Int)) > 2 then (if (5 : Int) < (ns.length : Int) then (5 : Int) else (ns.length : Int)) else (2 : Int)) = m
    have hm2 : m ≤ 5 ∧ 0 ≤ m := by rw [← hm]; split <;> (try split) <;> omega
    refine ⟨by omega, by omega, ?_⟩
    refine for_range (lo := 0) (n := m.toNat) (fun i σ H' => Same H H' ∧ ∃ x y z : Option V, σ = [some (.ref a), x, y, z]) ⟨Same.refl H, none, none, none, rfl⟩ ?_ ?_
    · rintro i σ H' hi ⟨s1, x, y, z, rfl⟩
      have e0 : (0 : Int) + (i : Int) = ((i : Nat) : Int) := by omega
      rw [e0]
      refine ⟨_, rfl, _, rfl, a, ns, i, rfl, s1.seq hS, hn, by omega, fun p d e c np sp => ?_⟩
      have sp0 : SprAt p (upd H' p (.lst (sprL d e c))) := ⟨d, e, c, upd_same, sp⟩
      have so : Same H' (upd H' p (.lst (sprL d e c))) := same_upd np
      generalize upd H' p (HO.lst (sprL d e c)) = H2 at *
      refine ⟨3, rfl, by decide, by decide, fun D nD => ?_⟩
      refine lc_range (lo := 0) (n := 3) (fun j H3 => Old p H2 H3 ∧ SprAt p H3 ∧ H3 D = some (.lst (List.replicate j (.bl true)))) ⟨Old.new nD, sp0.same (same_upd nD), upd_same⟩ ?_ ?_
      · rintro j H3 hj ⟨o3, s3, hD⟩
        have pD : p ≠ D := sp0.ne nD
        refine ⟨rfl, ?_⟩
        unfold tYes
        dsimp only
        rw [if_pos rfl]
        refine ⟨_, rfl, p, rfl, s3, fun H4 o4 s4 => ⟨_, o4 _ _ hD (Ne.symm pD), ?_, ?_, ?_, ?_⟩⟩
        · rw [List.length_replicate]
          exact small1000 (by omega)
        · intro b u hb hn
          rw [upd_ne (ne_of_none hb nD)]
          exact o4 _ _ (o3 _ _ hb hn) hn
        · obtain ⟨d', e', c', g1, g2⟩ := s4
          exact ⟨d', e', c', by rw [upd_ne pD]; exact g1, g2⟩
        · rw [upd_same, List.replicate_succ']
      · rintro H3 ⟨o3, s3, hD⟩
        refine ⟨D, [true, true, true], rfl, .inl (.inl hD), true, rfl, iteF ?_⟩
        refine ⟨fun b u hb => ?_, _, _, _, rfl⟩
        have hb2 := s1 _ _ hb
        exact o3 _ _ (so _ _ hb2) (ne_of_none hb2 np)
    · rintro σ H' ⟨_, x, y, z, rfl⟩
      exact k H'
end
theorem facts {P : Program} {w : World} {K : Fr} {h : Heap} {mg : Str → Option Value} {f : Addr} (X : K.In h) (G : h.Ns mainGlobals mg) (hfa : mg ("law" : Str) = some (.ref f)) (c : Sy K) :
    ∃ fd : FuncData, (∀ (s : Shared) (u : Value), BindsTo s fd ⟨[u], []⟩ [("_law_script", u)]) ∧ ∀ base : Heap, K.In base → base.Ns mainGlobals mg → FnG P w K mg base 8 f fd ["_law_script"] (spLaw K) := by
  have T : Tx K mg := ⟨c, h, X, G⟩
  obtain ⟨fd, D⟩ := a_law c
  have e := hfa.symm.trans (g_law T)
  cases e
  have b := FunD.bindsA (ps := ["_law_script"]) D fun _ _ _ _ _ _ us hl => match us, hl with | [_], _ => rfl
  exact ⟨fd, fun s u => b s [u] rfl, fun base _ _ => g_law_ok T D⟩
end K01

namespace K01
open PySem PySem.Spec PyProof.Rows L2 Hk
theorem run (w : World) : HeadRun.RunEqI R qv hk ob 4000 loose w := by
  unfold HeadRun.RunEqI
  kernel_rfl
end K01

open PySem PySem.W PySem.Calls PyProof.Rows
theorem PySem.Challenge.cw_delaynets_k01_numbers_made_holds : PySem.Challenge.rw_delaynets_k01_numbers_made.Holds := by
  w_on; o_law
  refine HeadRun.head_imp (r := OpenLaw.row PySem.Challenge.rw_delaynets_k01_numbers_made) (q := K01.qv) (H := K01.hk) (ob := K01.ob) (M := 4000) (loose := K01.loose) (d := HandSHeadRun.topDef (OpenLaw.row PySem.Challenge.rw_delaynets_k01_numbers_made).prog K01.lawAt) (kwd := []) K01.ob_eq
    K01.run (by kernel_rfl) (by kernel_rfl) (by kernel_rfl) (by rfl) (by first | assumption | decide +kernel) (by decide +kernel) ⟨rfl, rfl, rfl, rfl, rfl, by decide +kernel⟩ ?hw ?hc
  case hw => w_witness2
  case hc =>
    refine Hk.end_g (l := PySem.Challenge.rw_delaynets_k01_numbers_made) (k := 8) (x := "_law_script") rfl (by kernel_rfl) ⟨rfl, by decide, by decide⟩ ?F
    intro w mg fa h Y G hmg0
    obtain ⟨K, KX, c⟩ := Y
    have hmg : mg ("law" : PySem.Str) = some (.ref fa) := by
      have e : (HandSHeadRun.topDef (OpenLaw.row PySem.Challenge.rw_delaynets_k01_numbers_made).prog K01.lawAt).name = ("law" : PySem.Str) := by kernel_rfl
      rw [← e]
      exact hmg0
    obtain ⟨fd, hb, hF⟩ := K01.facts (P := (PySem.Challenge.rw_delaynets_k01_numbers_made).prog) (w := w) KX G hmg c
    exact ⟨K, fd, K01.spLaw K, KX, hb, fun H a ns hl _ hS => ⟨a, ns, rfl, hS, hl, fun _ => rfl⟩, hF⟩
#print axioms PySem.Challenge.cw_delaynets_k01_numbers_made_holds

