import PyProof.Rows.All
import Wide.All
import OpenK.AllK
import Wide.FinOn
import KE.KStateDown
import HandS.ForMost
import HandS.ForExc
import HandS.Defaults
import HandS.Gcd
import HandS.Wide
import HandS.IsInst
import HandS.ExcIs
import HandS.HotCalls
import HandS.TupLen
import HandS.Head0
import HandS.Head1
import HandS.Head2
import HandS.Head3
import HandS.HeadEnd
import HandS.HeadHook1
import HandS.HeadHook2
import HandS.HeadHook3
import HandS.HeadHook4
import PySem.Challenge.RW_landlines_k03_reach_meeting_turn
set_option Elab.async false
set_option linter.all false
set_option maxRecDepth 100000
set_option maxHeartbeats 4000000

namespace LL
open PySem PySem.Spec PySem.Calls PyProof.Rows L2
/-! ### a def of the top, by its name -/
abbrev FnP (K : PySem.W.Frag) (x : Str) (st : Stmt) (fd : FuncData) : Prop := FunD K x x (defArgs st) (defBody st) (defScope st) [] [] (He.ga K x) fd
/-- the def x keeps the promise sp -/
structure Good (P : Program) (w : World) (K : PySem.W.Frag) (mg : Str → Option Value) (base : Heap) (CX : CXT) (k : Nat) (x : Str) (ps : List Str) (sp : Sp) : Prop where
  g : mg x = some (.ref (He.ga K x))
  kp : PySem.W.keepIn K (.ref (He.ga K x)) = true
  ex : ∃ fd, Binds K fd ps [] ∧ FnOk P w K mg base CX k (He.ga K x) fd ps sp
section
variable {X : Cx} {k : Nat} {x : Str} {ps : List Str} {sp : Sp} {e : Expr} {es : List Expr} {t : TA} {p pos : Pos}
/-- a call of a def that lets nothing out -/
theorem pe_own (C : Good X.prog X.w X.K X.mg X.base CX0 k x ps sp) (hr : Room k X.A) (hg : Gl X x) (ha : PA X (e :: es) t) (hdb : (x == ("__debug__" : Str)) = false := by decide)
    (he : starEach (e :: es) X.env = (false, eval e X.env) :: starEach es X.env := by rfl) (hpl : (backTo pos (starEach es X.env)).any (·.1) = false := by rfl) :
    PE X (.Call (.Name x p) (e :: es) [] pos) (tCall sp [] E0 t) := by
  obtain ⟨fd, b, G⟩ := C.ex
  exact pe_call G hr hg C.g C.kp b .nil pass0 ha hdb he hpl
/-- a call of a def that might let an error out, where it lets none out -/
theorem pe_ownL (C : Good X.prog X.w X.K X.mg X.base (L2.CX X.prog X.w) k x ps sp) (hr : Room k X.A) (hg : Gl X x) (ha : PA X (e :: es) t) (hdb : (x == ("__debug__" : Str)) = false := by decide)
    (he : starEach (e :: es) X.env = (false, eval e X.env) :: starEach es X.env := by rfl) (hpl : (backTo pos (starEach es X.env)).any (·.1) = false := by rfl) :
    PE X (.Call (.Name x p) (e :: es) [] pos) (tCall sp [] E0 t) := by
  obtain ⟨fd, b, G⟩ := C.ex
  exact pe_call G hr hg C.g C.kp b .nil passL ha hdb he hpl
/-- .. where an error goes on its way -/
theorem pe_ownR {W : WX} {E : XK} (C : Good X.prog X.w X.K X.mg X.base (L2.CX X.prog X.w) k x ps sp) (hr : Room k X.A) (tk : Takes X W) (hW : ∀ cls d σ H, E cls d H → W cls d σ H) (hg : Gl X x) (ha : PA X (e :: es) t) (hdb : (x == ("__debug__" : Str)) = false := by decide)
    (he : starEach (e :: es) X.env = (false, eval e X.env) :: starEach es X.env := by rfl) (hpl : (backTo pos (starEach es X.env)).any (·.1) = false := by rfl) :
    PE X (.Call (.Name x p) (e :: es) [] pos) (tCall sp [] E t) := by
  obtain ⟨fd, b, G⟩ := C.ex
  exact pe_call G hr hg C.g C.kp b .nil (passes_call tk hW) ha hdb he hpl
/-- .. in a try -/
theorem pe_ownS {W : WX} (C : Good X.prog X.w X.K X.mg X.base (L2.CX X.prog X.w) k x ps sp) (hr : Room k X.A) (tk : Takes X W) (hg : Gl X x) (ha : PA X (e :: es) t) (hdb : (x == ("__debug__" : Str)) = false := by decide)
    (he : starEach (e :: es) X.env = (false, eval e X.env) :: starEach es X.env := by rfl) (hpl : (backTo pos (starEach es X.env)).any (·.1) = false := by rfl) :
    PE X (.Call (.Name x p) (e :: es) [] pos) (tCallS sp (WE W) t) := by
  obtain ⟨fd, b, G⟩ := C.ex
  exact pe_callS G hr hg C.g C.kp b (fun σ => passAt tk σ) ha hdb he hpl
end
/-- what the facts of the head say of a def -/
theorem FnP.mk {fa : List He.Fa} {fn : List He.DefD} {K : PySem.W.Frag} (c : He.SaysD fa fn K) {x : Str} {st : Stmt} (h : (⟨(x, none), x, x, defArgs st, defBody st, defScope st, [], []⟩ : He.DefD) ∈ fn) : ∃ fd, FnP K x st fd := by
  obtain ⟨fd, F⟩ := c.defs h
  exact ⟨fd, F⟩
/-! ### math.gcd of three -/
theorem args_gcd3 (a b c : Value) : argsOk "math.gcd" ⟨[a, b, c], []⟩ := by unfold argsOk; kernel_rfl
theorem run_gcd3 (a : Int) (t : Tok) (b : Int) (u : Tok) (c : Int) (v : Tok) : Gives (Builtin.«math.gcd» ⟨[.int a t, .int b u, .int c v], []⟩) (.int (((((Nat.gcd 0 a.natAbs).gcd b.natAbs).gcd c.natAbs : Nat) : Int))) :=
  .of_wp fun M A E s Q h => by
    obtain ⟨hp, g, d, tk, os⟩ := s
    wp_walk
    exact ⟨_, rfl, h⟩
def rGcd3 : List V → Hp → VK → Prop := fun vs H Q => ∃ a b c : Int, vs = [.int a, .int b, .int c] ∧ Q (.int (((Nat.gcd a.natAbs b.natAbs).gcd c.natAbs : Nat) : Int)) H
theorem call_gcd3 {X : Cx} : CallR X (.builtin "math.gcd") rGcd3 := by
  intro pins s σ H vs us Q I r h
  obtain ⟨a, b, c, rfl, q⟩ := h
  cases r with
  | cons ra r =>
    obtain ⟨t, rfl⟩ := ra
    cases r with
    | cons rb r =>
      obtain ⟨u, rfl⟩ := rb
      cases r with
      | cons rc r =>
        obtain ⟨v, rfl⟩ := rc
        cases r
        have g := run_gcd3 a t b u c v
        rw [Nat.gcd_zero_left] at g
        exact call_function_meets PySem.W.MGF.kind_gcd PySem.W.MGF.plain_gcd PySem.W.MGF.entry_gcd (args_gcd3 _ _ _) g.meets ⟨.int _, H, I.tok _, ⟨_, rfl⟩, q⟩
end LL

namespace LL
open PySem PySem.Spec PySem.Calls PyProof.Rows L2
/-! ### isinstance of a pinned exception -/
theorem call_isP {X : Cx} {a D : Addr} {oe : Obj} (C : ExcC X.K D) (hp : (a, oe) ∈ X.pn) (hz : Zc (.ref D) none oe) (hf : ∃ vs, oe.data = .fields vs) : CallR X (.builtin "isinstance") (rIsE X.K D a) := by
  intro pins s σ H xs us Q I r h
  obtain ⟨c, cv, b, rfl, hcv, hb, q⟩ := h
  cases r with
  | cons rx r2 =>
    cases r2 with
    | cons rc r3 =>
      cases r3
      cases rx
      cases hcv _ rc
      have P1 := (I.pin (a, oe) (List.mem_append_left _ hp)).1
      have J : PySem.W.InstAt s.heap a oe D none := by
        obtain ⟨vs, hv⟩ := hf
        rcases oe with ⟨o1, o2, o3, o4⟩
        rcases hz with ⟨z1, z2⟩
        simp only at z1 z2 hv
        subst z1; subst z2; subst hv
        exact ⟨P1, rfl, rfl, trivial⟩
      have kit := PySem.W.handS_kitx_exc (x := a) (ox := oe) C.hg C.hk C.hs C.hd C.ha C.hn C.ht C.hm
      exact PySem.W.kia_one kit I.kIn J hb (fun z => by cases z) fun tk => ⟨V.bl b, H, I.kept (t' := tk) (fun _ _ z => z), rfl, q⟩
/-! ### a def that is handed the exception which its caller's suite holds -/
/-- what it promises: handed an error of the class at D, it hands back the text ans, and nothing that is tracked changes -/
structure Tells (P : Program) (w : World) (K : PySem.W.Frag) (mg : Str → Option Value) (base : Heap) (x : Str) (D : Addr) (ans : Str) : Prop where
  ex : ∃ (fd : FuncData) (y : Str), Binds K fd [y] [] ∧ ∀ (A : Around) (outer : List Env) (s : Shared) (H : Hp) (args : Args) (p : Addr × Obj) (Q : VK) (E : XK), A.depth < recursionLimit → L2H.PinOk outer H s p → Zc (.ref D) none p.2 → (∃ vs, p.2.data = .fields vs) →
    Env0 P w K mg base A outer s H → BindsTo s fd args ([y].zip [.ref p.1]) → Q (.str ans) H → codeAny (model P w) A (.call (.ref (He.ga K x)) args) (CR CX0 outer P w H s Q E) s
/-- a def's body, run with the exception pinned -/
theorem tells_run {P : Program} {w : World} {K : PySem.W.Frag} {mg : Str → Option Value} {base : Heap} {f : Addr} {name qual : Str} {params : Arguments} {body : List Stmt} {scope : Scope} {dV kV doc pm cdv ct oc : Value} {an od : Option Addr}
    {osl : Array (Option Value)} {N ps : List Str} {A : Around} {outer : List Env} {s : Shared} {H : Hp} {args : Args} {us : List Value} {vs : List V} {Q : VK} {E : XK} {p : Addr × Obj}
    (lk : K.lookup f = some ⟨oc, od, .func (PySem.W.fnOf name qual params body scope dV kV doc pm an cdv ct), osl⟩) (hcd : PySem.W.codeIn K cdv qual = true) (S : FnScope N ps scope) (hl : vs.length = ps.length) (room : A.depth < recursionLimit)
    (hpin : L2H.PinOk outer H s p) (e0 : Env0 P w K mg base A outer s H) (hb : BindsTo s (PySem.W.fnOf name qual params body scope dV kV doc pm an cdv ct) args (ps.zip us)) (r : Vals vs us)
    {t : TS} (ht : PSs (L2H.cxH CX0 P w K mg base N qual scope f cdv A outer s H E p) body t) (hq : t { nx := fun _ H' => Q .non H', rt := Q } (start N vs) H) :
    codeAny (model P w) A (.call (.ref f) args) (CR CX0 outer P w H s Q E) s := by
  have here : ∀ b o, base.get? b = some o → s.heap.get? b = some o := fun b o z => (e0.bs b o z).1
  have kin := e0.mod.kin.keeps here
  have hk : ∀ y ∈ ps.zip us, scope.names.lookup y.1 = some .local ∨ (scope.names.lookup y.1 = some .cell ∧ ((cellsFrom (s.heap.objs.size + 1) scope.names []).lookup y.1).isSome = true) := by
    intro y hy
    have hy1 : y.1 ∈ ps := (List.of_mem_zip (a := y.1) (b := y.2) hy).1
    cases S.par y.1 hy1 with
    | inl z => exact Or.inl z
    | inr z => exact Or.inr ⟨z, PySem.W.cellsFrom_some _ _ _ (Or.inl z)⟩
  apply codeAny_call_function room (kin _ _ lk) rfl S.co S.gen rfl (PySem.W.codeRec_of kin hcd)
  apply hb
  apply wpAny_newFunctionEnv_cells S.kind hk
  rintro env rfl s1 x
  refine ⟨(e0.mod.nolimit.keeps here).keeps x.toInCall.keep, ?_⟩
  apply codeAny_func
  have I := L2H.inv_startH (CX := CX0) (E := E) S hpin e0 hl r x
  refine wpAny_mono (ht.run [] s1 _ H _ I hq) ?_ (fun e s' z => z)
  have back : ∀ {σ' : L2.St} {H' : Hp} {v : V} {u : Value} {s' : Shared}, Inv (L2H.cxH CX0 P w K mg base N qual scope f cdv A outer s H E p) [] σ' H' s' → RelV v u → Q v H' → CE outer P w H s Q u s' := by
    intro σ' H' v u s' J rv q
    exact ⟨v, H', J.os, J.bare, J.base, J.hok, rv, q⟩
  intro fl s' hs
  match fl, hs with
  | .ret u, ⟨v, σ', H', J, rv, q⟩ => exact back J rv q
  | .next, ⟨σ', H', J, q⟩ => exact back (v := V.non) (u := Value.none) J rfl q
  | .brk, ⟨_, _, _, q⟩ => exact q.elim
  | .cont, ⟨_, _, _, q⟩ => exact q.elim
/-- f(e), e the exception that the suite holds (at a; its class cls, its dict d) -/
def tTell (P : Program) (w : World) (K : PySem.W.Frag) (mg : Str → Option Value) (base : Heap) (x : Str) (a : Addr) (cls : Value) (d : Option Addr) (ta : TA) : TE := fun σ H Q => ta σ H fun vs H1 => vs = [.ref a] ∧ d = none ∧ ∃ (D : Addr) (ans : Str), cls = .ref D ∧ Tells P w K mg base x D ans ∧ Q (.str ans) H1
theorem pe_tell {X : Cx} {a : Addr} {oe : Obj} {cls : Value} {d : Option Addr} {pn : List (Addr × Obj)} {x : Str} {e : Expr} {ta : TA} {p pos : Pos} (hm : X.mg x = some (.ref (He.ga X.K x))) (hk : PySem.W.keepIn X.K (.ref (He.ga X.K x)) = true)
    (hz : Zc cls d oe) (hf : ∃ vs, oe.data = .fields vs) (room : X.A.depth < recursionLimit) (hg : Gl X x)
    (ha : PA (X.suite a ((a, oe) :: pn)) [e] ta) (hdb : (x == ("__debug__" : Str)) = false := by decide) (hst : starEach [e] X.env = (false, eval e X.env) :: starEach [] X.env := by rfl) (hpl : (backTo pos (starEach [] X.env)).any (·.1) = false := by rfl) :
    PE (X.suite a ((a, oe) :: pn)) (.Call (.Name x p) [e] [] pos) (tTell X.prog X.w X.K X.mg X.base x a cls d ta) := by
  refine ⟨fun pins s σ H Q I h => ?_⟩
  refine wpAny_Call_Name_kw (ld_glob (X := X.suite a ((a, oe) :: pn)) I hg hm ?_ hdb)
  refine PySem.W.callWith_K (h₀ := X.base) I.ok.mod.kin hk (thn (ha.run pos pins s σ H _ I h) ?_) hst hpl
  rintro us s1 ⟨vs, H1, I1, r, rfl, rfl, D, ans, rfl, T, q⟩
  refine ⟨I1.kIn, ?_⟩
  obtain ⟨fd, y, b, run⟩ := T.ex
  cases r with
  | cons r1 r2 =>
    cases r2
    cases r1
    have P1 := I1.pin (a, oe) (List.mem_append_left _ List.mem_cons_self)
    have pin : L2H.PinOk (X.suite a ((a, oe) :: pn)).stack H1 s1 (a, oe) := by
      refine ⟨P1.1, P1.2.1, fun hm => ?_, P1.2.2.2.2⟩
      cases List.mem_cons.mp (I1.stkSub a hm) with
      | inl z => exact P1.2.2.1 z
      | inr z => exact P1.2.2.2.1 z
    have b1 := b s1 [.ref a] I1.kIn rfl
    refine wpAny_call (codeAny_mono (run _ _ s1 H1 _ (a, oe) Q E0 room pin hz hf I1.env0 b1 q) ?_)
    intro r s' hq
    match r, hq with
    | .ok (.ret u), hq => exact I1.after hq
/-! ### an error's class -/
structure ExcF (K : PySem.W.Frag) (mg : Str → Option Value) (n : Str) : Prop where
  g : mg n = some (.ref (He.ga K n))
  x : PySem.W.excIn K (He.ga K n) He.veBase "ValueError.__new__" = true
  k : PySem.W.keepIn K (.ref (He.ga K n)) = true
  b : PySem.W.subIn K (.ref (He.ga K n)) (.type "BaseException") = some true
  t : PySem.W.typeIn K (.ref (He.ga K n)) = some (.type "type")
theorem ExcF.mk' {K : PySem.W.Frag} {h : Heap} {mg : Str → Option Value} (X : K.In h) (G : h.Ns mainGlobals mg) {x : Str} (c1 : (He.Fa.glo x).ok K = true) (c2 : (He.Fa.exc x).ok K = true) : ExcF K mg x := by
  obtain ⟨h1, h2, h3, h4⟩ := He.exc_ok c2
  exact ⟨He.glo_ok X G c1, h1, h2, h3, h4⟩
/-! ### what isinstance asks of an error of the class at D -/
def excCB (K : PySem.W.Frag) (D : Addr) : Bool := He.eqO (PySem.W.findIn K (.ref D) "__getattribute__") (some (some (.builtin "BaseException.__getattribute__"))) && (He.eqO (PySem.W.findIn K (.ref D) "__getattr__") (some none) &&
  (decide (PySem.W.subIn K (.ref D) (.type "BaseException") = some true) && (PySem.W.hasDictIn K D && (He.eqO (PySem.W.findIn K (.ref D) "__class__") (some (some (.builtin "object.__class__"))) &&
  (He.eqO (PySem.W.specialIn K (.builtin "object.__class__") "__get__") (some (some (.builtin "getset_descriptor.__get__"))) && (decide (PySem.W.takesIn K (.builtin "object.__class__") = some true) && decide (PySem.W.mroIn K D (.type "object") = some true)))))))
theorem excCB_ok {K : PySem.W.Frag} {D : Addr} (h : excCB K D = true) : ExcC K D := by
  obtain ⟨h1, h⟩ := He.ba h
  obtain ⟨h2, h⟩ := He.ba h
  obtain ⟨h3, h⟩ := He.ba h
  obtain ⟨h4, h⟩ := He.ba h
  obtain ⟨h5, h⟩ := He.ba h
  obtain ⟨h6, h⟩ := He.ba h
  obtain ⟨h7, h8⟩ := He.ba h
  exact ⟨He.eqO_ok h1, He.eqO_ok h2, of_decide_eq_true h3, h4, He.eqO_ok h5, He.eqO_ok h6, of_decide_eq_true h7, of_decide_eq_true h8⟩
/-- isinstance's answers for an error of the class x: own classes by name, ValueError -/
def kitsB (K : PySem.W.Frag) (x : Str) (ys : List (Str × Bool)) : Bool := excCB K (He.ga K x) && (decide (PySem.W.kitOne K (.ref (He.ga K x)) (.type "ValueError") = some true) && ys.all fun y => decide (PySem.W.kitOne K (.ref (He.ga K x)) (.ref (He.ga K y.1)) = some y.2))
structure KitsF (K : PySem.W.Frag) (x : Str) (ys : List (Str × Bool)) : Prop where
  c : ExcC K (He.ga K x)
  v : PySem.W.kitOne K (.ref (He.ga K x)) (.type "ValueError") = some true
  y : ∀ y ∈ ys, PySem.W.kitOne K (.ref (He.ga K x)) (.ref (He.ga K y.1)) = some y.2
theorem KitsF.mk' {K : PySem.W.Frag} {x : Str} {ys : List (Str × Bool)} (h : kitsB K x ys = true) : KitsF K x ys := by
  obtain ⟨h1, h⟩ := He.ba h
  obtain ⟨h2, h3⟩ := He.ba h
  exact ⟨excCB_ok h1, of_decide_eq_true h2, fun y hy => of_decide_eq_true (List.all_eq_true.mp h3 y hy)⟩
/-- the module's name x is this built-in -/
def bltB (K : PySem.W.Frag) (x : Str) (id : String) : Bool := He.eqO (PySem.W.nsIn K mainGlobals x) (some (some (.builtin id)))
theorem bltB_ok {K : PySem.W.Frag} {h : Heap} {mg : Str → Option Value} (X : K.In h) (G : h.Ns mainGlobals mg) {x : Str} {id : String} (c : bltB K x id = true) : mg x = some (.builtin id) := PySem.W.mg_of X G (He.eqO_ok c)
/-! ### values: their kinds -/
/-- what a caller hands in: a number, a truth, a text, None, a tuple, a list, a dict -/
inductive Arg (H : Hp) : V → Prop where
  | int (i : Int) : Arg H (.int i)
  | bl (b : Bool) : Arg H (.bl b)
  | str (z : Str) : Arg H (.str z)
  | non : Arg H .non
  | tup {a : Addr} {xs : List V} (e : H a = some (.tup xs)) : Arg H (.ref a)
  | lst {a : Addr} {xs : List V} (e : H a = some (.lst xs)) : Arg H (.ref a)
  | dK {a : Addr} {xs : List (Key × V)} (e : H a = some (.dK xs)) : Arg H (.ref a)
/-- a whole number, and no truth -/
def isNum : V → Bool
  | .int _ => true
  | _ => false
theorem Arg.num {K : PySem.W.Frag} {H : Hp} {v : V} (a : Arg H v) : ∃ (t : Value) (b1 b2 : Bool), TyX K H v t ∧ PySem.W.kitOne K t (.type "int") = some b1 ∧ PySem.W.kitOne K t (.type "bool") = some b2 ∧ (b1 && !b2) = isNum v := by
  cases a with
  | int i => exact ⟨_, true, false, .base (.int i), kit_ty (by decide +kernel), kit_ty (by decide +kernel), rfl⟩
  | bl b => exact ⟨_, true, true, .base (.bl b), kit_ty (by decide +kernel), kit_ty (by decide +kernel), rfl⟩
  | str z => exact ⟨_, false, false, .base (.str z), kit_ty (by decide +kernel), kit_ty (by decide +kernel), rfl⟩
  | non => exact ⟨_, false, false, .base .non, kit_ty (by decide +kernel), kit_ty (by decide +kernel), rfl⟩
  | tup e => exact ⟨_, false, false, .base (.tup e), kit_ty (by decide +kernel), kit_ty (by decide +kernel), rfl⟩
  | lst e => exact ⟨_, false, false, .base (.lst e), kit_ty (by decide +kernel), kit_ty (by decide +kernel), rfl⟩
  | dK e => exact ⟨_, false, false, .base (.dK e), kit_ty (by decide +kernel), kit_ty (by decide +kernel), rfl⟩
/-- isinstance(x, tuple), isinstance(x, list) -/
def isTup (H : Hp) : V → Bool
  | .ref a => (match H a with | some (.tup _) => true | _ => false)
  | _ => false
theorem Arg.tuple {K : PySem.W.Frag} {H : Hp} {v : V} (a : Arg H v) : ∃ (t : Value), TyX K H v t ∧ PySem.W.kitOne K t (.type "tuple") = some (isTup H v) := by
  cases a with
  | int i => exact ⟨_, .base (.int i), kit_ty (r := false) (by decide +kernel)⟩
  | bl b => exact ⟨_, .base (.bl b), kit_ty (r := false) (by decide +kernel)⟩
  | str z => exact ⟨_, .base (.str z), kit_ty (r := false) (by decide +kernel)⟩
  | non => exact ⟨_, .base .non, kit_ty (r := false) (by decide +kernel)⟩
  | tup e => exact ⟨_, .base (.tup e), by simp only [isTup, e]; exact kit_ty (by decide +kernel)⟩
  | lst e => exact ⟨_, .base (.lst e), by simp only [isTup, e]; exact kit_ty (by decide +kernel)⟩
  | dK e => exact ⟨_, .base (.dK e), by simp only [isTup, e]; exact kit_ty (by decide +kernel)⟩
end LL

namespace LL
open PySem PySem.Spec PySem.Calls PyProof.Rows L2
/-! ### promises and readings of small defs -/
/-- is this a whole number, and no truth -/
def sp_num : Sp := fun vs H Q _ => ∃ v, vs = [v] ∧ Arg H v ∧ Q (.bl (isNum v)) H
theorem num_read {K : PySem.W.Frag} {vs : List V} {H : Hp} {Q : VK} {E : XK} {x : Str} (h : sp_num vs H Q E) :
    tRet (tAndV (tCB (rIsi K) (tCons (tVar 0) (tCons (tC (.ty "int")) tNil))) (tNotV (tCB (rIsi K) (tCons (tVar 0) (tCons (tC (.ty "bool")) tNil))))) { nx := fun _ H' => Q .non H', rt := Q } (start [x] vs) H := by
  obtain ⟨v, rfl, a, q⟩ := h
  obtain ⟨t, b1, b2, ty, k1, k2, e⟩ := a.num (K := K)
  refine ⟨_, rfl, _, _, t, _, b1, rfl, .ty _, ty, k1, _, rfl, ?_⟩
  rw [← e] at q
  cases b1 with
  | false => exact iteF q
  | true => exact iteT ⟨_, rfl, _, _, t, _, b2, rfl, .ty _, ty, k2, _, rfl, q⟩
/-! ### lists of numbers -/
def cell (ns : List Int) (k : Int) : Int := ns.getD k.toNat 0
theorem atI_ints {ns : List Int} {k : Int} (h0 : 0 ≤ k) (h : k < ns.length) : atI (ns.map V.int) k = some (.int (cell ns k)) := by
  obtain ⟨n, rfl⟩ : ∃ n : Nat, k = n := ⟨k.toNat, by omega⟩
  have hn : n < ns.length := by omega
  have e : (ns.map V.int)[n]? = some (.int (cell ns n)) := by
    rw [List.getElem?_map, List.getElem?_eq_getElem hn]
    simp [cell, List.getD, List.getElem?_eq_getElem hn]
  exact atI_nat e
def sp_cell (K : PySem.W.Frag) : Sp := fun vs H Q _ => ∃ (a : Addr) (ns : List Int) (k : Int), vs = [.ref a, .int k] ∧ SqL K H a (ns.map V.int) ∧ 0 ≤ k ∧ Q (.int (cell ns k)) H
/-! ### // by any number but 0 -/
def CDivA (_ j : Int) : Prop := j ≠ 0 ∧ j.natAbs.log2 < 9000
theorem op_fdivA {X : Cx} : OpR X (binaryOp .FloorDiv) (rI CDivA fun i j => .int (i.fdiv j)) := opI fun i j _ _ _ _ _ hc q => floordiv_int hc.1 q (.inl (PyProof.noPylong_of_log2 hc.2))
theorem divA {i j : Int} {b : Nat} (h : j ≠ 0) (hb : j.natAbs < 2 ^ b) (h0 : 0 < b) (h9 : b ≤ 9000) : CDivA i j := ⟨h, Nat.lt_of_lt_of_le (PySem.Flt.log2_lt_of h0 hb) h9⟩
/-! ### the greatest common part -/
def sp_shared : Sp := fun vs H Q _ => ∃ a b : Int, vs = [.int a, .int b] ∧ 0 ≤ a ∧ 0 ≤ b ∧ Q (.int ((Nat.gcd a.toNat b.toNat : Nat) : Int)) H
/-- three numbers in lowest terms, the last above 0 -/
def Low (x y b : Int) : Prop := 0 < b ∧ Nat.gcd x.natAbs (Nat.gcd y.natAbs b.natAbs) = 1
instance (x y b : Int) : Decidable (Low x y b) := inferInstanceAs (Decidable (_ ∧ _))
theorem gcd_low {x y b : Int} (hb : b ≠ 0) (s : Int) (hs : s = if b < 0 then -(((Nat.gcd (Nat.gcd x.natAbs y.natAbs) b.natAbs : Nat)) : Int) else ((Nat.gcd (Nat.gcd x.natAbs y.natAbs) b.natAbs : Nat) : Int)) :
    s ≠ 0 ∧ s.natAbs ≤ b.natAbs ∧ Low (x.fdiv s) (y.fdiv s) (b.fdiv s) ∧ x.fdiv s * b = x * b.fdiv s ∧ y.fdiv s * b = y * b.fdiv s := by
  have hn : 0 < b.natAbs := Int.natAbs_pos.mpr hb
  have g0 : 0 < Nat.gcd (Nat.gcd x.natAbs y.natAbs) b.natAbs := Nat.gcd_pos_of_pos_right _ hn
  have dx : Nat.gcd (Nat.gcd x.natAbs y.natAbs) b.natAbs ∣ x.natAbs := Nat.dvd_trans (Nat.gcd_dvd_left _ _) (Nat.gcd_dvd_left _ _)
  have dy : Nat.gcd (Nat.gcd x.natAbs y.natAbs) b.natAbs ∣ y.natAbs := Nat.dvd_trans (Nat.gcd_dvd_left _ _) (Nat.gcd_dvd_right _ _)
  have db : Nat.gcd (Nat.gcd x.natAbs y.natAbs) b.natAbs ∣ b.natAbs := Nat.gcd_dvd_right _ _
  generalize hg : Nat.gcd (Nat.gcd x.natAbs y.natAbs) b.natAbs = g at *
  have sabs : s.natAbs = g := by rw [hs]; split <;> omega
  have s0 : s ≠ 0 := by intro z; rw [z] at sabs; simp at sabs; omega
  have ex : s ∣ x := Int.natAbs_dvd_natAbs.mp (by rw [sabs]; exact dx)
  have ey : s ∣ y := Int.natAbs_dvd_natAbs.mp (by rw [sabs]; exact dy)
  have eb : s ∣ b := Int.natAbs_dvd_natAbs.mp (by rw [sabs]; exact db)
  obtain ⟨x1, rfl⟩ := ex
  obtain ⟨y1, rfl⟩ := ey
  obtain ⟨b1, rfl⟩ := eb
  have f : ∀ z : Int, (s * z).fdiv s = z := fun z => Int.mul_fdiv_cancel_left z s0
  rw [f, f, f]
  have b1p : 0 < b1 := by
    have hb1 : b1 ≠ 0 := fun z => hb (by rw [z, Int.mul_zero])
    by_cases c : s * b1 < 0
    · have sn : s < 0 := by rw [if_pos c] at hs; omega
      by_cases d : b1 < 0
      · have := Int.mul_pos_of_neg_of_neg sn d; omega
      · omega
    · have sp : 0 < s := by rw [if_neg c] at hs; omega
      by_cases d : b1 < 0
      · have := Int.mul_neg_of_pos_of_neg sp d; omega
      · omega
  refine ⟨s0, ?_, ⟨b1p, ?_⟩, ?_, ?_⟩
  · rw [sabs]; exact Nat.le_of_dvd hn db
  · have e : Nat.gcd (Nat.gcd (s * x1).natAbs (s * y1).natAbs) (s * b1).natAbs = s.natAbs * Nat.gcd (Nat.gcd x1.natAbs y1.natAbs) b1.natAbs := by
      rw [Int.natAbs_mul, Int.natAbs_mul, Int.natAbs_mul, Nat.gcd_mul_left, Nat.gcd_mul_left]
    rw [hg, sabs] at e
    have e1 : Nat.gcd (Nat.gcd x1.natAbs y1.natAbs) b1.natAbs = 1 := by
      have : g * 1 = g * Nat.gcd (Nat.gcd x1.natAbs y1.natAbs) b1.natAbs := by rw [Nat.mul_one]; exact e
      exact (Nat.eq_of_mul_eq_mul_left g0 this).symm
    rw [← Nat.gcd_assoc]
    exact e1
  · rw [← Int.mul_assoc, Int.mul_comm x1 s]
  · rw [← Int.mul_assoc, Int.mul_comm y1 s]
theorem natAbs_lt {x : Int} {b n : Nat} (h : x.natAbs ≤ n) (hn : n < 2 ^ b) : x.natAbs < 2 ^ b := Nat.lt_of_le_of_lt h hn
/-- the spot, of numbers that are good; else the refusal -/
def sp_spot_of (K : PySem.W.Frag) : Sp := fun vs H Q E => ∃ x y b : V, vs = [x, y, b] ∧ Arg H x ∧ Arg H y ∧ Arg H b ∧
  (((isNum x && isNum y && isNum b) = false ∨ b = .int 0) → E (.ref (He.ga K "BadSpot")) none H) ∧
  (∀ i j k : Int, x = .int i → y = .int j → b = .int k → k ≠ 0 → k.natAbs < 2 ^ 8000 ∧ ∀ (X Y B : Int) (p : Addr), Low X Y B → X * k = i * B → Y * k = j * B → H p = none → Q (.ref p) (upd H p (.tup [.int X, .int Y, .int B])))
theorem big8000 {n m : Nat} (h : n ≤ m) (hm : m < 2 ^ 200) : n < 2 ^ 8000 := Nat.lt_of_lt_of_le (Nat.lt_of_le_of_lt h hm) (Nat.pow_le_pow_right (by decide) (show 200 ≤ 8000 by decide))
/-! ### heaps, joins -/
theorem same_upd {H : Hp} {p : Addr} {o : HO} (h : H p = none) : Same H (upd H p o) := fun b z e => (upd_ne (ne_of_none e h)).trans e
theorem seq_cut {t u : TS} {D : Ends} {σ : L2.St} {H : Hp} (R : L2.St → Hp → Prop) (h2 : ∀ σ' H', R σ' H' → u D σ' H') (h1 : (∀ σ' H', R σ' H' → u D σ' H') → t { D with nx := u D } σ H) : tSeq t u D σ H := h1 h2
theorem gName_go {i : Nat} {v : V} {σ : L2.St} {H : Hp} {f b c : L2.St → Hp → Prop} {r : VK} (h : f (σ.set i (some v)) H) : gName i v σ H (Ends.mk f r b c).nx := h
theorem gName_as {i : Nat} {v : V} (u : V) (e : v = u) {σ : L2.St} {H : Hp} {f b c : L2.St → Hp → Prop} {r : VK} (h : f (σ.set i (some u)) H) : gName i v σ H (Ends.mk f r b c).nx := by
  subst e
  exact h
/-- the heap by another name -/
theorem nx_as {σ : L2.St} {H : Hp} {f b c : L2.St → Hp → Prop} {r : VK} (H' : Hp) (e : H = H') (h : f σ H') : (Ends.mk f r b c).nx σ H := by
  subst e
  exact h
theorem next_go {σ : L2.St} {H : Hp} {f b c : L2.St → Hp → Prop} {r : VK} (h : f σ H) : tNext (Ends.mk f r b c) σ H := h
/-- at an if: what follows it is shown once, from R -/
theorem if_cut {c : TT} {t1 t2 u : TS} {D : Ends} {σ : L2.St} {H : Hp} (R : L2.St → Hp → Prop) (h2 : ∀ σ' H', R σ' H' → u D σ' H') (h1 : (∀ σ' H', R σ' H' → u D σ' H') → tIfS c t1 t2 { D with nx := u D } σ H) : tSeq (tIfS c t1 t2) u D σ H := h1 h2
theorem Arg.up {H H' : Hp} {v : V} (s : Same H H') (a : Arg H v) : Arg H' v := by
  cases a with
  | int i => exact .int i
  | bl b => exact .bl b
  | str z => exact .str z
  | non => exact .non
  | tup e => exact .tup (s _ _ e)
  | lst e => exact .lst (s _ _ e)
  | dK e => exact .dK (s _ _ e)
theorem Arg.put {H : Hp} {e : Addr} {xs ys : List V} {v : V} (he : H e = some (.lst xs)) (a : Arg H v) : Arg (upd H e (.lst ys)) v := by
  cases a with
  | int i => exact .int i
  | bl b => exact .bl b
  | str z => exact .str z
  | non => exact .non
  | tup hb => exact .tup ((upd_ne (ne_of hb he (by intro z; cases z))).trans hb)
  | @lst b zs hb =>
    by_cases z : b = e
    · subst z
      exact .lst upd_same
    · exact .lst ((upd_ne z).trans hb)
  | dK hb => exact .dK ((upd_ne (ne_of hb he (by intro z; cases z))).trans hb)
end LL

namespace LL
open PySem PySem.Spec PySem.Calls PyProof.Rows L2
/-! ### numbers within bounds; fences; edges -/
def within : V → Int → Int → Bool
  | .int i, lo, hi => decide (lo ≤ i) && decide (i ≤ hi)
  | _, _, _ => false
theorem within_int {v : V} {lo hi : Int} (h : within v lo hi = true) : ∃ i, v = .int i := by
  cases v <;> first | exact ⟨_, rfl⟩ | cases h
theorem within_le {i lo hi : Int} (h : within (.int i) lo hi = true) : lo ≤ i ∧ i ≤ hi := by
  have h1 : (decide (lo ≤ i) && decide (i ≤ hi)) = true := h
  simpa using h1
theorem within_of {i lo hi : Int} (h1 : lo ≤ i) (h2 : i ≤ hi) : within (.int i) lo hi = true := by
  show (decide (lo ≤ i) && decide (i ≤ hi)) = true
  simp [h1, h2]
theorem within_not {i lo hi : Int} (h : i < lo ∨ hi < i) : within (.int i) lo hi = false := by
  show (decide (lo ≤ i) && decide (i ≤ hi)) = false
  rcases h with h | h
  · rw [decide_eq_false (by omega), Bool.false_and]
  · rw [decide_eq_false (show ¬ i ≤ hi by omega), Bool.and_false]
def sp_within : Sp := fun vs H Q _ => ∃ (v : V) (lo hi : Int), vs = [v, .int lo, .int hi] ∧ Arg H v ∧ Q (.bl (within v lo hi)) H
def sp_slope : Sp := fun vs H Q _ => ∃ v, vs = [v] ∧ Arg H v ∧ Q (.bl (within v (-1000) 1000)) H
def sp_check_size (K : PySem.W.Frag) : Sp := fun vs H Q E => ∃ v, vs = [v] ∧ Arg H v ∧ (within v 1 1000 = false → E (.ref (He.ga K "BadSize")) none H) ∧ (within v 1 1000 = true → Q .non H)
def fenceOk (a b c : V) : Bool := within a (-1000) 1000 && within b (-1000) 1000 && !decide (a = .int 0 ∧ b = .int 0) && within c (-1000000) 1000000
def sp_fence_of (K : PySem.W.Frag) : Sp := fun vs H Q E => ∃ a b c : V, vs = [a, b, c] ∧ Arg H a ∧ Arg H b ∧ Arg H c ∧ (fenceOk a b c = false → E (.ref (He.ga K "BadFence")) none H) ∧ (fenceOk a b c = true → ∀ p, H p = none → Q (.ref p) (upd H p (.tup [a, b, c])))
/-- the four edges stand at l, new over H -/
structure Edges (n : Int) (H H' : Hp) (l p0 p1 p2 p3 : Addr) : Prop where
  same : Same H H'
  new : H l = none
  lst : H' l = some (.lst [.ref p0, .ref p1, .ref p2, .ref p3])
  e0 : H' p0 = some (.tup [.int (-1), .int 0, .int 0])
  e1 : H' p1 = some (.tup [.int 0, .int (-1), .int 0])
  e2 : H' p2 = some (.tup [.int 1, .int 0, .int n])
  e3 : H' p3 = some (.tup [.int 0, .int 1, .int n])
def sp_edges (K : PySem.W.Frag) : Sp := fun vs H Q E => ∃ v, vs = [v] ∧ Arg H v ∧ (within v 1 1000 = false → E (.ref (He.ga K "BadSize")) none H) ∧
  (∀ n, v = .int n → within v 1 1000 = true → ∀ H' l p0 p1 p2 p3, Edges n H H' l p0 p1 p2 p3 → Q (.ref l) H')
/-! ### menus -/
theorem menu_mem {xs : List V} {n m : Int} (hm : 0 < m) (hl : (xs.length : Int) = m) : ∃ v, atI xs (n % m) = some v ∧ v ∈ xs := by
  have h0 := Int.emod_nonneg n (show m ≠ 0 by omega)
  have h1 := Int.emod_lt_of_pos n hm
  obtain ⟨j, hj⟩ : ∃ j : Nat, n % m = j := ⟨(n % m).toNat, by omega⟩
  have lt : j < xs.length := by omega
  rw [hj]
  exact ⟨xs[j], atI_nat (List.getElem?_eq_getElem lt), List.getElem_mem lt⟩
theorem ix3 {k : Int} (h0 : 0 ≤ k) (h3 : k < 3) : ∃ j : Nat, ixN 3 k = some j ∧ j < 3 ∧ k = j := by
  have : k = 0 ∨ k = 1 ∨ k = 2 := by omega
  rcases this with e | e | e <;> rw [e]
  · exact ⟨0, rfl, by decide, rfl⟩
  · exact ⟨1, rfl, by decide, rfl⟩
  · exact ⟨2, rfl, by decide, rfl⟩
/-! ### == of tuples of three numbers, and of lists of these -/
theorem dp_three {K : PySem.W.Frag} {H : Hp} {p : Addr} {a b c : Int} (h : H p = some (.tup [.int a, .int b, .int c])) : Dp K H (.ref p) (.tuple [.int a, .int b, .int c]) :=
  .tup (SqT.of h) (.cons (.int a) (.cons (.int b) (.cons (.int c) .nil)))
end LL

namespace LL
open PySem PySem.Spec PySem.Calls PyProof.Rows L2
/-! ### sizes -/
def Sz (n : Nat) (x : Int) : Prop := x.natAbs < 2 ^ n
theorem Sz.mono {n m : Nat} {x : Int} (h : Sz n x) (l : n ≤ m) : Sz m x := Nat.lt_of_lt_of_le h (Nat.pow_le_pow_right (by decide) l)
theorem Sz.mul {n m : Nat} {x y : Int} (h : Sz n x) (k : Sz m y) : Sz (n + m) (x * y) := wide_lt h k
theorem Sz.add {n : Nat} {x y : Int} (h : Sz n x) (k : Sz n y) : Sz (n + 1) (x + y) := by
  unfold Sz at *
  rw [Nat.pow_succ]
  omega
theorem Sz.sub {n : Nat} {x y : Int} (h : Sz n x) (k : Sz n y) : Sz (n + 1) (x - y) := by
  unfold Sz at *
  rw [Nat.pow_succ]
  omega
theorem Sz.ok {n m : Nat} {x y : Int} (h : Sz n x) (k : Sz m y) (hn : 0 < n) (hm : 0 < m) (l : n + m ≤ 1000000) : CMulW x y := wide_mul h k hn hm l
theorem Sz.of {n : Nat} {x : Int} {b : Nat} (h : x.natAbs ≤ b) (l : b < 2 ^ n) : Sz n x := Nat.lt_of_le_of_lt h l
/-- the numbers of a spot, of a fence -/
structure Sz3 (n : Nat) (x y b : Int) : Prop where
  x : Sz n x
  y : Sz n y
  b : Sz n b
theorem Sz3.mono {n m : Nat} {x y b : Int} (h : Sz3 n x y b) (l : n ≤ m) : Sz3 m x y b := ⟨h.x.mono l, h.y.mono l, h.b.mono l⟩
/-- a tuple of three numbers -/
abbrev Tri (K : PySem.W.Frag) (H : Hp) (p : Addr) (x y b : Int) : Prop := SqT K H p [.int x, .int y, .int b]
/-! ### reach, turn, meeting -/
def reachI (a b c x y d : Int) : Int := a * x + b * y - c * d
def sp_reach (K : PySem.W.Frag) : Sp := fun vs H Q _ => ∃ (p q : Addr) (a b c x y d : Int), vs = [.ref p, .ref q] ∧ Tri K H p a b c ∧ Tri K H q x y d ∧ Sz3 1000 a b c ∧ Sz3 1000 x y d ∧ Q (.int (reachI a b c x y d)) H
def triI (x y b x2 y2 b2 x3 y3 b3 : Int) : Int := x * (y2 * b3 - y3 * b2) - y * (x2 * b3 - x3 * b2) + b * (x2 * y3 - x3 * y2)
def sgn (n : Int) : Int := if 0 < n then 1 else if n < 0 then -1 else 0
def sp_tri (K : PySem.W.Frag) (f : Int → Int) : Sp := fun vs H Q _ => ∃ (p q r : Addr) (x y b x2 y2 b2 x3 y3 b3 : Int), vs = [.ref p, .ref q, .ref r] ∧ Tri K H p x y b ∧ Tri K H q x2 y2 b2 ∧ Tri K H r x3 y3 b3 ∧
  Sz3 1000 x y b ∧ Sz3 1000 x2 y2 b2 ∧ Sz3 1000 x3 y3 b3 ∧ Q (.int (f (triI x y b x2 y2 b2 x3 y3 b3))) H
def sp_meeting (K : PySem.W.Frag) : Sp := fun vs H Q _ => ∃ (p q : Addr) (a b c a2 b2 c2 : Int), vs = [.ref p, .ref q] ∧ Tri K H p a b c ∧ Tri K H q a2 b2 c2 ∧ Sz3 1000 a b c ∧ Sz3 1000 a2 b2 c2 ∧
  (a * b2 - b * a2 = 0 → Q .non H) ∧ (a * b2 - b * a2 ≠ 0 → ∀ (X Y B : Int) (l : Addr), Low X Y B → a * X + b * Y = c * B → a2 * X + b2 * Y = c2 * B → X * (a * b2 - b * a2) = (c * b2 - b * c2) * B → Y * (a * b2 - b * a2) = (a * c2 - c * a2) * B →
    H l = none → Q (.ref l) (upd H l (.tup [.int X, .int Y, .int B])))
theorem meet_on {a b c p q r X Y B : Int} (h0 : a * q - b * p ≠ 0) (hx : X * (a * q - b * p) = (c * q - b * r) * B) (hy : Y * (a * q - b * p) = (a * r - c * p) * B) : a * X + b * Y = c * B ∧ p * X + q * Y = r * B := by
  constructor
  · apply Int.eq_of_mul_eq_mul_right h0
    grind
  · apply Int.eq_of_mul_eq_mul_right h0
    grind
theorem low_abs {x y b : Int} (hb : 0 < b) (s : Int) (hs : s = ((Nat.gcd x.natAbs (Nat.gcd y.natAbs b.natAbs) : Nat) : Int)) :
    s ≠ 0 ∧ 0 < s ∧ s.natAbs ≤ b.natAbs ∧ Low (x.fdiv s) (y.fdiv s) (b.fdiv s) ∧ (x.fdiv s).natAbs ≤ x.natAbs ∧ (y.fdiv s).natAbs ≤ y.natAbs ∧ (b.fdiv s).natAbs ≤ b.natAbs := by
  have e : s = if b < 0 then -(((Nat.gcd (Nat.gcd x.natAbs y.natAbs) b.natAbs : Nat)) : Int) else ((Nat.gcd (Nat.gcd x.natAbs y.natAbs) b.natAbs : Nat) : Int) := by
    rw [if_neg (by omega), hs, Nat.gcd_assoc]
  obtain ⟨s0, sb, low, _, _⟩ := gcd_low (x := x) (y := y) (b := b) (by omega) s e
  have sp : 0 < s := by
    have : 0 ≤ s := by rw [hs]; exact Int.natCast_nonneg _
    omega
  have f : ∀ z : Int, s ∣ z → (z.fdiv s).natAbs ≤ z.natAbs := by
    rintro z ⟨k, rfl⟩
    rw [Int.mul_fdiv_cancel_left k s0, Int.natAbs_mul]
    exact Nat.le_mul_of_pos_left _ (by omega)
  have d1 : s ∣ x := Int.natAbs_dvd_natAbs.mp (by rw [hs, Int.natAbs_natCast]; exact Nat.gcd_dvd_left _ _)
  have d2 : s ∣ y := Int.natAbs_dvd_natAbs.mp (by rw [hs, Int.natAbs_natCast]; exact Nat.dvd_trans (Nat.gcd_dvd_right _ _) (Nat.gcd_dvd_left _ _))
  have d3 : s ∣ b := Int.natAbs_dvd_natAbs.mp (by rw [hs, Int.natAbs_natCast]; exact Nat.dvd_trans (Nat.gcd_dvd_right _ _) (Nat.gcd_dvd_right _ _))
  exact ⟨s0, sp, sb, low, f _ d1, f _ d2, f _ d3⟩
/-- a fence's numbers -/
structure FenceI (a b c : Int) : Prop where
  ha : a.natAbs ≤ 1000
  hb : b.natAbs ≤ 1000
  ab : ¬ (a = 0 ∧ b = 0)
  hc : c.natAbs ≤ 1000000
theorem FenceI.sz {a b c : Int} (h : FenceI a b c) : Sz3 100 a b c := ⟨.of h.ha (by decide), .of h.hb (by decide), .of h.hc (by decide)⟩
def sp_law_fence_by : Sp := fun vs H Q _ => ∃ c s : Int, vs = [.int c, .int s] ∧ 1 ≤ s ∧ s ≤ 1000 ∧ ∀ (H' : Hp) (p : Addr) (x y z : Int), Same H H' → H p = none → H' p = some (.tup [.int x, .int y, .int z]) → FenceI x y z → Q (.ref p) H'
/-- a spot stands at p -/
structure SpotAt (n : Nat) (H : Hp) (p : Addr) (x y b : Int) : Prop where
  at_ : H p = some (.tup [.int x, .int y, .int b])
  low : Low x y b
  sz : Sz3 n x y b
theorem SpotAt.up {n : Nat} {H H' : Hp} {p : Addr} {x y b : Int} (h : SpotAt n H p x y b) (s : Same H H') : SpotAt n H' p x y b := ⟨s _ _ h.at_, h.low, h.sz⟩
theorem SpotAt.mono {n m : Nat} {H : Hp} {p : Addr} {x y b : Int} (h : SpotAt n H p x y b) (l : n ≤ m) : SpotAt m H p x y b := ⟨h.at_, h.low, h.sz.mono l⟩
def sp_law_spot_by : Sp := fun vs H Q _ => ∃ c o s : Int, vs = [.int c, .int o, .int s] ∧ 1 ≤ s ∧ s ≤ 1000 ∧ ∀ (H' : Hp) (p : Addr) (x y b : Int), Same H H' → H p = none → SpotAt 100 H' p x y b → Q (.ref p) H'
theorem abs_nn (i : Int) : 0 ≤ (if i < 0 then -i else i) := by split <;> omega
theorem abs_nat (i : Int) : (if i < 0 then -i else i).toNat = i.natAbs := by split <;> omega
def sp_law_good_spot : Sp := fun vs H Q _ => ∃ (p : Addr) (x y b : Int), vs = [.ref p] ∧ H p = some (.tup [.int x, .int y, .int b]) ∧ Q (.bl (decide (Low x y b))) H
def sp_law_size_by : Sp := fun vs H Q _ => ∃ c : Int, vs = [.int c] ∧ ∀ s : Int, 1 ≤ s → s ≤ 1000 → Q (.int s) H
end LL

namespace LL
open PySem PySem.Spec PySem.Calls PyProof.Rows L2

def top (i : Nat) : Stmt := PySem.Challenge.pw_landlines_k03_reach_meeting_turn.main.body.getD i (.Pass ⟨0, 0, 0, 0⟩)
abbrev s_is_number : Stmt := top 5
abbrev s_spot_of : Stmt := top 7
abbrev s_twice_triangle : Stmt := top 9
abbrev s_turn : Stmt := top 8
abbrev s_reach : Stmt := top 11
abbrev s_meeting : Stmt := top 12
abbrev s_law_cell_at : Stmt := top 14
abbrev s_law_whole : Stmt := top 15
abbrev s_law_shared : Stmt := top 16
abbrev s_law_good_spot : Stmt := top 17
abbrev s_law_size_by : Stmt := top 18
abbrev s_law_fence_by : Stmt := top 19
abbrev s_law_spot_by : Stmt := top 20
abbrev s_law_turn : Stmt := top 21
abbrev s_law_third : Stmt := top 22
abbrev s_law : Stmt := top 23
/-! ### what the top has written -/
structure Txt (K : PySem.W.Frag) (mg : Str → Option Value) : Prop where
  d_is_number : ∃ fd, FnP K "is_number" s_is_number fd
  g_is_number : mg "is_number" = some (.ref (He.ga K "is_number"))
  d_spot_of : ∃ fd, FnP K "spot_of" s_spot_of fd
  g_spot_of : mg "spot_of" = some (.ref (He.ga K "spot_of"))
  d_twice_triangle : ∃ fd, FnP K "_twice_triangle" s_twice_triangle fd
  g_twice_triangle : mg "_twice_triangle" = some (.ref (He.ga K "_twice_triangle"))
  d_turn : ∃ fd, FnP K "turn" s_turn fd
  g_turn : mg "turn" = some (.ref (He.ga K "turn"))
  d_reach : ∃ fd, FnP K "reach" s_reach fd
  g_reach : mg "reach" = some (.ref (He.ga K "reach"))
  d_meeting : ∃ fd, FnP K "meeting" s_meeting fd
  g_meeting : mg "meeting" = some (.ref (He.ga K "meeting"))
  d_law_cell_at : ∃ fd, FnP K "_law_cell_at" s_law_cell_at fd
  g_law_cell_at : mg "_law_cell_at" = some (.ref (He.ga K "_law_cell_at"))
  d_law_whole : ∃ fd, FnP K "_law_whole" s_law_whole fd
  g_law_whole : mg "_law_whole" = some (.ref (He.ga K "_law_whole"))
  d_law_shared : ∃ fd, FnP K "_law_shared" s_law_shared fd
  g_law_shared : mg "_law_shared" = some (.ref (He.ga K "_law_shared"))
  d_law_good_spot : ∃ fd, FnP K "_law_good_spot" s_law_good_spot fd
  g_law_good_spot : mg "_law_good_spot" = some (.ref (He.ga K "_law_good_spot"))
  d_law_size_by : ∃ fd, FnP K "_law_size_by" s_law_size_by fd
  g_law_size_by : mg "_law_size_by" = some (.ref (He.ga K "_law_size_by"))
  d_law_fence_by : ∃ fd, FnP K "_law_fence_by" s_law_fence_by fd
  g_law_fence_by : mg "_law_fence_by" = some (.ref (He.ga K "_law_fence_by"))
  d_law_spot_by : ∃ fd, FnP K "_law_spot_by" s_law_spot_by fd
  g_law_spot_by : mg "_law_spot_by" = some (.ref (He.ga K "_law_spot_by"))
  d_law_turn : ∃ fd, FnP K "_law_turn" s_law_turn fd
  g_law_turn : mg "_law_turn" = some (.ref (He.ga K "_law_turn"))
  d_law_third : ∃ fd, FnP K "_law_third" s_law_third fd
  g_law_third : mg "_law_third" = some (.ref (He.ga K "_law_third"))
  d_law : ∃ fd, FnP K "law" s_law fd
  g_law : mg "law" = some (.ref (He.ga K "law"))
  m_abs : mg "abs" = none
  m_bool : mg "bool" = none
  m_int : mg "int" = none
  m_isinstance : mg "isinstance" = none
  m_len : mg "len" = none
  m_max : mg "max" = none
  m_min : mg "min" = none
  m_range : mg "range" = none
  m_tuple : mg "tuple" = none
  BadSpot : ExcF K mg "BadSpot"
  gcd : mg "gcd" = some (.builtin "math.gcd")
section
variable {P : Program} {w : World} {K : PySem.W.Frag} {mg : Str → Option Value} {base : Heap}
/-! ## is_number -/
abbrev n_is_number : List Str := ["value"]
theorem sc_is_number : FnScope n_is_number ["value"] (defScope s_is_number) := ⟨rfl, rfl, rfl, by decide +kernel, rfl, by decide +kernel, by decide +kernel⟩
theorem ok_is_number (T : Txt K mg) : Good P w K mg base CX0 1 "is_number" ["value"] sp_num := by
  obtain ⟨fd, F⟩ := T.d_is_number
  refine ⟨T.g_is_number, F.kp, fd, F.bindsN (fun _ _ _ _ _ _ us hl => match us, hl with | [_], _ => rfl), F.ok sc_is_number (fun vs H Q E h => ?_) (fun cdv A outer s H vs Q E hr h => ⟨_, PSs.nox (pss_one (ps_ret (pe_and (pe_callB call_isi (by rfl) T.m_isinstance (by decide +kernel) (pa_cons (pv 0) (pa_cons (pe_bltn (v := .ty "int") (by rfl) T.m_int (by decide +kernel) rfl) pa_nil))) (pe_one (pe_not (pe_callB call_isi (by rfl) T.m_isinstance (by decide +kernel) (pa_cons (pv 0) (pa_cons (pe_bltn (v := .ty "bool") (by rfl) T.m_bool (by decide +kernel) rfl) pa_nil)))))))), num_read h⟩)⟩
  obtain ⟨v, rfl, _⟩ := h
  rfl

/-! ## spot_of -/
abbrev n_spot_of : List Str := ["x", "y", "by", "shared"]
theorem sc_spot_of : FnScope n_spot_of ["x", "y", "by"] (defScope s_spot_of) := ⟨rfl, rfl, rfl, by decide +kernel, rfl, by decide +kernel, by decide +kernel⟩
theorem ok_spot_of (T : Txt K mg) (C_is_number : Good P w K mg base CX0 1 "is_number" ["value"] sp_num) :
    Good P w K mg base (L2.CX P w) 2 "spot_of" ["x", "y", "by"] (sp_spot_of K) := by
  obtain ⟨fd, F⟩ := T.d_spot_of
  refine ⟨T.g_spot_of, F.kp, fd, F.bindsN (fun _ _ _ _ _ _ us hl => match us, hl with | [_, _, _], _ => rfl), F.ok sc_spot_of (fun vs H Q E h => ?_) (fun cdv A outer s H vs Q E hr h => ⟨_, (pss_cons (ps_if (pt_not (PW.pt (pw_and (pt_val (pe_own C_is_number hr rfl (pa_cons (pv 0) pa_nil))) (pw_and (pt_val (pe_own C_is_number hr rfl (pa_cons (pv 1) pa_nil))) (pw_and1 (pt_val (pe_own C_is_number hr rfl (pa_cons (pv 2) pa_nil)))))))) (pss_one (ps_raise rfl (takes_of rfl rfl rfl rfl) (pmk_own PySem.F.excBase_ValueError T.BadSpot.x T.BadSpot.g T.BadSpot.k (raises_own T.BadSpot.b T.BadSpot.t) rfl))) pss_nil)
    (pss_cons (ps_if (pt_cmpR op_eq (pv 2) pe_int (nomark _)) (pss_one (ps_raise rfl (takes_of rfl rfl rfl rfl) (pmk_own PySem.F.excBase_ValueError T.BadSpot.x T.BadSpot.g T.BadSpot.k (raises_own T.BadSpot.b T.BadSpot.t) rfl))) pss_nil)
    (pss_cons (ps_set (i := 3) sc_spot_of.nd rfl (Or.inl rfl) (pe_callBfun call_gcd3 (by rfl) T.gcd (pa_cons (pv 0) (pa_cons (pv 1) (pa_cons (pv 2) pa_nil)))))
    (pss_cons (ps_if (pt_cmpR op_lt (pv 2) pe_int (nomark _)) (pss_one (ps_set (i := 3) sc_spot_of.nd rfl (Or.inl rfl) (pe_un un_neg (pv 3)))) pss_nil)
    (pss_one (ps_ret (pe_tup (pa_cons (pe_op op_fdivA (pv 0) (pv 3)) (pa_cons (pe_op op_fdivA (pv 1) (pv 3)) (pa_cons (pe_op op_fdivA (pv 2) (pv 3)) pa_nil)))))))))), ?_⟩)⟩
  · obtain ⟨x, y, b, rfl, _⟩ := h
    rfl
  · obtain ⟨x, y, b, rfl, ax, ay, ab, kE, kQ⟩ := h
    refine ⟨_, rfl, x, rfl, ax, _, rfl, ite2 (fun cx => ?_) (fun cx => iteT (kE (.inl ?_)))⟩
    · refine ⟨_, rfl, y, rfl, ay, _, rfl, ite2 (fun cy => ?_) (fun cy => iteT (kE (.inl ?_)))⟩
      · refine ⟨_, rfl, b, rfl, ab, _, rfl, ?_⟩
        cases cb : isNum b with
        | false => exact iteT (kE (.inl (by rw [cb, Bool.and_false])))
        | true =>
          refine iteF ?_
          obtain ⟨i, rfl⟩ : ∃ i, x = .int i := by cases x <;> first | exact ⟨_, rfl⟩ | cases cx
          obtain ⟨j, rfl⟩ : ∃ j, y = .int j := by cases y <;> first | exact ⟨_, rfl⟩ | cases cy
          obtain ⟨k, rfl⟩ : ∃ k, b = .int k := by cases b <;> first | exact ⟨_, rfl⟩ | cases cb
          refine ⟨_, rfl, rfl, _, rfl, ite2 (fun c => kE (.inr ?_)) (fun c => ?_)⟩
          · exact of_decide_eq_true c
          · have k0 : k ≠ 0 := fun z => c (decide_eq_true (congrArg V.int z))
            obtain ⟨hk, kP⟩ := kQ i j k rfl rfl rfl k0
            have L := gcd_low (x := i) (y := j) k0 _ rfl
            have fin : ∀ s : Int, s = (if k < 0 then -(((Nat.gcd (Nat.gcd i.natAbs j.natAbs) k.natAbs : Nat)) : Int) else ((Nat.gcd (Nat.gcd i.natAbs j.natAbs) k.natAbs : Nat) : Int)) →
                tRet (tTup (tCons (tOp (rI CDivA fun i j => .int (i.fdiv j)) (tVar 0) (tVar 3)) (tCons (tOp (rI CDivA fun i j => .int (i.fdiv j)) (tVar 1) (tVar 3)) (tCons (tOp (rI CDivA fun i j => .int (i.fdiv j)) (tVar 2) (tVar 3)) tNil))))
                  { nx := fun _ H' => Q .non H', rt := Q } [some (.int i), some (.int j), some (.int k), some (.int s)] H := by
              intro s hs
              obtain ⟨s0, sk, low, e1, e2⟩ := gcd_low (x := i) (y := j) k0 s hs
              have sz : s.natAbs < 2 ^ 8000 := Nat.lt_of_le_of_lt sk hk
              have cd : ∀ n, CDivA n s := fun n => divA s0 sz (by decide) (by decide)
              refine ⟨_, rfl, _, rfl, _, _, rfl, rfl, cd _, ?_⟩
              refine ⟨_, rfl, _, rfl, _, _, rfl, rfl, cd _, ?_⟩
              refine ⟨_, rfl, _, rfl, _, _, rfl, rfl, cd _, ?_⟩
              exact ⟨(by show 3 ≤ sizeLine; decide), fun p hp => kP _ _ _ p low e1 e2 hp⟩
            refine ⟨_, rfl, _, rfl, _, rfl, _, _, _, rfl, ?_⟩
            refine ⟨_, rfl, _, _, rfl, rfl, _, rfl, ite2 (fun d => ?_) (fun d => ?_)⟩
            · have d1 : k < 0 := of_decide_eq_true d
              exact ⟨_, rfl, _, rfl, fin _ (by rw [if_pos d1])⟩
            · have d1 : ¬ k < 0 := fun z => d (decide_eq_true z)
              exact fin _ (by rw [if_neg d1])
      · have : isNum y = false := by simpa using cy
        rw [this, Bool.and_false, Bool.false_and]
    · have : isNum x = false := by simpa using cx
      rw [this, Bool.false_and, Bool.false_and]

/-! ## _twice_triangle -/
abbrev n_twice_triangle : List Str := ["one", "two", "three", "x", "y", "by"]
theorem sc_twice_triangle : FnScope n_twice_triangle ["one", "two", "three"] (defScope s_twice_triangle) := ⟨rfl, rfl, rfl, by decide +kernel, rfl, by decide +kernel, by decide +kernel⟩
theorem ok_twice_triangle (T : Txt K mg) : Good P w K mg base CX0 1 "_twice_triangle" ["one", "two", "three"] (sp_tri K id) := by
  obtain ⟨fd, F⟩ := T.d_twice_triangle
  refine ⟨T.g_twice_triangle, F.kp, fd, F.bindsN (fun _ _ _ _ _ _ us hl => match us, hl with | [_, _, _], _ => rfl), F.ok sc_twice_triangle (fun vs H Q E h => ?_) (fun cdv A outer s H vs Q E hr h => ⟨_, PSs.nox (pss_cons (ps_asg (pv 0) (pg_tup (by rfl) (pgs_cons (pg_name (i := 3) sc_twice_triangle.nd rfl (Or.inl rfl)) (pgs_cons (pg_name (i := 4) sc_twice_triangle.nd rfl (Or.inl rfl)) (pgs_cons (pg_name (i := 5) sc_twice_triangle.nd rfl (Or.inl rfl)) pgs_nil)))))
    (pss_one (ps_ret (pe_op op_add (pe_op op_sub (pe_op op_mulW (pv 3) (pe_op op_sub (pe_op op_mulW (pe_ix ix_tup (pv 1) pe_int (fun _ _ => rfl)) (pe_ix ix_tup (pv 2) pe_int (fun _ _ => rfl))) (pe_op op_mulW (pe_ix ix_tup (pv 2) pe_int (fun _ _ => rfl)) (pe_ix ix_tup (pv 1) pe_int (fun _ _ => rfl))))) (pe_op op_mulW (pv 4) (pe_op op_sub (pe_op op_mulW (pe_ix ix_tup (pv 1) pe_int (fun _ _ => rfl)) (pe_ix ix_tup (pv 2) pe_int (fun _ _ => rfl))) (pe_op op_mulW (pe_ix ix_tup (pv 2) pe_int (fun _ _ => rfl)) (pe_ix ix_tup (pv 1) pe_int (fun _ _ => rfl)))))) (pe_op op_mulW (pv 5) (pe_op op_sub (pe_op op_mulW (pe_ix ix_tup (pv 1) pe_int (fun _ _ => rfl)) (pe_ix ix_tup (pv 2) pe_int (fun _ _ => rfl))) (pe_op op_mulW (pe_ix ix_tup (pv 2) pe_int (fun _ _ => rfl)) (pe_ix ix_tup (pv 1) pe_int (fun _ _ => rfl))))))))), ?_⟩)⟩
  · obtain ⟨p, q, r, x, y, b, x2, y2, b2, x3, y3, b3, rfl, _⟩ := h
    rfl
  · obtain ⟨p, q, r, x, y, b, x2, y2, b2, x3, y3, b3, rfl, hp, hq, hr', z1, z2, z3, k⟩ := h
    refine ⟨_, rfl, p, _, rfl, hp, rfl, _, _, rfl, _, _, rfl, _, _, rfl, rfl, ?_⟩
    have m : ∀ {u v : Int}, Sz 1000 u → Sz 1000 v → CMulW u v := fun h k => h.ok k (by decide) (by decide) (by decide)
    have m2 : ∀ {u v : Int}, Sz 1000 u → Sz 2001 v → CMulW u v := fun h k => h.ok k (by decide) (by decide) (by decide)
    have d : ∀ {u v s t : Int}, Sz 1000 u → Sz 1000 v → Sz 1000 s → Sz 1000 t → Sz 2001 (u * v - s * t) := fun h1 h2 h3 h4 => (h1.mul h2).sub (h3.mul h4)
    refine ⟨_, rfl, ?_⟩
    refine ⟨_, rfl, q, _, 1, .int y2, rfl, rfl, hq, rfl, _, rfl, r, _, 2, .int b3, rfl, rfl, hr', rfl, y2, b3, rfl, rfl, m z2.y z3.b, ?_⟩
    refine ⟨_, rfl, r, _, 1, .int y3, rfl, rfl, hr', rfl, _, rfl, q, _, 2, .int b2, rfl, rfl, hq, rfl, y3, b2, rfl, rfl, m z3.y z2.b, _, _, rfl, rfl, ?_⟩
    refine ⟨_, _, rfl, rfl, m2 z1.x (d z2.y z3.b z3.y z2.b), ?_⟩
    refine ⟨_, rfl, ?_⟩
    refine ⟨_, rfl, q, _, 0, .int x2, rfl, rfl, hq, rfl, _, rfl, r, _, 2, .int b3, rfl, rfl, hr', rfl, x2, b3, rfl, rfl, m z2.x z3.b, ?_⟩
    refine ⟨_, rfl, r, _, 0, .int x3, rfl, rfl, hr', rfl, _, rfl, q, _, 2, .int b2, rfl, rfl, hq, rfl, x3, b2, rfl, rfl, m z3.x z2.b, _, _, rfl, rfl, ?_⟩
    refine ⟨_, _, rfl, rfl, m2 z1.y (d z2.x z3.b z3.x z2.b), _, _, rfl, rfl, ?_⟩
    refine ⟨_, rfl, ?_⟩
    refine ⟨_, rfl, q, _, 0, .int x2, rfl, rfl, hq, rfl, _, rfl, r, _, 1, .int y3, rfl, rfl, hr', rfl, x2, y3, rfl, rfl, m z2.x z3.y, ?_⟩
    refine ⟨_, rfl, r, _, 0, .int x3, rfl, rfl, hr', rfl, _, rfl, q, _, 1, .int y2, rfl, rfl, hq, rfl, x3, y2, rfl, rfl, m z3.x z2.y, _, _, rfl, rfl, ?_⟩
    exact ⟨_, _, rfl, rfl, m2 z1.b (d z2.x z3.y z3.x z2.y), _, _, rfl, rfl, k⟩

/-! ## turn -/
abbrev n_turn : List Str := ["one", "two", "three", "side"]
theorem sc_turn : FnScope n_turn ["one", "two", "three"] (defScope s_turn) := ⟨rfl, rfl, rfl, by decide +kernel, rfl, by decide +kernel, by decide +kernel⟩
theorem ok_turn (T : Txt K mg) (C_twice_triangle : Good P w K mg base CX0 1 "_twice_triangle" ["one", "two", "three"] (sp_tri K id)) : Good P w K mg base CX0 2 "turn" ["one", "two", "three"] (sp_tri K sgn) := by
  obtain ⟨fd, F⟩ := T.d_turn
  refine ⟨T.g_turn, F.kp, fd, F.bindsN (fun _ _ _ _ _ _ us hl => match us, hl with | [_, _, _], _ => rfl), F.ok sc_turn (fun vs H Q E h => ?_) (fun cdv A outer s H vs Q E hr h => ⟨_, PSs.nox (pss_cons (ps_set (i := 3) sc_turn.nd rfl (Or.inl rfl) (pe_own C_twice_triangle hr rfl (pa_cons (pv 0) (pa_cons (pv 1) (pa_cons (pv 2) pa_nil)))))
    (pss_cons (ps_if (pt_cmpR op_gt (pv 3) pe_int (nomark _)) (pss_one (ps_ret pe_int)) pss_nil)
    (pss_cons (ps_if (pt_cmpR op_lt (pv 3) pe_int (nomark _)) (pss_one (ps_ret (pe_un un_neg pe_int))) pss_nil)
    (pss_one (ps_ret pe_int))))), ?_⟩)⟩
  · obtain ⟨p, q, r, x, y, b, x2, y2, b2, x3, y3, b3, rfl, _⟩ := h
    rfl
  · obtain ⟨p, q, r, x, y, b, x2, y2, b2, x3, y3, b3, rfl, hp, hq, hr', z1, z2, z3, k⟩ := h
    refine ⟨_, rfl, _, rfl, _, rfl, p, q, r, x, y, b, x2, y2, b2, x3, y3, b3, rfl, hp, hq, hr', z1, z2, z3, ?_⟩
    generalize e : triI x y b x2 y2 b2 x3 y3 b3 = t at k
    show gName 3 (V.int t) _ _ _
    refine gName_go ?_
    refine ⟨_, rfl, _, _, rfl, rfl, _, rfl, ite2 (fun c => ?_) (fun c => ?_)⟩
    · have c1 : 0 < t := of_decide_eq_true c
      unfold sgn at k
      rw [if_pos c1] at k
      exact k
    · have c1 : ¬ 0 < t := fun z => c (decide_eq_true z)
      refine ⟨_, rfl, _, _, rfl, rfl, _, rfl, ite2 (fun d => ?_) (fun d => ?_)⟩
      · have d1 : t < 0 := of_decide_eq_true d
        unfold sgn at k
        rw [if_neg c1, if_pos d1] at k
        exact ⟨_, rfl, k⟩
      · have d1 : ¬ t < 0 := fun z => d (decide_eq_true z)
        unfold sgn at k
        rw [if_neg c1, if_neg d1] at k
        exact k

/-! ## reach -/
abbrev n_reach : List Str := ["fence", "spot", "a", "b", "c", "x", "y", "by"]
theorem sc_reach : FnScope n_reach ["fence", "spot"] (defScope s_reach) := ⟨rfl, rfl, rfl, by decide +kernel, rfl, by decide +kernel, by decide +kernel⟩
theorem ok_reach (T : Txt K mg) : Good P w K mg base CX0 1 "reach" ["fence", "spot"] (sp_reach K) := by
  obtain ⟨fd, F⟩ := T.d_reach
  refine ⟨T.g_reach, F.kp, fd, F.bindsN (fun _ _ _ _ _ _ us hl => match us, hl with | [_, _], _ => rfl), F.ok sc_reach (fun vs H Q E h => ?_) (fun cdv A outer s H vs Q E hr h => ⟨_, PSs.nox (pss_cons (ps_asg (pv 0) (pg_tup (by rfl) (pgs_cons (pg_name (i := 2) sc_reach.nd rfl (Or.inl rfl)) (pgs_cons (pg_name (i := 3) sc_reach.nd rfl (Or.inl rfl)) (pgs_cons (pg_name (i := 4) sc_reach.nd rfl (Or.inl rfl)) pgs_nil)))))
    (pss_cons (ps_asg (pv 1) (pg_tup (by rfl) (pgs_cons (pg_name (i := 5) sc_reach.nd rfl (Or.inl rfl)) (pgs_cons (pg_name (i := 6) sc_reach.nd rfl (Or.inl rfl)) (pgs_cons (pg_name (i := 7) sc_reach.nd rfl (Or.inl rfl)) pgs_nil)))))
    (pss_one (ps_ret (pe_op op_sub (pe_op op_add (pe_op op_mulW (pv 2) (pv 5)) (pe_op op_mulW (pv 3) (pv 6))) (pe_op op_mulW (pv 4) (pv 7))))))), ?_⟩)⟩
  · obtain ⟨p, q, a, b, c, x, y, d, rfl, _⟩ := h
    rfl
  · obtain ⟨p, q, a, b, c, x, y, d, rfl, hp, hq, z1, z2, k⟩ := h
    refine ⟨_, rfl, p, _, rfl, hp, rfl, _, _, rfl, _, _, rfl, _, _, rfl, rfl, ?_⟩
    refine ⟨_, rfl, q, _, rfl, hq, rfl, _, _, rfl, _, _, rfl, _, _, rfl, rfl, ?_⟩
    refine ⟨_, rfl, _, rfl, a, x, rfl, rfl, z1.x.ok z2.x (by decide) (by decide) (by decide), ?_⟩
    refine ⟨_, rfl, _, rfl, b, y, rfl, rfl, z1.y.ok z2.y (by decide) (by decide) (by decide), _, _, rfl, rfl, ?_⟩
    exact ⟨_, rfl, _, rfl, c, d, rfl, rfl, z1.b.ok z2.b (by decide) (by decide) (by decide), _, _, rfl, rfl, k⟩

/-! ## meeting -/
abbrev n_meeting : List Str := ["one", "other", "a", "b", "c", "p", "q", "r", "by"]
theorem sc_meeting : FnScope n_meeting ["one", "other"] (defScope s_meeting) := ⟨rfl, rfl, rfl, by decide +kernel, rfl, by decide +kernel, by decide +kernel⟩
theorem ok_meeting (T : Txt K mg) (C_spot_of : Good P w K mg base (L2.CX P w) 2 "spot_of" ["x", "y", "by"] (sp_spot_of K)) : Good P w K mg base CX0 3 "meeting" ["one", "other"] (sp_meeting K) := by
  obtain ⟨fd, F⟩ := T.d_meeting
  refine ⟨T.g_meeting, F.kp, fd, F.bindsN (fun _ _ _ _ _ _ us hl => match us, hl with | [_, _], _ => rfl), F.ok sc_meeting (fun vs H Q E h => ?_) (fun cdv A outer s H vs Q E hr h => ⟨_, PSs.nox (pss_cons (ps_asg (pv 0) (pg_tup (by rfl) (pgs_cons (pg_name (i := 2) sc_meeting.nd rfl (Or.inl rfl)) (pgs_cons (pg_name (i := 3) sc_meeting.nd rfl (Or.inl rfl)) (pgs_cons (pg_name (i := 4) sc_meeting.nd rfl (Or.inl rfl)) pgs_nil)))))
    (pss_cons (ps_asg (pv 1) (pg_tup (by rfl) (pgs_cons (pg_name (i := 5) sc_meeting.nd rfl (Or.inl rfl)) (pgs_cons (pg_name (i := 6) sc_meeting.nd rfl (Or.inl rfl)) (pgs_cons (pg_name (i := 7) sc_meeting.nd rfl (Or.inl rfl)) pgs_nil)))))
    (pss_cons (ps_set (i := 8) sc_meeting.nd rfl (Or.inl rfl) (pe_op op_sub (pe_op op_mulW (pv 2) (pv 6)) (pe_op op_mulW (pv 3) (pv 5))))
    (pss_cons (ps_if (pt_cmpR op_eq (pv 8) pe_int (nomark _)) (pss_one (ps_ret pe_non)) pss_nil)
    (pss_one (ps_ret (pe_ownL C_spot_of hr rfl (pa_cons (pe_op op_sub (pe_op op_mulW (pv 4) (pv 6)) (pe_op op_mulW (pv 3) (pv 7))) (pa_cons (pe_op op_sub (pe_op op_mulW (pv 2) (pv 7)) (pe_op op_mulW (pv 4) (pv 5))) (pa_cons (pv 8) pa_nil)))))))))), ?_⟩)⟩
  · obtain ⟨p, q, a, b, c, a2, b2, c2, rfl, _⟩ := h
    rfl
  · obtain ⟨p, q, a, b, c, a2, b2, c2, rfl, hp, hq, z1, z2, kN, kS⟩ := h
    have m : ∀ {u v : Int}, Sz 1000 u → Sz 1000 v → CMulW u v := fun h k => h.ok k (by decide) (by decide) (by decide)
    have d : ∀ {u v s t : Int}, Sz 1000 u → Sz 1000 v → Sz 1000 s → Sz 1000 t → Sz 2001 (u * v - s * t) := fun h1 h2 h3 h4 => (h1.mul h2).sub (h3.mul h4)
    refine ⟨_, rfl, p, _, rfl, hp, rfl, _, _, rfl, _, _, rfl, _, _, rfl, rfl, ?_⟩
    refine ⟨_, rfl, q, _, rfl, hq, rfl, _, _, rfl, _, _, rfl, _, _, rfl, rfl, ?_⟩
    refine ⟨_, rfl, _, rfl, a, b2, rfl, rfl, m z1.x z2.y, _, rfl, _, rfl, b, a2, rfl, rfl, m z1.y z2.x, _, _, rfl, rfl, ?_⟩
    refine ⟨_, rfl, rfl, _, rfl, ite2 (fun e => kN ?_) (fun e => ?_)⟩
    · exact V.int.inj (of_decide_eq_true e)
    · have n0 : a * b2 - b * a2 ≠ 0 := fun z => e (decide_eq_true (congrArg V.int z))
      refine ⟨_, rfl, _, rfl, c, b2, rfl, rfl, m z1.b z2.y, _, rfl, _, rfl, b, c2, rfl, rfl, m z1.y z2.b, _, _, rfl, rfl, ?_⟩
      refine ⟨_, rfl, _, rfl, a, c2, rfl, rfl, m z1.x z2.b, _, rfl, _, rfl, c, a2, rfl, rfl, m z1.b z2.x, _, _, rfl, rfl, ?_⟩
      refine ⟨_, rfl, .int _, .int _, .int _, rfl, .int _, .int _, .int _, fun z => ?_, fun i j k ei ej ek k0 => ⟨?_, fun X Y B l low ex ey hl => ?_⟩⟩
      · cases z with
        | inl z => cases z
        | inr z => exact absurd (V.int.inj z) n0
      · cases ek
        exact (d z1.x z2.y z1.y z2.x).mono (by decide)
      · cases ei; cases ej; cases ek
        obtain ⟨o1, o2⟩ := meet_on n0 ex ey
        exact kS n0 X Y B l low o1 o2 ex ey hl

/-! ## _law_cell_at -/
abbrev n_law_cell_at : List Str := ["_law_script", "_law_k"]
theorem sc_law_cell_at : FnScope n_law_cell_at ["_law_script", "_law_k"] (defScope s_law_cell_at) := ⟨rfl, rfl, rfl, by decide +kernel, rfl, by decide +kernel, by decide +kernel⟩
theorem ok_law_cell_at (T : Txt K mg) : Good P w K mg base CX0 1 "_law_cell_at" ["_law_script", "_law_k"] (sp_cell K) := by
  obtain ⟨fd, F⟩ := T.d_law_cell_at
  refine ⟨T.g_law_cell_at, F.kp, fd, F.bindsN (fun _ _ _ _ _ _ us hl => match us, hl with | [_, _], _ => rfl), F.ok sc_law_cell_at (fun vs H Q E h => ?_) (fun cdv A outer s H vs Q E hr h => ⟨_, PSs.nox (pss_cons (ps_if (pt_cmpR op_lt (pv 1) (pe_callB call_len_seq (by rfl) T.m_len PySem.boot_len (pa_cons (pv 0) pa_nil)) (nomark _)) (pss_one (ps_ret (pe_ix ix_list (pv 0) (pv 1) (fun _ _ => rfl)))) pss_nil)
    (pss_one (ps_ret pe_int))), ?_⟩)⟩
  · obtain ⟨a, ns, k, rfl, _⟩ := h
    rfl
  · obtain ⟨a, ns, k, rfl, hS, h0, q⟩ := h
    refine ⟨_, rfl, _, rfl, a, _, rfl, .inl hS, _, _, rfl, rfl, _, rfl, ite2 (fun c => ?_) (fun c => ?_)⟩
    · have c1 := of_decide_eq_true c
      rw [List.length_map] at c1
      exact ⟨_, rfl, _, rfl, a, _, k, _, rfl, rfl, hS, atI_ints h0 c1, q⟩
    · have c1 : ¬ k < ((ns.map V.int).length : Int) := fun z => c (decide_eq_true z)
      rw [List.length_map] at c1
      have e : cell ns k = 0 := by
        unfold cell
        rw [List.getD_eq_getElem?_getD, List.getElem?_eq_none (by omega)]
        rfl
      rw [e] at q
      exact q

/-! ## _law_whole -/
abbrev n_law_whole : List Str := ["_law_thing"]
theorem sc_law_whole : FnScope n_law_whole ["_law_thing"] (defScope s_law_whole) := ⟨rfl, rfl, rfl, by decide +kernel, rfl, by decide +kernel, by decide +kernel⟩
theorem ok_law_whole (T : Txt K mg) : Good P w K mg base CX0 1 "_law_whole" ["_law_thing"] sp_num := by
  obtain ⟨fd, F⟩ := T.d_law_whole
  refine ⟨T.g_law_whole, F.kp, fd, F.bindsN (fun _ _ _ _ _ _ us hl => match us, hl with | [_], _ => rfl), F.ok sc_law_whole (fun vs H Q E h => ?_) (fun cdv A outer s H vs Q E hr h => ⟨_, PSs.nox (pss_one (ps_ret (pe_and (pe_callB call_isi (by rfl) T.m_isinstance (by decide +kernel) (pa_cons (pv 0) (pa_cons (pe_bltn (v := .ty "int") (by rfl) T.m_int (by decide +kernel) rfl) pa_nil))) (pe_one (pe_not (pe_callB call_isi (by rfl) T.m_isinstance (by decide +kernel) (pa_cons (pv 0) (pa_cons (pe_bltn (v := .ty "bool") (by rfl) T.m_bool (by decide +kernel) rfl) pa_nil)))))))), num_read h⟩)⟩
  obtain ⟨v, rfl, _⟩ := h
  rfl

/-! ## _law_shared -/
abbrev n_law_shared : List Str := ["_law_one", "_law_other", "_law_rest"]
theorem sc_law_shared : FnScope n_law_shared ["_law_one", "_law_other"] (defScope s_law_shared) := ⟨rfl, rfl, rfl, by decide +kernel, rfl, by decide +kernel, by decide +kernel⟩
theorem ok_law_shared (T : Txt K mg) : Good P w K mg base CX0 1 "_law_shared" ["_law_one", "_law_other"] sp_shared := by
  obtain ⟨fd, F⟩ := T.d_law_shared
  refine ⟨T.g_law_shared, F.kp, fd, F.bindsN (fun _ _ _ _ _ _ us hl => match us, hl with | [_, _], _ => rfl), F.ok sc_law_shared (fun vs H Q E h => ?_) (fun cdv A outer s H vs Q E hr h => ⟨_, PSs.nox (pss_cons (ps_while PassesOwn.never (pt_cmpR op_ne (pv 1) pe_int (nomark _))
    (pss_cons (ps_set (i := 2) sc_law_shared.nd rfl (Or.inl rfl) (pe_op op_mod (pv 0) (pv 1)))
    (pss_cons (ps_set (i := 0) sc_law_shared.nd rfl (Or.inl rfl) (pv 1))
    (pss_one (ps_set (i := 1) sc_law_shared.nd rfl (Or.inl rfl) (pv 2))))))
    (pss_one (ps_ret (pv 0)))), ?_⟩)⟩
  · obtain ⟨a, b, rfl, _⟩ := h
    rfl
  · obtain ⟨a, b, rfl, ha, hb, q⟩ := h
    refine while_by (fun σ H' => H' = H ∧ ∃ (x y : Int) (z : Option V), σ = [some (.int x), some (.int y), z] ∧ 0 ≤ x ∧ 0 ≤ y ∧ Nat.gcd x.toNat y.toNat = Nat.gcd a.toNat b.toNat)
      (fun σ _ => match σ with | [_, some (.int y), _] => y.toNat | _ => 0) ⟨rfl, a, b, none, rfl, ha, hb, rfl⟩ ?_ (fun σ H Q Q' m ⟨v, h1, h2, k, h3, h4⟩ => ⟨v, h1, h2, k, h3, m _ _ h4⟩)
    rintro σ H' ⟨rfl, x, y, z, rfl, hx, hy, hg⟩
    refine ⟨_, rfl, rfl, _, rfl, ite2 (fun c => ?_) (fun c => ?_)⟩
    · have c1 : y ≠ 0 := by
        intro e
        subst e
        simp at c
      have y0 : 0 < y := by omega
      refine ⟨_, rfl, _, rfl, _, _, rfl, rfl, y0, _, rfl, _, rfl, ⟨rfl, y, x % y, _, rfl, hy, Int.emod_nonneg _ c1, ?_⟩, ?_⟩
      · rw [← hg]
        have e : (x % y).toNat = x.toNat % y.toNat := by
          obtain ⟨n, rfl⟩ := Int.eq_ofNat_of_zero_le hx
          obtain ⟨m, rfl⟩ := Int.eq_ofNat_of_zero_le hy
          rfl
        rw [e, Nat.gcd_comm x.toNat, Nat.gcd_rec y.toNat x.toNat, Nat.gcd_comm]
      · show (x % y).toNat < y.toNat
        have := Int.emod_lt_of_pos x y0
        have := Int.emod_nonneg x c1
        omega
    · have c1 : y = 0 := by
        apply Classical.byContradiction
        intro e
        apply c
        simp [e]
      subst c1
      rw [← hg] at q
      have e : ((Nat.gcd x.toNat (0 : Int).toNat : Nat) : Int) = x := by
        rw [show (0 : Int).toNat = 0 from rfl, Nat.gcd_zero_right]
        omega
      rw [e] at q
      exact ⟨_, rfl, q⟩

/-! ## _law_good_spot -/
abbrev n_law_good_spot : List Str := ["_law_spot", "_law_number"]
theorem sc_law_good_spot : FnScope n_law_good_spot ["_law_spot"] (defScope s_law_good_spot) := ⟨rfl, rfl, rfl, by decide +kernel, rfl, by decide +kernel, by decide +kernel⟩
theorem ok_law_good_spot (T : Txt K mg) (C_law_whole : Good P w K mg base CX0 1 "_law_whole" ["_law_thing"] sp_num) (C_law_shared : Good P w K mg base CX0 1 "_law_shared" ["_law_one", "_law_other"] sp_shared) :
    Good P w K mg base CX0 2 "_law_good_spot" ["_law_spot"] sp_law_good_spot := by
  obtain ⟨fd, F⟩ := T.d_law_good_spot
  refine ⟨T.g_law_good_spot, F.kp, fd, F.bindsN (fun _ _ _ _ _ _ us hl => match us, hl with | [_], _ => rfl), F.ok sc_law_good_spot (fun vs H Q E h => ?_) (fun cdv A outer s H vs Q E hr h => ⟨_, PSs.nox (pss_cons (ps_if (PW.pt (pw_or (pt_not (pt_val (pe_callB call_isi (by rfl) T.m_isinstance (by decide +kernel) (pa_cons (pv 0) (pa_cons (pe_bltn (v := .ty "tuple") (by rfl) T.m_tuple (by decide +kernel) rfl) pa_nil))))) (pw_or1 (pt_cmpR op_ne (pe_callB call_len_seq (by rfl) T.m_len PySem.boot_len (pa_cons (pv 0) pa_nil)) pe_int (nomark _))))) (pss_one (ps_ret pe_bl)) pss_nil)
    (pss_cons (ps_for PassesOwn.never rfl (pi_tup (pv 0)) (pg_name (i := 1) sc_law_good_spot.nd rfl (Or.inl rfl))
    (pss_one (ps_if (pt_not (pt_val (pe_own C_law_whole hr rfl (pa_cons (pv 1) pa_nil)))) (pss_one (ps_ret pe_bl)) pss_nil)))
    (pss_one (ps_ret (pe_and (pe_cmpR op_gt (pe_ix ix_tup (pv 0) pe_int (fun _ _ => rfl)) pe_int (nomark _)) (pe_one (pe_cmpR op_eq (pe_own C_law_shared hr rfl (pa_cons (pe_callB call_abs (by rfl) T.m_abs (by decide +kernel) (pa_cons (pe_ix ix_tup (pv 0) pe_int (fun _ _ => rfl)) pa_nil)) (pa_cons (pe_own C_law_shared hr rfl (pa_cons (pe_callB call_abs (by rfl) T.m_abs (by decide +kernel) (pa_cons (pe_ix ix_tup (pv 0) pe_int (fun _ _ => rfl)) pa_nil)) (pa_cons (pe_ix ix_tup (pv 0) pe_int (fun _ _ => rfl)) pa_nil))) pa_nil))) pe_int (nomark _)))))))), ?_⟩)⟩
  · obtain ⟨p, x, y, b, rfl, _⟩ := h
    rfl
  · obtain ⟨p, x, y, b, rfl, hp, q⟩ := h
    have hT : SqT K H p [.int x, .int y, .int b] := SqT.of hp
    refine ⟨_, rfl, _, _, _, _, true, rfl, .ty _, .base (.tup hp), kit_ty (by decide +kernel), _, rfl, iteF ?_⟩
    refine ⟨_, rfl, p, _, rfl, .inr hT, rfl, _, rfl, iteF ?_⟩
    refine ⟨_, rfl, p, rfl, ⟨_, hT⟩, for_tup (xs := [.int x, .int y, .int b]) (fun i σ H' => H' = H ∧ ∃ z, σ = [some (.ref p), z]) ⟨rfl, none, rfl⟩ (fun i σ H' _ z => by rw [z.1]; exact hT) ?_ ?_⟩
    · rintro i v σ H' hi ⟨rfl, z, rfl⟩
      have hv : ∃ n, v = .int n := by
        match i, hi with
        | 0, hi => exact ⟨x, (Option.some.inj hi).symm⟩
        | 1, hi => exact ⟨y, (Option.some.inj hi).symm⟩
        | 2, hi => exact ⟨b, (Option.some.inj hi).symm⟩
      obtain ⟨n, rfl⟩ := hv
      exact ⟨_, rfl, _, rfl, .int n, _, rfl, iteF ⟨rfl, _, rfl⟩⟩
    · rintro σ H' ⟨rfl, z, rfl⟩
      refine ⟨_, rfl, p, _, 2, .int b, rfl, rfl, hT, rfl, b, 0, rfl, rfl, _, rfl, ite2 (fun c => ?_) (fun c => ?_)⟩
      · have b0 : 0 < b := of_decide_eq_true c
        have absI : ∀ i : Int, (if i < 0 then -i else i).toNat = i.natAbs := fun i => by split <;> omega
        have absP : ∀ i : Int, 0 ≤ (if i < 0 then -i else i) := fun i => by split <;> omega
        refine ⟨_, rfl, p, _, 0, .int x, rfl, rfl, hT, rfl, x, rfl, ?_⟩
        refine ⟨_, rfl, p, _, 1, .int y, rfl, rfl, hT, rfl, y, rfl, ?_⟩
        refine ⟨_, rfl, p, _, 2, .int b, rfl, rfl, hT, rfl, ?_⟩
        refine ⟨_, b, rfl, absP y, by omega, ?_⟩
        refine ⟨_, _, rfl, absP x, Int.natCast_nonneg _, rfl, ?_⟩
        rw [absI, absI, Int.toNat_natCast, show b.toNat = b.natAbs by omega]
        have e : decide (Low x y b) = decide (V.int ((Nat.gcd x.natAbs (Nat.gcd y.natAbs b.natAbs) : Nat) : Int) = V.int 1) := by
          apply decide_eq_decide.mpr
          constructor
          · intro l
            rw [l.2] <;> rfl
          · intro l
            refine ⟨b0, ?_⟩
            have := V.int.inj l
            omega
        rw [e] at q
        exact q
      · have e : decide (Low x y b) = false := decide_eq_false fun l => c (decide_eq_true l.1)
        rw [e] at q
        exact q

/-! ## _law_size_by -/
abbrev n_law_size_by : List Str := ["_law_cell"]
theorem sc_law_size_by : FnScope n_law_size_by ["_law_cell"] (defScope s_law_size_by) := ⟨rfl, rfl, rfl, by decide +kernel, rfl, by decide +kernel, by decide +kernel⟩
theorem ok_law_size_by (T : Txt K mg) : Good P w K mg base CX0 1 "_law_size_by" ["_law_cell"] sp_law_size_by := by
  obtain ⟨fd, F⟩ := T.d_law_size_by
  refine ⟨T.g_law_size_by, F.kp, fd, F.bindsN (fun _ _ _ _ _ _ us hl => match us, hl with | [_], _ => rfl), F.ok sc_law_size_by (fun vs H Q E h => ?_) (fun cdv A outer s H vs Q E hr h => ⟨_, PSs.nox (pss_cons (ps_if (pt_cmpR op_eq (pe_op op_mod (pe_op op_fdiv (pv 0) pe_int) pe_int) pe_int (nomark _)) (pss_one (ps_ret (pe_op op_add pe_int (pe_op op_mod (pe_op op_fdiv (pv 0) pe_int) pe_int)))) pss_nil)
    (pss_one (ps_ret (pe_op op_add pe_int (pe_op op_mod (pv 0) pe_int))))), ?_⟩)⟩
  · obtain ⟨c, rfl, _⟩ := h
    rfl
  · obtain ⟨c, rfl, k⟩ := h
    refine ⟨_, rfl, _, _, rfl, rfl, ⟨by decide, by decide⟩, _, _, rfl, rfl, (by show (0 : Int) < 5; decide), rfl, _, rfl, ite2 (fun z => ?_) (fun z => ?_)⟩
    · exact ⟨_, rfl, _, _, rfl, rfl, ⟨by decide, by decide⟩, _, _, rfl, rfl, (by show (0 : Int) < 1000; decide), _, _, rfl, rfl, k _ (by omega) (by omega)⟩
    · exact ⟨_, rfl, _, _, rfl, rfl, (by show (0 : Int) < 12; decide), _, _, rfl, rfl, k _ (by omega) (by omega)⟩

/-! ## _law_fence_by -/
abbrev n_law_fence_by : List Str := ["_law_cell", "_law_size", "_law_far", "_law_a", "_law_b", "_law_more", "_law_c"]
theorem sc_law_fence_by : FnScope n_law_fence_by ["_law_cell", "_law_size"] (defScope s_law_fence_by) := ⟨rfl, rfl, rfl, by decide +kernel, rfl, by decide +kernel, by decide +kernel⟩
theorem ok_law_fence_by (T : Txt K mg) : Good P w K mg base CX0 1 "_law_fence_by" ["_law_cell", "_law_size"] sp_law_fence_by := by
  obtain ⟨fd, F⟩ := T.d_law_fence_by
  refine ⟨T.g_law_fence_by, F.kp, fd, F.bindsN (fun _ _ _ _ _ _ us hl => match us, hl with | [_, _], _ => rfl), F.ok sc_law_fence_by (fun vs H Q E h => ?_) (fun cdv A outer s H vs Q E hr h => ⟨_, PSs.nox (pss_cons (ps_set (i := 2) sc_law_fence_by.nd rfl (Or.inl rfl) (pe_op op_mod (pe_op op_mul (pv 0) pe_int) pe_int))
    (pss_cons (ps_set (i := 3) sc_law_fence_by.nd rfl (Or.inl rfl) (pe_op op_sub (pe_op op_mod (pv 2) pe_int) pe_int))
    (pss_cons (ps_set (i := 4) sc_law_fence_by.nd rfl (Or.inl rfl) (pe_op op_sub (pe_op op_mod (pe_op op_fdiv (pv 2) pe_int) pe_int) pe_int))
    (pss_cons (ps_if (PW.pt (pw_or (pt_cmpR op_eq (pe_op op_mod (pe_op op_fdiv (pv 2) pe_int) pe_int) pe_int (nomark _)) (pw_or1 (pt_cmpR op_eq (pe_op op_mod (pe_op op_fdiv (pv 2) pe_int) pe_int) pe_int (nomark _))))) (pss_cons (ps_set (i := 3) sc_law_fence_by.nd rfl (Or.inl rfl) (pe_op op_sub (pe_op op_mod (pe_op op_mod (pe_op op_mul (pv 0) pe_int) pe_int) pe_int) pe_int))
    (pss_one (ps_set (i := 4) sc_law_fence_by.nd rfl (Or.inl rfl) (pe_op op_sub (pe_op op_mod (pe_op op_mod (pe_op op_mul (pv 0) pe_int) pe_int) pe_int) pe_int)))) pss_nil)
    (pss_cons (ps_if (PW.pt (pw_and (pt_cmpR op_eq (pv 3) pe_int (nomark _)) (pw_and1 (pt_cmpR op_eq (pv 4) pe_int (nomark _))))) (pss_one (ps_set (i := 3) sc_law_fence_by.nd rfl (Or.inl rfl) pe_int)) pss_nil)
    (pss_cons (ps_set (i := 5) sc_law_fence_by.nd rfl (Or.inl rfl) (pe_op op_mod (pe_op op_mul (pv 0) pe_int) pe_int))
    (pss_cons (ps_set (i := 6) sc_law_fence_by.nd rfl (Or.inl rfl) (pe_op op_add (pe_op op_add (pe_op op_mulW (pv 3) (pe_op op_mod (pv 5) (pe_op op_add (pv 1) pe_int))) (pe_op op_mulW (pv 4) (pe_op op_mod (pe_op op_fdiv (pv 5) pe_int) (pe_op op_add (pv 1) pe_int)))) (pe_ix ix_list (pe_lst (pa_cons pe_int (pa_cons pe_int (pa_cons pe_int (pa_cons pe_int (pa_cons (pe_un un_neg pe_int) (pa_cons pe_int (pa_cons (pe_un un_neg pe_int) pa_nil)))))))) (pe_op op_mod (pe_op op_fdiv (pv 2) pe_int) pe_int) (fun _ _ => rfl))))
    (pss_cons (ps_if (PW.pt (pw_or (pt_cmpR op_eq (pe_op op_mod (pe_op op_fdiv (pv 2) pe_int) pe_int) pe_int (nomark _)) (pw_or1 (pt_cmpR op_eq (pe_op op_mod (pe_op op_fdiv (pv 2) pe_int) pe_int) pe_int (nomark _))))) (pss_one (ps_set (i := 6) sc_law_fence_by.nd rfl (Or.inl rfl) (pe_op op_sub (pe_op op_mod (pv 5) pe_int) pe_int))) pss_nil)
    (pss_one (ps_ret (pe_tup (pa_cons (pv 3) (pa_cons (pv 4) (pa_cons (pe_callB (call_max2 (by rfl)) (by rfl) T.m_max (by decide +kernel) (pa_cons (pe_un un_neg pe_int) (pa_cons (pe_callB (call_min2 (by rfl)) (by rfl) T.m_min (by decide +kernel) (pa_cons pe_int (pa_cons (pv 6) pa_nil))) pa_nil))) pa_nil)))))))))))))), ?_⟩)⟩
  · obtain ⟨c, s, rfl, _⟩ := h
    rfl
  · obtain ⟨c, n, rfl, n1, n2, q⟩ := h
    have big : ∀ {i j : Int}, -(2 ^ 64) < j ∧ j < 2 ^ 64 → CMul i j := fun h => .inr h
    refine ⟨_, rfl, c, 48271, rfl, rfl, big ⟨by decide, by decide⟩, _, _, rfl, rfl, (by show (0 : Int) < 2147483647; decide), ?_⟩
    obtain ⟨far, hfar⟩ : ∃ far, far = c * 48271 % 2147483647 := ⟨_, rfl⟩
    refine gName_as (.int far) (by rw [hfar]) ?_
    clear hfar
    refine ⟨_, rfl, _, _, rfl, rfl, (by show (0 : Int) < 7; decide), _, _, rfl, rfl, gName_go ?_⟩
    refine ⟨_, rfl, _, _, rfl, rfl, ⟨by decide, by decide⟩, _, _, rfl, rfl, (by show (0 : Int) < 7; decide), _, _, rfl, rfl, gName_go ?_⟩
    have a0 : (far % 7 - 3).natAbs ≤ 1000 := by omega
    have b0 : (far / 7 % 7 - 3).natAbs ≤ 1000 := by omega
    refine if_cut (fun σ H' => H = H' ∧ ∃ a b : Int, σ = [some (.int c), some (.int n), some (.int far), some (.int a), some (.int b), none, none] ∧ a.natAbs ≤ 1000 ∧ b.natAbs ≤ 1000) ?_ ?_
    · rintro σ H' ⟨rfl, a, b, rfl, ha, hb⟩
      refine if_cut (fun σ H' => H = H' ∧ ∃ a b : Int, σ = [some (.int c), some (.int n), some (.int far), some (.int a), some (.int b), none, none] ∧ a.natAbs ≤ 1000 ∧ b.natAbs ≤ 1000 ∧ ¬ (a = 0 ∧ b = 0)) ?_ ?_
      · rintro σ H' ⟨rfl, a, b, rfl, ha, hb, hab⟩
        refine ⟨_, rfl, c, 16807, rfl, rfl, big ⟨by decide, by decide⟩, _, _, rfl, rfl, (by show (0 : Int) < 2147483587; decide), ?_⟩
        obtain ⟨more, hmore⟩ : ∃ more, more = c * 16807 % 2147483587 := ⟨_, rfl⟩
        refine gName_as (.int more) (by rw [hmore]) ?_
        clear hmore
        have p1 : 0 < n + 1 := by omega
        have m1 : Sz 20 (more % (n + 1)) := .of (b := 1000) (by have := Int.emod_nonneg more (show n + 1 ≠ 0 by omega); have := Int.emod_lt_of_pos more p1; omega) (by decide)
        have m2 : Sz 20 (more / 1009 % (n + 1)) := .of (b := 1000) (by have := Int.emod_nonneg (more / 1009) (show n + 1 ≠ 0 by omega); have := Int.emod_lt_of_pos (more / 1009) p1; omega) (by decide)
        have sa : Sz 20 a := .of ha (by decide)
        have sb : Sz 20 b := .of hb (by decide)
        refine ⟨_, rfl, _, rfl, _, rfl, _, _, rfl, rfl, _, _, rfl, rfl, p1, _, _, rfl, rfl, sa.ok m1 (by decide) (by decide) (by decide), ?_⟩
        refine ⟨_, rfl, _, rfl, _, _, rfl, rfl, ⟨by decide, by decide⟩, _, rfl, _, _, rfl, rfl, _, _, rfl, rfl, p1, _, _, rfl, rfl, sb.ok m2 (by decide) (by decide) (by decide), _, _, rfl, rfl, ?_⟩
        obtain ⟨v, hv, mem⟩ := menu_mem (xs := [V.int 0, .int 0, .int 0, .int 1, .int (-1), .int 2, .int (-3)]) (n := far / 294) (m := 7) (by decide) rfl
        obtain ⟨i, rfl⟩ : ∃ i, v = .int i := by
          simp only [List.mem_cons, List.not_mem_nil, or_false] at mem
          rcases mem with e | e | e | e | e | e | e <;> exact ⟨_, e⟩
        refine ⟨1, rfl, 3, rfl, by show 7 ≤ sizeLine; decide, fun l hl => ?_⟩
        refine ⟨_, rfl, _, _, rfl, rfl, ⟨by decide, by decide⟩, _, _, rfl, rfl, (by show (0 : Int) < 7; decide), l, _, _, _, rfl, rfl, SqL.of upd_same, hv, _, _, rfl, rfl, gName_go ?_⟩
        have s1 : Same H (upd H l (.lst [V.int 0, .int 0, .int 0, .int 1, .int (-1), .int 2, .int (-3)])) := same_upd hl
        refine if_cut (fun σ H' => upd H l (.lst [V.int 0, .int 0, .int 0, .int 1, .int (-1), .int 2, .int (-3)]) = H' ∧ ∃ z : Int, σ = [some (.int c), some (.int n), some (.int far), some (.int a), some (.int b), some (.int more), some (.int z)]) ?_ ?_
        · rintro σ H' ⟨rfl, z, rfl⟩
          refine ⟨_, rfl, _, rfl, 1000000, rfl, _, rfl, _, _, rfl, _, _, rfl, by show 3 ≤ sizeLine; decide, fun p hp => ?_⟩
          refine q _ p a b _ (s1.trans (same_upd hp)) (s1.free hp) upd_same ⟨ha, hb, hab, ?_⟩
          split <;> split <;> omega
        · intro go
          have put : ∀ z : Int, (∃ z' : Int, [some (V.int c), some (.int n), some (.int far), some (.int a), some (.int b), some (.int more), some (.int z)] = [some (.int c), some (.int n), some (.int far), some (.int a), some (.int b), some (.int more), some (.int z')]) := fun z => ⟨z, rfl⟩
          refine ⟨_, rfl, _, _, rfl, rfl, ⟨by decide, by decide⟩, _, _, rfl, rfl, (by show (0 : Int) < 6; decide), rfl, _, rfl, ite2 (fun _ => ?_) (fun _ => ?_)⟩
          · exact iteT ⟨_, rfl, _, _, rfl, rfl, (by show (0 : Int) < 2000001; decide), _, _, rfl, rfl, go _ _ ⟨rfl, put _⟩⟩
          · refine ⟨_, rfl, _, _, rfl, rfl, ⟨by decide, by decide⟩, _, _, rfl, rfl, (by show (0 : Int) < 6; decide), rfl, _, rfl, ite2 (fun _ => ?_) (fun _ => ?_)⟩
            · exact ⟨_, rfl, _, _, rfl, rfl, (by show (0 : Int) < 2000001; decide), _, _, rfl, rfl, go _ _ ⟨rfl, put _⟩⟩
            · exact go _ _ ⟨rfl, put _⟩
      · intro go
        refine ⟨_, rfl, rfl, _, rfl, ?_⟩
        cases d0 : decide (V.int a = V.int 0) with
        | false => exact iteF (iteF (go _ _ ⟨rfl, a, b, rfl, ha, hb, fun x => of_decide_eq_false d0 (congrArg V.int x.1)⟩))
        | true =>
          refine iteT ⟨_, rfl, rfl, _, rfl, ?_⟩
          cases d1 : decide (V.int b = V.int 0) with
          | false => exact iteF (go _ _ ⟨rfl, a, b, rfl, ha, hb, fun x => of_decide_eq_false d1 (congrArg V.int x.2)⟩)
          | true => exact iteT (go _ _ ⟨rfl, 1, b, rfl, by decide, hb, fun x => absurd x.1 (by decide)⟩)
    · intro go
      have far1 : ((c * 69621 % 2147483629 % 2001 - 1000).natAbs ≤ 1000) := by omega
      have far2 : ((c * 40692 % 2147483399 % 2001 - 1000).natAbs ≤ 1000) := by omega
      refine ⟨_, rfl, _, _, rfl, rfl, ⟨by decide, by decide⟩, _, _, rfl, rfl, (by show (0 : Int) < 6; decide), rfl, _, rfl, ite2 (fun _ => ?_) (fun _ => ?_)⟩
      · refine iteT ?_
        refine ⟨_, rfl, c, 69621, rfl, rfl, big ⟨by decide, by decide⟩, _, _, rfl, rfl, (by show (0 : Int) < 2147483629; decide), _, _, rfl, rfl, (by show (0 : Int) < 2001; decide), _, _, rfl, rfl, ?_⟩
        exact ⟨_, rfl, c, 40692, rfl, rfl, big ⟨by decide, by decide⟩, _, _, rfl, rfl, (by show (0 : Int) < 2147483399; decide), _, _, rfl, rfl, (by show (0 : Int) < 2001; decide), _, _, rfl, rfl, go _ _ ⟨rfl, _, _, rfl, far1, far2⟩⟩
      · refine ⟨_, rfl, _, _, rfl, rfl, ⟨by decide, by decide⟩, _, _, rfl, rfl, (by show (0 : Int) < 6; decide), rfl, _, rfl, ite2 (fun _ => ?_) (fun _ => ?_)⟩
        · refine ⟨_, rfl, c, 69621, rfl, rfl, big ⟨by decide, by decide⟩, _, _, rfl, rfl, (by show (0 : Int) < 2147483629; decide), _, _, rfl, rfl, (by show (0 : Int) < 2001; decide), _, _, rfl, rfl, ?_⟩
          exact ⟨_, rfl, c, 40692, rfl, rfl, big ⟨by decide, by decide⟩, _, _, rfl, rfl, (by show (0 : Int) < 2147483399; decide), _, _, rfl, rfl, (by show (0 : Int) < 2001; decide), _, _, rfl, rfl, go _ _ ⟨rfl, _, _, rfl, far1, far2⟩⟩
        · exact go _ _ ⟨rfl, _, _, rfl, a0, b0⟩

/-! ## _law_spot_by -/
abbrev n_law_spot_by : List Str := ["_law_cell", "_law_other", "_law_size", "_law_by", "_law_x", "_law_y", "_law_part"]
theorem sc_law_spot_by : FnScope n_law_spot_by ["_law_cell", "_law_other", "_law_size"] (defScope s_law_spot_by) := ⟨rfl, rfl, rfl, by decide +kernel, rfl, by decide +kernel, by decide +kernel⟩
theorem ok_law_spot_by (T : Txt K mg) (C_law_shared : Good P w K mg base CX0 1 "_law_shared" ["_law_one", "_law_other"] sp_shared) : Good P w K mg base CX0 2 "_law_spot_by" ["_law_cell", "_law_other", "_law_size"] sp_law_spot_by := by
  obtain ⟨fd, F⟩ := T.d_law_spot_by
  refine ⟨T.g_law_spot_by, F.kp, fd, F.bindsN (fun _ _ _ _ _ _ us hl => match us, hl with | [_, _, _], _ => rfl), F.ok sc_law_spot_by (fun vs H Q E h => ?_) (fun cdv A outer s H vs Q E hr h => ⟨_, PSs.nox (pss_cons (ps_set (i := 3) sc_law_spot_by.nd rfl (Or.inl rfl) (pe_op op_add pe_int (pe_op op_mod (pv 0) pe_int)))
    (pss_cons (ps_if (pt_cmpR op_eq (pe_op op_mod (pe_op op_fdiv (pv 0) pe_int) pe_int) pe_int (nomark _)) (pss_one (ps_set (i := 3) sc_law_spot_by.nd rfl (Or.inl rfl) (pe_op op_add pe_int (pe_op op_mod (pv 0) pe_int)))) pss_nil)
    (pss_cons (ps_set (i := 4) sc_law_spot_by.nd rfl (Or.inl rfl) (pe_op op_sub (pe_op op_mod (pe_op op_mod (pe_op op_mul (pv 0) pe_int) pe_int) (pe_op op_add (pe_op op_mulW (pv 2) (pv 3)) pe_int)) pe_int))
    (pss_cons (ps_set (i := 5) sc_law_spot_by.nd rfl (Or.inl rfl) (pe_op op_sub (pe_op op_mod (pe_op op_mod (pe_op op_mul (pv 1) pe_int) pe_int) (pe_op op_add (pe_op op_mulW (pv 2) (pv 3)) pe_int)) pe_int))
    (pss_cons (ps_if (pt_cmpR op_eq (pe_op op_mod (pe_op op_fdiv (pv 0) pe_int) pe_int) pe_int (nomark _)) (pss_one (ps_set (i := 4) sc_law_spot_by.nd rfl (Or.inl rfl) (pe_ix ix_list (pe_lst (pa_cons pe_int (pa_cons (pe_op op_mulW (pv 2) (pv 3)) (pa_cons (pe_un un_neg pe_int) (pa_cons (pe_op op_add (pe_op op_mulW (pv 2) (pv 3)) pe_int) pa_nil))))) (pe_op op_mod (pe_op op_fdiv (pv 0) pe_int) pe_int) (fun _ _ => rfl)))) pss_nil)
    (pss_cons (ps_if (pt_cmpR op_eq (pe_op op_mod (pe_op op_fdiv (pv 0) pe_int) pe_int) pe_int (nomark _)) (pss_one (ps_set (i := 5) sc_law_spot_by.nd rfl (Or.inl rfl) (pe_ix ix_list (pe_lst (pa_cons pe_int (pa_cons (pe_op op_mulW (pv 2) (pv 3)) (pa_cons (pe_un un_neg pe_int) (pa_cons (pe_op op_add (pe_op op_mulW (pv 2) (pv 3)) pe_int) pa_nil))))) (pe_op op_mod (pe_op op_fdiv (pv 0) pe_int) pe_int) (fun _ _ => rfl)))) pss_nil)
    (pss_cons (ps_set (i := 6) sc_law_spot_by.nd rfl (Or.inl rfl) (pe_own C_law_shared hr rfl (pa_cons (pe_callB call_abs (by rfl) T.m_abs (by decide +kernel) (pa_cons (pv 4) pa_nil)) (pa_cons (pe_own C_law_shared hr rfl (pa_cons (pe_callB call_abs (by rfl) T.m_abs (by decide +kernel) (pa_cons (pv 5) pa_nil)) (pa_cons (pv 3) pa_nil))) pa_nil))))
    (pss_one (ps_ret (pe_tup (pa_cons (pe_op op_fdivA (pv 4) (pv 6)) (pa_cons (pe_op op_fdivA (pv 5) (pv 6)) (pa_cons (pe_op op_fdivA (pv 3) (pv 6)) pa_nil))))))))))))), ?_⟩)⟩
  · obtain ⟨c, o, s, rfl, _⟩ := h
    rfl
  · obtain ⟨c, o, n, rfl, n1, n2, q⟩ := h
    have big : ∀ {i j : Int}, -(2 ^ 64) < j ∧ j < 2 ^ 64 → CMul i j := fun h => .inr h
    refine ⟨_, rfl, _, _, rfl, rfl, (by show (0 : Int) < 7; decide), _, _, rfl, rfl, gName_go ?_⟩
    refine if_cut (fun σ H' => H = H' ∧ ∃ b : Int, σ = [some (.int c), some (.int o), some (.int n), some (.int b), none, none, none] ∧ 1 ≤ b ∧ b ≤ 1000000000039) ?_ ?_
    · rintro σ H' ⟨rfl, b, rfl, b1, b2⟩
      have sn : Sz 20 n := .of (b := 1000) (by omega) (by decide)
      have sb : Sz 50 b := .of (b := 1000000000039) (by omega) (by decide)
      have cm : CMulW n b := sn.ok sb (by decide) (by decide) (by decide)
      have S1 : 1 ≤ n * b := by
        have := Int.mul_le_mul n1 b1 (by decide) (by omega)
        omega
      have S2 : n * b ≤ 1000000000039000 := by
        have := Int.mul_le_mul n2 b2 (by omega) (by decide)
        omega
      refine ⟨_, rfl, c, _, rfl, rfl, big ⟨by decide, by decide⟩, _, _, rfl, rfl, (by show (0 : Int) < 2305843009213693951; decide), _, rfl, _, rfl, n, b, rfl, rfl, cm, _, _, rfl, rfl, _, _, rfl, rfl, by omega, _, _, rfl, rfl, ?_⟩
      obtain ⟨x, hx, x1, x2⟩ : ∃ x, x = c * 6364136223846793005 % 2305843009213693951 % (n * b + 3) - 1 ∧ -1 ≤ x ∧ x ≤ n * b + 1 := by
        have p1 := Int.emod_nonneg (c * 6364136223846793005 % 2305843009213693951) (show n * b + 3 ≠ 0 by omega)
        have p2 := Int.emod_lt_of_pos (c * 6364136223846793005 % 2305843009213693951) (show 0 < n * b + 3 by omega)
        exact ⟨_, rfl, by omega, by omega⟩
      refine gName_as (.int x) (by rw [hx]) ?_
      clear hx
      refine ⟨_, rfl, o, _, rfl, rfl, big ⟨by decide, by decide⟩, _, _, rfl, rfl, (by show (0 : Int) < 2305843009213693951; decide), _, rfl, _, rfl, n, b, rfl, rfl, cm, _, _, rfl, rfl, _, _, rfl, rfl, by omega, _, _, rfl, rfl, ?_⟩
      obtain ⟨y, hy, y1, y2⟩ : ∃ y, y = o * 2862933555777941757 % 2305843009213693951 % (n * b + 3) - 1 ∧ -1 ≤ y ∧ y ≤ n * b + 1 := by
        have p1 := Int.emod_nonneg (o * 2862933555777941757 % 2305843009213693951) (show n * b + 3 ≠ 0 by omega)
        have p2 := Int.emod_lt_of_pos (o * 2862933555777941757 % 2305843009213693951) (show 0 < n * b + 3 by omega)
        exact ⟨_, rfl, by omega, by omega⟩
      refine gName_as (.int y) (by rw [hy]) ?_
      clear hy
      -- one of four
      have four : ∀ k : Int, ∃ z : Int, atI [V.int 0, .int (n * b), .int (-1), .int (n * b + 1)] (k % 4) = some (.int z) ∧ -1 ≤ z ∧ z ≤ n * b + 1 := fun k => by
        obtain ⟨v, hv, mem⟩ := menu_mem (xs := [V.int 0, .int (n * b), .int (-1), .int (n * b + 1)]) (n := k) (m := 4) (by decide) rfl
        simp only [List.mem_cons, List.not_mem_nil, or_false] at mem
        rcases mem with e | e | e | e <;> rw [e] at hv <;> exact ⟨_, hv, by omega, by omega⟩
      refine if_cut (fun σ H' => Same H H' ∧ ∃ x : Int, σ = [some (.int c), some (.int o), some (.int n), some (.int b), some (.int x), some (.int y), none] ∧ -1 ≤ x ∧ x ≤ n * b + 1) ?_ ?_
      · rintro σ H1 ⟨t1, x, rfl, x1, x2⟩
        refine if_cut (fun σ H' => Same H H' ∧ ∃ y : Int, σ = [some (.int c), some (.int o), some (.int n), some (.int b), some (.int x), some (.int y), none] ∧ -1 ≤ y ∧ y ≤ n * b + 1) ?_ ?_
        · rintro σ H2 ⟨t2, y, rfl, y1, y2⟩
          have ex : (x.natAbs : Int) ≤ 1000000000039001 := by omega
          have ey : (y.natAbs : Int) ≤ 1000000000039001 := by omega
          refine ⟨_, rfl, x, rfl, _, rfl, y, rfl, _, rfl, _, b, rfl, abs_nn y, by omega, _, _, rfl, abs_nn x, Int.natCast_nonneg _, ?_⟩
          have eb : b.toNat = b.natAbs := by omega
          obtain ⟨g, hg⟩ : ∃ g : Int, g = ((Nat.gcd x.natAbs (Nat.gcd y.natAbs b.natAbs) : Nat) : Int) := ⟨_, rfl⟩
          refine gName_as (.int g) (by rw [hg, abs_nat, abs_nat, Int.toNat_natCast, eb]) ?_
          obtain ⟨g0, gp, gb, low, lx, ly, lb⟩ := low_abs (x := x) (y := y) (b := b) (by omega) g hg
          have cd : ∀ i, CDivA i g := fun i => divA (b := 50) g0 (Nat.lt_of_le_of_lt gb sb) (by decide) (by decide)
          refine ⟨_, rfl, _, rfl, _, _, rfl, rfl, cd _, ?_⟩
          refine ⟨_, rfl, _, rfl, _, _, rfl, rfl, cd _, ?_⟩
          refine ⟨_, rfl, _, rfl, _, _, rfl, rfl, cd _, by show 3 ≤ sizeLine; decide, fun p hp => ?_⟩
          refine q _ p _ _ _ (t2.trans (same_upd hp)) (t2.free hp) ⟨upd_same, low, ⟨.of (b := 1000000000039001) (by omega) (by decide), .of (b := 1000000000039001) (by omega) (by decide), .of (b := 1000000000039) (by omega) (by decide)⟩⟩
        · intro go
          refine ⟨_, rfl, _, _, rfl, rfl, ⟨by decide, by decide⟩, _, _, rfl, rfl, (by show (0 : Int) < 4; decide), rfl, _, rfl, ite2 (fun z => ?_) (fun z => go _ _ ⟨t1, y, rfl, y1, y2⟩)⟩
          obtain ⟨w, hw, w1, w2⟩ := four (c / 28)
          refine ⟨_, rfl, _, rfl, n, b, rfl, rfl, cm, 1, rfl, _, rfl, _, rfl, n, b, rfl, rfl, cm, _, _, rfl, rfl, by show 4 ≤ sizeLine; decide, fun l hl => ?_⟩
          exact ⟨_, rfl, _, _, rfl, rfl, ⟨by decide, by decide⟩, _, _, rfl, rfl, (by show (0 : Int) < 4; decide), l, _, _, _, rfl, rfl, SqL.of upd_same, hw, go _ _ ⟨t1.trans (same_upd hl), w, rfl, w1, w2⟩⟩
      · intro go
        refine ⟨_, rfl, _, _, rfl, rfl, ⟨by decide, by decide⟩, _, _, rfl, rfl, (by show (0 : Int) < 4; decide), rfl, _, rfl, ite2 (fun z => ?_) (fun z => go _ _ ⟨Same.refl _, x, rfl, x1, x2⟩)⟩
        obtain ⟨w, hw, w1, w2⟩ := four (c / 28)
        refine ⟨_, rfl, _, rfl, n, b, rfl, rfl, cm, 1, rfl, _, rfl, _, rfl, n, b, rfl, rfl, cm, _, _, rfl, rfl, by show 4 ≤ sizeLine; decide, fun l hl => ?_⟩
        exact ⟨_, rfl, _, _, rfl, rfl, ⟨by decide, by decide⟩, _, _, rfl, rfl, (by show (0 : Int) < 4; decide), l, _, _, _, rfl, rfl, SqL.of upd_same, hw, go _ _ ⟨same_upd hl, w, rfl, w1, w2⟩⟩
    · intro go
      refine ⟨_, rfl, _, _, rfl, rfl, ⟨by decide, by decide⟩, _, _, rfl, rfl, (by show (0 : Int) < 5; decide), rfl, _, rfl, ite2 (fun z => ?_) (fun z => go _ _ ⟨rfl, _, rfl, by omega, by omega⟩)⟩
      exact ⟨_, rfl, _, _, rfl, rfl, (by show (0 : Int) < 1000000000039; decide), _, _, rfl, rfl, go _ _ ⟨rfl, _, rfl, by omega, by omega⟩⟩

/-! ## _law_turn -/
abbrev n_law_turn : List Str := ["_law_one", "_law_two", "_law_three", "_law_first", "_law_second"]
theorem sc_law_turn : FnScope n_law_turn ["_law_one", "_law_two", "_law_three"] (defScope s_law_turn) := ⟨rfl, rfl, rfl, by decide +kernel, rfl, by decide +kernel, by decide +kernel⟩
theorem ok_law_turn (T : Txt K mg) : Good P w K mg base CX0 1 "_law_turn" ["_law_one", "_law_two", "_law_three"] (sp_tri K id) := by
  obtain ⟨fd, F⟩ := T.d_law_turn
  refine ⟨T.g_law_turn, F.kp, fd, F.bindsN (fun _ _ _ _ _ _ us hl => match us, hl with | [_, _, _], _ => rfl), F.ok sc_law_turn (fun vs H Q E h => ?_) (fun cdv A outer s H vs Q E hr h => ⟨_, PSs.nox (pss_cons (ps_set (i := 3) sc_law_turn.nd rfl (Or.inl rfl) (pe_op op_mulW (pe_ix ix_tup (pv 0) pe_int (fun _ _ => rfl)) (pe_op op_sub (pe_op op_mulW (pe_ix ix_tup (pv 1) pe_int (fun _ _ => rfl)) (pe_ix ix_tup (pv 2) pe_int (fun _ _ => rfl))) (pe_op op_mulW (pe_ix ix_tup (pv 2) pe_int (fun _ _ => rfl)) (pe_ix ix_tup (pv 1) pe_int (fun _ _ => rfl))))))
    (pss_cons (ps_set (i := 4) sc_law_turn.nd rfl (Or.inl rfl) (pe_op op_mulW (pe_ix ix_tup (pv 0) pe_int (fun _ _ => rfl)) (pe_op op_sub (pe_op op_mulW (pe_ix ix_tup (pv 1) pe_int (fun _ _ => rfl)) (pe_ix ix_tup (pv 2) pe_int (fun _ _ => rfl))) (pe_op op_mulW (pe_ix ix_tup (pv 2) pe_int (fun _ _ => rfl)) (pe_ix ix_tup (pv 1) pe_int (fun _ _ => rfl))))))
    (pss_one (ps_ret (pe_op op_add (pe_op op_sub (pv 3) (pv 4)) (pe_op op_mulW (pe_ix ix_tup (pv 0) pe_int (fun _ _ => rfl)) (pe_op op_sub (pe_op op_mulW (pe_ix ix_tup (pv 1) pe_int (fun _ _ => rfl)) (pe_ix ix_tup (pv 2) pe_int (fun _ _ => rfl))) (pe_op op_mulW (pe_ix ix_tup (pv 2) pe_int (fun _ _ => rfl)) (pe_ix ix_tup (pv 1) pe_int (fun _ _ => rfl)))))))))), ?_⟩)⟩
  · obtain ⟨p, q, r, x, y, b, x2, y2, b2, x3, y3, b3, rfl, _⟩ := h
    rfl
  · obtain ⟨p, q, r, x, y, b, x2, y2, b2, x3, y3, b3, rfl, hp, hq, hr', z1, z2, z3, k⟩ := h
    have m : ∀ {u v : Int}, Sz 1000 u → Sz 1000 v → CMulW u v := fun h k => h.ok k (by decide) (by decide) (by decide)
    have m2 : ∀ {u v : Int}, Sz 1000 u → Sz 2001 v → CMulW u v := fun h k => h.ok k (by decide) (by decide) (by decide)
    have d : ∀ {u v s t : Int}, Sz 1000 u → Sz 1000 v → Sz 1000 s → Sz 1000 t → Sz 2001 (u * v - s * t) := fun h1 h2 h3 h4 => (h1.mul h2).sub (h3.mul h4)
    refine ⟨_, rfl, p, _, 0, .int x, rfl, rfl, hp, rfl, ?_⟩
    refine ⟨_, rfl, q, _, 1, .int y2, rfl, rfl, hq, rfl, _, rfl, r, _, 2, .int b3, rfl, rfl, hr', rfl, y2, b3, rfl, rfl, m z2.y z3.b, ?_⟩
    refine ⟨_, rfl, r, _, 1, .int y3, rfl, rfl, hr', rfl, _, rfl, q, _, 2, .int b2, rfl, rfl, hq, rfl, y3, b2, rfl, rfl, m z3.y z2.b, _, _, rfl, rfl, ?_⟩
    refine ⟨_, _, rfl, rfl, m2 z1.x (d z2.y z3.b z3.y z2.b), ?_⟩
    refine ⟨_, rfl, p, _, 1, .int y, rfl, rfl, hp, rfl, ?_⟩
    refine ⟨_, rfl, q, _, 0, .int x2, rfl, rfl, hq, rfl, _, rfl, r, _, 2, .int b3, rfl, rfl, hr', rfl, x2, b3, rfl, rfl, m z2.x z3.b, ?_⟩
    refine ⟨_, rfl, r, _, 0, .int x3, rfl, rfl, hr', rfl, _, rfl, q, _, 2, .int b2, rfl, rfl, hq, rfl, x3, b2, rfl, rfl, m z3.x z2.b, _, _, rfl, rfl, ?_⟩
    refine ⟨_, _, rfl, rfl, m2 z1.y (d z2.x z3.b z3.x z2.b), ?_⟩
    refine ⟨_, rfl, _, rfl, _, _, rfl, rfl, ?_⟩
    refine ⟨_, rfl, p, _, 2, .int b, rfl, rfl, hp, rfl, ?_⟩
    refine ⟨_, rfl, q, _, 0, .int x2, rfl, rfl, hq, rfl, _, rfl, r, _, 1, .int y3, rfl, rfl, hr', rfl, x2, y3, rfl, rfl, m z2.x z3.y, ?_⟩
    refine ⟨_, rfl, r, _, 0, .int x3, rfl, rfl, hr', rfl, _, rfl, q, _, 1, .int y2, rfl, rfl, hq, rfl, x3, y2, rfl, rfl, m z3.x z2.y, _, _, rfl, rfl, ?_⟩
    exact ⟨_, _, rfl, rfl, m2 z1.b (d z2.x z3.y z3.x z2.y), _, _, rfl, rfl, k⟩

/-! ## _law_third -/
abbrev n_law_third : List Str := ["_law_spots", "_law_cell", "_law_one", "_law_two", "_law_x", "_law_y", "_law_by", "_law_part"]
theorem sc_law_third : FnScope n_law_third ["_law_spots", "_law_cell"] (defScope s_law_third) := ⟨rfl, rfl, rfl, by decide +kernel, rfl, by decide +kernel, by decide +kernel⟩
def sp_law_third (K : PySem.W.Frag) : Sp := fun vs H Q _ => ∃ (l p0 p1 p2 : Addr) (c x0 y0 b0 x1 y1 b1 x2 y2 b2 : Int), vs = [.ref l, .int c] ∧ SqL K H l [.ref p0, .ref p1, .ref p2] ∧ SpotAt 100 H p0 x0 y0 b0 ∧ SpotAt 100 H p1 x1 y1 b1 ∧ SpotAt 100 H p2 x2 y2 b2 ∧
  ∀ (H' : Hp) (p : Addr) (x y b : Int), Same H H' → SpotAt 300 H' p x y b → Q (.ref p) H'
theorem ok_law_third (T : Txt K mg) (C_law_shared : Good P w K mg base CX0 1 "_law_shared" ["_law_one", "_law_other"] sp_shared) : Good P w K mg base CX0 2 "_law_third" ["_law_spots", "_law_cell"] (sp_law_third K) := by
  obtain ⟨fd, F⟩ := T.d_law_third
  refine ⟨T.g_law_third, F.kp, fd, F.bindsN (fun _ _ _ _ _ _ us hl => match us, hl with | [_, _], _ => rfl), F.ok sc_law_third (fun vs H Q E h => ?_) (fun cdv A outer s H vs Q E hr h => ⟨_, PSs.nox (pss_cons (ps_set (i := 2) sc_law_third.nd rfl (Or.inl rfl) (pe_ix ix_list (pv 0) pe_int (fun _ _ => rfl)))
    (pss_cons (ps_set (i := 3) sc_law_third.nd rfl (Or.inl rfl) (pe_ix ix_list (pv 0) pe_int (fun _ _ => rfl)))
    (pss_cons (ps_if (pt_cmpR op_eq (pe_op op_mod (pv 1) pe_int) pe_int (nomark _)) (pss_one (ps_ret (pv 2))) pss_nil)
    (pss_cons (ps_if (pt_cmpR op_eq (pe_op op_mod (pv 1) pe_int) pe_int (nomark _)) (pss_one (ps_ret (pv 3))) pss_nil)
    (pss_cons (ps_if (pt_cmpR op_eq (pe_op op_mod (pv 1) pe_int) pe_int (nomark _)) (pss_cons (ps_set (i := 4) sc_law_third.nd rfl (Or.inl rfl) (pe_op op_add (pe_op op_mulW (pe_ix ix_tup (pv 2) pe_int (fun _ _ => rfl)) (pe_ix ix_tup (pv 3) pe_int (fun _ _ => rfl))) (pe_op op_mulW (pe_ix ix_tup (pv 3) pe_int (fun _ _ => rfl)) (pe_ix ix_tup (pv 2) pe_int (fun _ _ => rfl)))))
    (pss_cons (ps_set (i := 5) sc_law_third.nd rfl (Or.inl rfl) (pe_op op_add (pe_op op_mulW (pe_ix ix_tup (pv 2) pe_int (fun _ _ => rfl)) (pe_ix ix_tup (pv 3) pe_int (fun _ _ => rfl))) (pe_op op_mulW (pe_ix ix_tup (pv 3) pe_int (fun _ _ => rfl)) (pe_ix ix_tup (pv 2) pe_int (fun _ _ => rfl)))))
    (pss_cons (ps_set (i := 6) sc_law_third.nd rfl (Or.inl rfl) (pe_op op_mulW (pe_op op_mul pe_int (pe_ix ix_tup (pv 2) pe_int (fun _ _ => rfl))) (pe_ix ix_tup (pv 3) pe_int (fun _ _ => rfl))))
    (pss_cons (ps_set (i := 7) sc_law_third.nd rfl (Or.inl rfl) (pe_own C_law_shared hr rfl (pa_cons (pe_callB call_abs (by rfl) T.m_abs (by decide +kernel) (pa_cons (pv 4) pa_nil)) (pa_cons (pe_own C_law_shared hr rfl (pa_cons (pe_callB call_abs (by rfl) T.m_abs (by decide +kernel) (pa_cons (pv 5) pa_nil)) (pa_cons (pv 6) pa_nil))) pa_nil))))
    (pss_one (ps_ret (pe_tup (pa_cons (pe_op op_fdivA (pv 4) (pv 7)) (pa_cons (pe_op op_fdivA (pv 5) (pv 7)) (pa_cons (pe_op op_fdivA (pv 6) (pv 7)) pa_nil)))))))))) pss_nil)
    (pss_one (ps_ret (pe_ix ix_list (pv 0) pe_int (fun _ _ => rfl))))))))), ?_⟩)⟩
  · obtain ⟨l, p0, p1, p2, c, x0, y0, b0, x1, y1, b1, x2, y2, b2, rfl, _⟩ := h
    rfl
  · obtain ⟨l, p0, p1, p2, c, x0, y0, b0, x1, y1, b1, x2, y2, b2, rfl, hl, h0, h1, h2, q⟩ := h
    have m0 : SqT K H p0 [.int x0, .int y0, .int b0] := SqT.of h0.at_
    have m1 : SqT K H p1 [.int x1, .int y1, .int b1] := SqT.of h1.at_
    refine ⟨_, rfl, l, _, 0, .ref p0, rfl, rfl, hl, rfl, gName_go ?_⟩
    refine ⟨_, rfl, l, _, 1, .ref p1, rfl, rfl, hl, rfl, gName_go ?_⟩
    refine ⟨_, rfl, _, _, rfl, rfl, (by show (0 : Int) < 9; decide), rfl, _, rfl, ite2 (fun _ => ?_) (fun _ => next_go ?_)⟩
    · exact ⟨_, rfl, q H p0 x0 y0 b0 (Same.refl _) (h0.mono (by decide))⟩
    refine ⟨_, rfl, _, _, rfl, rfl, (by show (0 : Int) < 9; decide), rfl, _, rfl, ite2 (fun _ => ?_) (fun _ => next_go ?_)⟩
    · exact ⟨_, rfl, q H p1 x1 y1 b1 (Same.refl _) (h1.mono (by decide))⟩
    refine ⟨_, rfl, _, _, rfl, rfl, (by show (0 : Int) < 9; decide), rfl, _, rfl, ite2 (fun _ => ?_) (fun _ => next_go ?_)⟩
    · have ok : ∀ {u v : Int}, Sz 100 u → Sz 100 v → CMulW u v := fun h k => h.ok k (by decide) (by decide) (by decide)
      refine ⟨_, rfl, p0, _, 0, .int x0, rfl, rfl, m0, rfl, _, rfl, p1, _, 2, .int b1, rfl, rfl, m1, rfl, _, _, rfl, rfl, ok h0.sz.x h1.sz.b, ?_⟩
      refine ⟨_, rfl, p1, _, 0, .int x1, rfl, rfl, m1, rfl, _, rfl, p0, _, 2, .int b0, rfl, rfl, m0, rfl, _, _, rfl, rfl, ok h1.sz.x h0.sz.b, _, _, rfl, rfl, ?_⟩
      obtain ⟨x, hx⟩ : ∃ x, x = x0 * b1 + x1 * b0 := ⟨_, rfl⟩
      have sx : Sz 201 x := by rw [hx]; exact (h0.sz.x.mul h1.sz.b).add (h1.sz.x.mul h0.sz.b)
      refine gName_as (.int x) (by rw [hx]) ?_
      refine ⟨_, rfl, p0, _, 1, .int y0, rfl, rfl, m0, rfl, _, rfl, p1, _, 2, .int b1, rfl, rfl, m1, rfl, _, _, rfl, rfl, ok h0.sz.y h1.sz.b, ?_⟩
      refine ⟨_, rfl, p1, _, 1, .int y1, rfl, rfl, m1, rfl, _, rfl, p0, _, 2, .int b0, rfl, rfl, m0, rfl, _, _, rfl, rfl, ok h1.sz.y h0.sz.b, _, _, rfl, rfl, ?_⟩
      obtain ⟨y, hy⟩ : ∃ y, y = y0 * b1 + y1 * b0 := ⟨_, rfl⟩
      have sy : Sz 201 y := by rw [hy]; exact (h0.sz.y.mul h1.sz.b).add (h1.sz.y.mul h0.sz.b)
      refine gName_as (.int y) (by rw [hy]) ?_
      have s2 : Sz 102 (2 * b0) := Sz.mul (n := 2) (m := 100) (by show (2 : Int).natAbs < 2 ^ 2; decide) h0.sz.b
      refine ⟨_, rfl, p0, _, 2, .int b0, rfl, rfl, m0, rfl, 2, _, rfl, rfl, .inl ⟨by decide, by decide⟩, _, rfl, p1, _, 2, .int b1, rfl, rfl, m1, rfl, _, _, rfl, rfl, s2.ok h1.sz.b (by decide) (by decide) (by decide), ?_⟩
      obtain ⟨b, hb⟩ : ∃ b, b = 2 * b0 * b1 := ⟨_, rfl⟩
      have sb : Sz 202 b := by rw [hb]; exact s2.mul h1.sz.b
      have bp : 0 < b := by
        rw [hb]
        have := h0.low.1
        exact Int.mul_pos (by omega) h1.low.1
      refine gName_as (.int b) (by rw [hb]) ?_
      clear hx hy hb
      refine ⟨_, rfl, x, rfl, _, rfl, y, rfl, _, rfl, _, b, rfl, abs_nn y, by omega, _, _, rfl, abs_nn x, Int.natCast_nonneg _, ?_⟩
      have eb : b.toNat = b.natAbs := by omega
      obtain ⟨g, hg⟩ : ∃ g : Int, g = ((Nat.gcd x.natAbs (Nat.gcd y.natAbs b.natAbs) : Nat) : Int) := ⟨_, rfl⟩
      refine gName_as (.int g) (by rw [hg, abs_nat, abs_nat, Int.toNat_natCast, eb]) ?_
      obtain ⟨g0, gp, gb, low, lx, ly, lb⟩ := low_abs (x := x) (y := y) (b := b) bp g hg
      have cd : ∀ i, CDivA i g := fun i => divA (b := 202) g0 (Nat.lt_of_le_of_lt gb sb) (by decide) (by decide)
      refine ⟨_, rfl, _, rfl, _, _, rfl, rfl, cd _, ?_⟩
      refine ⟨_, rfl, _, rfl, _, _, rfl, rfl, cd _, ?_⟩
      refine ⟨_, rfl, _, rfl, _, _, rfl, rfl, cd _, by show 3 ≤ sizeLine; decide, fun p hp => ?_⟩
      have le : ∀ {u v : Int} {n : Nat}, u.natAbs ≤ v.natAbs → Sz n v → n ≤ 300 → Sz 300 u := fun h k l => Sz.mono (Nat.lt_of_le_of_lt h k) l
      exact q _ p _ _ _ (same_upd hp) ⟨upd_same, low, ⟨le lx sx (by decide), le ly sy (by decide), le lb sb (by decide)⟩⟩
    · exact ⟨_, rfl, l, _, 2, .ref p2, rfl, rfl, hl, rfl, q H p2 x2 y2 b2 (Same.refl _) (h2.mono (by decide))⟩

/-! ## law -/
abbrev n_law : List Str := ["_law_script", "_law_size", "_law_one", "_law_two", "_law_way", "_law_times", "_law_spots", "_law_k", "_law_spot", "_law_found", "_law_side", "_law_fence"]
theorem sc_law : FnScope n_law ["_law_script"] (defScope s_law) := ⟨rfl, rfl, rfl, by decide +kernel, rfl, by decide +kernel, by decide +kernel⟩
def sp_law (K : PySem.W.Frag) : Sp := fun vs H Q _ => ∃ (a : Addr) (ns : List Int), vs = [.ref a] ∧ SqL K H a (ns.map V.int) ∧ ns.length ≤ 63 ∧ ∀ H', Q (.bl true) H'
theorem FenceI.ml {a b c : Int} (h : FenceI a b c) (x y z : Int) : CMul a x ∧ CMul b y ∧ CMul c z := by
  have h1 := h.ha
  have h2 := h.hb
  have h3 := h.hc
  exact ⟨.inl ⟨by omega, by omega⟩, .inl ⟨by omega, by omega⟩, .inl ⟨by omega, by omega⟩⟩
theorem sgn_eq (t : Int) : sgn t = (if decide (0 < t) = true then (1 : Int) else 0) - (if decide (t < 0) = true then (1 : Int) else 0) := by
  unfold sgn
  by_cases h : 0 < t
  · rw [if_pos h, decide_eq_true h, decide_eq_false (by omega)]
    rfl
  · rw [if_neg h, decide_eq_false h]
    by_cases k : t < 0
    · rw [if_pos k, decide_eq_true k]
      rfl
    · rw [if_neg k, decide_eq_false k]
      rfl
/-- a list of spots -/
theorem times_ok {a b c t : Int} (h : FenceI a b c) (ha : (if a < 0 then -a else a) < 300) (hb : (if b < 0 then -b else b) < 300) {z : Int} (hz : z.natAbs ≤ 1000000) (ht : t = -1 ∨ t = 1 ∨ t = 2 ∨ t = -2 ∨ t = 3 ∨ t = -3) : FenceI (t * a) (t * b) z := by
  have a1 : a.natAbs < 300 := by split at ha <;> omega
  have b1 : b.natAbs < 300 := by split at hb <;> omega
  have ab := h.ab
  rcases ht with e | e | e | e | e | e <;> subst e <;> exact ⟨by omega, by omega, by omega, hz⟩
theorem ok_law {fd : FuncData} (T : Txt K mg) (F : FnP K "law" s_law fd) (C_law_cell_at : Good P w K mg base CX0 1 "_law_cell_at" ["_law_script", "_law_k"] (sp_cell K))
    (C_law_size_by : Good P w K mg base CX0 1 "_law_size_by" ["_law_cell"] sp_law_size_by)
    (C_law_fence_by : Good P w K mg base CX0 1 "_law_fence_by" ["_law_cell", "_law_size"] sp_law_fence_by)
    (C_law_spot_by : Good P w K mg base CX0 2 "_law_spot_by" ["_law_cell", "_law_other", "_law_size"] sp_law_spot_by)
    (C_law_third : Good P w K mg base CX0 2 "_law_third" ["_law_spots", "_law_cell"] (sp_law_third K))
    (C_reach : Good P w K mg base CX0 1 "reach" ["fence", "spot"] (sp_reach K))
    (C_law_whole : Good P w K mg base CX0 1 "_law_whole" ["_law_thing"] sp_num)
    (C_law_turn : Good P w K mg base CX0 1 "_law_turn" ["_law_one", "_law_two", "_law_three"] (sp_tri K id))
    (C_turn : Good P w K mg base CX0 2 "turn" ["one", "two", "three"] (sp_tri K sgn))
    (C_meeting : Good P w K mg base CX0 3 "meeting" ["one", "other"] (sp_meeting K))
    (C_law_good_spot : Good P w K mg base CX0 2 "_law_good_spot" ["_law_spot"] sp_law_good_spot) :
    FnOk P w K mg base CX0 (3 + 1) (He.ga K "law") fd ["_law_script"] (sp_law K) := by
  refine F.ok sc_law (fun vs H Q E h => ?_) (fun cdv A outer s H vs Q E hr h => ⟨_, PSs.nox (pss_cons (ps_set (i := 1) sc_law.nd rfl (Or.inl rfl) (pe_own C_law_size_by (hr.mono (by decide)) rfl (pa_cons (pe_own C_law_cell_at (hr.mono (by decide)) rfl (pa_cons (pv 0) (pa_cons pe_int pa_nil))) pa_nil)))
    (pss_cons (ps_set (i := 2) sc_law.nd rfl (Or.inl rfl) (pe_own C_law_fence_by (hr.mono (by decide)) rfl (pa_cons (pe_own C_law_cell_at (hr.mono (by decide)) rfl (pa_cons (pv 0) (pa_cons pe_int pa_nil))) (pa_cons (pv 1) pa_nil))))
    (pss_cons (ps_set (i := 3) sc_law.nd rfl (Or.inl rfl) (pe_own C_law_fence_by (hr.mono (by decide)) rfl (pa_cons (pe_own C_law_cell_at (hr.mono (by decide)) rfl (pa_cons (pv 0) (pa_cons pe_int pa_nil))) (pa_cons (pv 1) pa_nil))))
    (pss_cons (ps_set (i := 4) sc_law.nd rfl (Or.inl rfl) (pe_own C_law_cell_at (hr.mono (by decide)) rfl (pa_cons (pv 0) (pa_cons pe_int pa_nil))))
    (pss_cons (ps_if (pt_cmpR op_eq (pe_op op_mod (pv 4) pe_int) pe_int (nomark _)) (pss_cons (ps_set (i := 5) sc_law.nd rfl (Or.inl rfl) (pe_ix ix_list (pe_lst (pa_cons (pe_un un_neg pe_int) (pa_cons pe_int (pa_cons pe_int (pa_cons (pe_un un_neg pe_int) (pa_cons pe_int (pa_cons (pe_un un_neg pe_int) pa_nil))))))) (pe_op op_mod (pe_op op_fdiv (pv 4) pe_int) pe_int) (fun _ _ => rfl)))
    (pss_one (ps_if (PW.pt (pw_and (pt_cmpR op_lt (pe_callB call_abs (by rfl) T.m_abs (by decide +kernel) (pa_cons (pe_ix ix_tup (pv 2) pe_int (fun _ _ => rfl)) pa_nil)) pe_int (nomark _)) (pw_and1 (pt_cmpR op_lt (pe_callB call_abs (by rfl) T.m_abs (by decide +kernel) (pa_cons (pe_ix ix_tup (pv 2) pe_int (fun _ _ => rfl)) pa_nil)) pe_int (nomark _))))) (pss_one (ps_set (i := 3) sc_law.nd rfl (Or.inl rfl) (pe_tup (pa_cons (pe_op op_mul (pv 5) (pe_ix ix_tup (pv 2) pe_int (fun _ _ => rfl))) (pa_cons (pe_op op_mul (pv 5) (pe_ix ix_tup (pv 2) pe_int (fun _ _ => rfl))) (pa_cons (pe_ix ix_tup (pv 3) pe_int (fun _ _ => rfl)) pa_nil)))))) pss_nil))) pss_nil)
    (pss_cons (ps_set (i := 6) sc_law.nd rfl (Or.inl rfl) (pe_lst pa_nil))
    (pss_cons (ps_for PassesOwn.never rfl (pi_range1 (by rfl) T.m_range (pa_cons pe_int pa_nil)) (pg_name (i := 7) sc_law.nd rfl (Or.inl rfl))
    (pss_one (ps_expr (pe_bm PySem.F.plainAttrs_list PySem.F.slot_list_append PySem.F.type_list_append mt_append (pv 6) (pa_cons (pe_own C_law_spot_by (hr.mono (by decide)) rfl (pa_cons (pe_own C_law_cell_at (hr.mono (by decide)) rfl (pa_cons (pv 0) (pa_cons (pe_op op_add pe_int (pe_op op_mul pe_int (pv 7))) pa_nil))) (pa_cons (pe_own C_law_cell_at (hr.mono (by decide)) rfl (pa_cons (pv 0) (pa_cons (pe_op op_add pe_int (pe_op op_mul pe_int (pv 7))) pa_nil))) (pa_cons (pv 1) pa_nil)))) pa_nil)))))
    (pss_cons (ps_asg (pe_own C_law_third (hr.mono (by decide)) rfl (pa_cons (pv 6) (pa_cons (pe_own C_law_cell_at (hr.mono (by decide)) rfl (pa_cons (pv 0) (pa_cons pe_int pa_nil))) pa_nil))) (pg_sub (pv 6) pe_int set_list))
    (pss_cons (ps_for PassesOwn.never rfl (pi_list (pv 6)) (pg_name (i := 8) sc_law.nd rfl (Or.inl rfl))
    (pss_cons (ps_set (i := 9) sc_law.nd rfl (Or.inl rfl) (pe_own C_reach (hr.mono (by decide)) rfl (pa_cons (pv 2) (pa_cons (pv 8) pa_nil))))
    (pss_one (ps_if (PW.pt (pw_or (pt_not (pt_val (pe_own C_law_whole (hr.mono (by decide)) rfl (pa_cons (pv 9) pa_nil)))) (pw_or1 (pt_cmpR op_ne (pv 9) (pe_op op_sub (pe_op op_add (pe_op op_mul (pe_ix ix_tup (pv 2) pe_int (fun _ _ => rfl)) (pe_ix ix_tup (pv 8) pe_int (fun _ _ => rfl))) (pe_op op_mul (pe_ix ix_tup (pv 2) pe_int (fun _ _ => rfl)) (pe_ix ix_tup (pv 8) pe_int (fun _ _ => rfl)))) (pe_op op_mul (pe_ix ix_tup (pv 2) pe_int (fun _ _ => rfl)) (pe_ix ix_tup (pv 8) pe_int (fun _ _ => rfl)))) (nomark _))))) (pss_one (ps_ret pe_bl)) pss_nil))))
    (pss_cons (ps_set (i := 10) sc_law.nd rfl (Or.inl rfl) (pe_own C_law_turn (hr.mono (by decide)) rfl (pa_cons (pe_ix ix_list (pv 6) pe_int (fun _ _ => rfl)) (pa_cons (pe_ix ix_list (pv 6) pe_int (fun _ _ => rfl)) (pa_cons (pe_ix ix_list (pv 6) pe_int (fun _ _ => rfl)) pa_nil)))))
    (pss_cons (ps_set (i := 9) sc_law.nd rfl (Or.inl rfl) (pe_own C_turn (hr.mono (by decide)) rfl (pa_cons (pe_ix ix_list (pv 6) pe_int (fun _ _ => rfl)) (pa_cons (pe_ix ix_list (pv 6) pe_int (fun _ _ => rfl)) (pa_cons (pe_ix ix_list (pv 6) pe_int (fun _ _ => rfl)) pa_nil)))))
    (pss_cons (ps_if (PW.pt (pw_or (pt_not (pt_val (pe_own C_law_whole (hr.mono (by decide)) rfl (pa_cons (pv 9) pa_nil)))) (pw_or1 (pt_cmpR op_ne (pv 9) (pe_op op_sub (pe_callTy call_int1 (by rfl) T.m_int (by decide +kernel) (pa_cons (pe_cmpR op_gt (pv 10) pe_int (nomark _)) pa_nil)) (pe_callTy call_int1 (by rfl) T.m_int (by decide +kernel) (pa_cons (pe_cmpR op_lt (pv 10) pe_int (nomark _)) pa_nil))) (nomark _))))) (pss_one (ps_ret pe_bl)) pss_nil)
    (pss_cons (ps_set (i := 9) sc_law.nd rfl (Or.inl rfl) (pe_own C_meeting hr rfl (pa_cons (pv 2) (pa_cons (pv 3) pa_nil))))
    (pss_cons (ps_if (pt_cmpR op_eq (pe_op op_mul (pe_ix ix_tup (pv 2) pe_int (fun _ _ => rfl)) (pe_ix ix_tup (pv 3) pe_int (fun _ _ => rfl))) (pe_op op_mul (pe_ix ix_tup (pv 2) pe_int (fun _ _ => rfl)) (pe_ix ix_tup (pv 3) pe_int (fun _ _ => rfl))) (nomark _)) (pss_one (ps_ret (pe_cmpR op_isN (pv 9) pe_non (nomark _)))) pss_nil)
    (pss_cons (ps_if (PW.pt (pw_or (pt_cmpR op_isN (pv 9) pe_non (nomark _)) (pw_or1 (pt_not (pt_val (pe_own C_law_good_spot (hr.mono (by decide)) rfl (pa_cons (pv 9) pa_nil))))))) (pss_one (ps_ret pe_bl)) pss_nil)
    (pss_cons (ps_for PassesOwn.never rfl (pi_tup (pe_tup (pa_cons (pv 2) (pa_cons (pv 3) pa_nil)))) (pg_name (i := 11) sc_law.nd rfl (Or.inl rfl))
    (pss_one (ps_if (pt_cmpR op_ne (pe_op op_add (pe_op op_mul (pe_ix ix_tup (pv 11) pe_int (fun _ _ => rfl)) (pe_ix ix_tup (pv 9) pe_int (fun _ _ => rfl))) (pe_op op_mul (pe_ix ix_tup (pv 11) pe_int (fun _ _ => rfl)) (pe_ix ix_tup (pv 9) pe_int (fun _ _ => rfl)))) (pe_op op_mul (pe_ix ix_tup (pv 11) pe_int (fun _ _ => rfl)) (pe_ix ix_tup (pv 9) pe_int (fun _ _ => rfl))) (nomark _)) (pss_one (ps_ret pe_bl)) pss_nil)))
    (pss_one (ps_ret pe_bl)))))))))))))))))), ?_⟩)
  · obtain ⟨a, ns, rfl, _⟩ := h
    rfl
  · obtain ⟨a, ns, rfl, hS, hlen, q⟩ := h
    refine ⟨.ref a, rfl, a, ns, 0, rfl, hS, Int.le_refl 0, _, rfl, fun n n1 n2 => gName_go ?_⟩
    refine ⟨.ref a, rfl, a, ns, 1, rfl, hS, by decide, _, rfl, _, n, rfl, n1, n2, fun H1 p1 a1 b1 c1 s1 np1 h1 f1 => gName_go ?_⟩
    refine ⟨.ref a, rfl, a, ns, 2, rfl, s1.seq hS, by decide, _, rfl, _, n, rfl, n1, n2, fun H2 p2 a2 b2 c2 s2 np2 h2 f2 => gName_go ?_⟩
    have t2 := s1.trans s2
    refine ⟨.ref a, rfl, a, ns, 3, rfl, t2.seq hS, by decide, gName_go ?_⟩
    refine if_cut (fun σ H' => ∃ (p2 : Addr) (a2 b2 c2 : Int) (x5 : Option V), σ = [some (.ref a), some (.int n), some (.ref p1), some (.ref p2), some (.int (cell ns 3)), x5, none, none, none, none, none, none] ∧ Same H2 H' ∧ H' p2 = some (.tup [.int a2, .int b2, .int c2]) ∧ FenceI a2 b2 c2) ?_ ?_
    · rintro σ H3 ⟨p2, a2, b2, c2, x5, rfl, s3, h2, f2⟩
      have t3 := t2.trans s3
      have h1' : H3 p1 = some (.tup [.int a1, .int b1, .int c1]) := s3 _ _ (s2 _ _ h1)
      refine ⟨Nat.zero_le _, fun l hl => gName_go ?_⟩
      -- the three spots
      refine ⟨3, rfl, by decide, by decide, for_range (lo := 0) (n := 3) (fun i σ H' => ∃ (x7 : Option V) (ps : List Addr), σ = [some (.ref a), some (.int n), some (.ref p1), some (.ref p2), some (.int (cell ns 3)), x5, some (.ref l), x7, none, none, none, none] ∧ Same H3 H' ∧ H' l = some (.lst (ps.map V.ref)) ∧ ps.length = i ∧ ∀ p ∈ ps, ∃ x y b, SpotAt 100 H' p x y b)
        ⟨none, [], rfl, same_upd hl, upd_same, rfl, fun p hp => absurd hp List.not_mem_nil⟩ ?_ ?_⟩
      · rintro i σ H4 hi ⟨x7, ps, rfl, s4, hl4, hps, hsp⟩
        have cm : ∀ k : Int, CMul 2 k := fun k => .inl ⟨by decide, by decide⟩
        refine ⟨_, rfl, .inl ⟨rfl, _, .inl (.inl hl4)⟩, .ref a, rfl, _, rfl, 2, _, rfl, rfl, cm _, _, _, rfl, rfl, a, ns, _, rfl, (t3.trans s4).seq hS, by omega, .ref a, rfl, _, rfl, 2, _, rfl, rfl, cm _, _, _, rfl, rfl, a, ns, _, rfl, (t3.trans s4).seq hS, by omega, ?_⟩
        refine ⟨_, rfl, _, _, n, rfl, n1, n2, fun H5 p x y b s5 np sp => ⟨l, _, _, rfl, rfl, s5 _ _ hl4, ?_, ?_⟩⟩
        · rw [List.length_map, hps]
          exact small1000 (by omega)
        · have nl : ∀ {b : Addr} {xs : List V}, H5 b = some (.tup xs) → b ≠ l := fun e => ne_of e (s5 _ _ hl4) (by intro z; cases z)
          refine ⟨_, ps ++ [p], rfl, fun b o e => ?_, ?_, by rw [List.length_append, hps]; rfl, ?_⟩
          · have nb : b ≠ l := ne_of_none e hl
            rw [upd_ne nb]
            exact s5 _ _ (s4 _ _ e)
          · rw [upd_same, List.map_append]
            rfl
          · intro r hr
            rcases List.mem_append.mp hr with m | m
            · obtain ⟨x', y', b', sp'⟩ := hsp r m
              exact ⟨x', y', b', (upd_ne (nl (s5 _ _ sp'.at_))).trans (s5 _ _ sp'.at_), sp'.low, sp'.sz⟩
            · have e : r = p := by simpa using m
              subst e
              exact ⟨x, y, b, (upd_ne (nl sp.at_)).trans sp.at_, sp.low, sp.sz⟩
      · rintro σ H4 ⟨x7, ps, rfl, s4, hl4, hps, hsp⟩
        obtain ⟨q0, q1, q2, rfl⟩ : ∃ q0 q1 q2, ps = [q0, q1, q2] := by
          match ps, hps with
          | [q0, q1, q2], _ => exact ⟨q0, q1, q2, rfl⟩
        obtain ⟨x0, y0, d0, sp0⟩ := hsp q0 (by simp)
        obtain ⟨x1, y1, d1, sp1⟩ := hsp q1 (by simp)
        obtain ⟨x2, y2, d2, sp2⟩ := hsp q2 (by simp)
        have t4 := t3.trans s4
        have hL4 : SqL K H4 l [.ref q0, .ref q1, .ref q2] := SqL.of hl4
        refine ⟨_, rfl, .ref a, rfl, a, ns, 10, rfl, t4.seq hS, by decide, l, q0, q1, q2, _, _, _, _, _, _, _, _, _, _, rfl, hL4, sp0, sp1, sp2, fun H7 p x y d s7 sp => ?_⟩
        have hl7 := s7 _ _ hl4
        refine ⟨_, rfl, l, _, 2, 2, rfl, rfl, hl7, rfl, ?_⟩
        have nl : ∀ {b : Addr} {xs : List V}, H7 b = some (.tup xs) → upd H7 l (.lst [.ref q0, .ref q1, .ref p]) b = some (.tup xs) := fun e => (upd_ne (ne_of e hl7 (by intro z; cases z))).trans e
        have up : ∀ {m : Nat} {b : Addr} {x y d : Int}, SpotAt m H7 b x y d → m ≤ 300 → SpotAt 300 (upd H7 l (.lst [.ref q0, .ref q1, .ref p])) b x y d := fun s h => ⟨nl s.at_, s.low, s.sz.mono h⟩
        have k0 := up (sp0.up s7) (by decide)
        have k1 := up (sp1.up s7) (by decide)
        have k2 := up sp (by decide)
        have kf1 : (upd H7 l (.lst [.ref q0, .ref q1, .ref p])) p1 = some (.tup [.int a1, .int b1, .int c1]) := nl (s7 _ _ (s4 _ _ h1'))
        have kf2 : (upd H7 l (.lst [.ref q0, .ref q1, .ref p])) p2 = some (.tup [.int a2, .int b2, .int c2]) := nl (s7 _ _ (s4 _ _ h2))
        have kl : (upd H7 l (.lst [.ref q0, .ref q1, .ref p])) l = some (.lst [.ref q0, .ref q1, .ref p]) := upd_same
        clear nl up
        obtain ⟨H8, e8⟩ : ∃ H8, H8 = upd H7 l (.lst [.ref q0, .ref q1, .ref p]) := ⟨_, rfl⟩
        refine nx_as H8 (by rw [e8]; rfl) ?_
        rw [← e8] at k0 k1 k2 kf1 kf2 kl
        clear e8
        have hL : SqL K H8 l [.ref q0, .ref q1, .ref p] := SqL.of kl
        have T1 : Tri K H8 p1 a1 b1 c1 := SqT.of kf1
        have T2 : Tri K H8 p2 a2 b2 c2 := SqT.of kf2
        have z1 := f1.sz.mono (show 100 ≤ 1000 by decide)
        have z2 := f2.sz.mono (show 100 ≤ 1000 by decide)
        refine ⟨_, rfl, l, rfl, ⟨_, hL⟩, for_list (xs := [.ref q0, .ref q1, .ref p]) (fun i σ H' => H8 = H' ∧ ∃ x8 x9, σ = [some (.ref a), some (.int n), some (.ref p1), some (.ref p2), some (.int (cell ns 3)), x5, some (.ref l), x7, x8, x9, none, none])
          ⟨rfl, none, none, rfl⟩ (fun i σ H' _ z => by rw [← z.1]; exact hL) ?_ ?_⟩
        · rintro i v σ H' hi ⟨rfl, x8, x9, rfl⟩
          obtain ⟨r, u, v', d', rfl, sr⟩ : ∃ r x y d, v = .ref r ∧ SpotAt 300 H8 r x y d := by
            match i, hi with
            | 0, hi => exact ⟨q0, _, _, _, (Option.some.inj hi).symm, k0⟩
            | 1, hi => exact ⟨q1, _, _, _, (Option.some.inj hi).symm, k1⟩
            | 2, hi => exact ⟨p, _, _, _, (Option.some.inj hi).symm, k2⟩
          have Tr : Tri K H8 r u v' d' := SqT.of sr.at_
          refine ⟨_, rfl, _, rfl, p1, r, a1, b1, c1, u, v', d', rfl, T1, Tr, z1, sr.sz.mono (by decide), gName_go ?_⟩
          refine ⟨_, rfl, _, rfl, .int _, _, rfl, iteF ?_⟩
          obtain ⟨m1, m2, m3⟩ := f1.ml u v' d'
          refine ⟨_, rfl, _, rfl, p1, _, 0, .int a1, rfl, rfl, T1, rfl, _, rfl, r, _, 0, .int u, rfl, rfl, Tr, rfl, _, _, rfl, rfl, m1, ?_⟩
          refine ⟨_, rfl, p1, _, 1, .int b1, rfl, rfl, T1, rfl, _, rfl, r, _, 1, .int v', rfl, rfl, Tr, rfl, _, _, rfl, rfl, m2, _, _, rfl, rfl, ?_⟩
          refine ⟨_, rfl, p1, _, 2, .int c1, rfl, rfl, T1, rfl, _, rfl, r, _, 2, .int d', rfl, rfl, Tr, rfl, _, _, rfl, rfl, m3, _, _, rfl, rfl, rfl, _, rfl, ?_⟩
          exact iteNS rfl ⟨rfl, _, _, rfl⟩
        · rintro σ H' ⟨rfl, x8, x9, rfl⟩
          have T0 : Tri K H8 q0 x0 y0 d0 := SqT.of k0.at_
          have T3 : Tri K H8 q1 x1 y1 d1 := SqT.of k1.at_
          have T4 : Tri K H8 p x y d := SqT.of k2.at_
          have w0 := k0.sz.mono (show 300 ≤ 1000 by decide)
          have w1 := k1.sz.mono (show 300 ≤ 1000 by decide)
          have w2 := k2.sz.mono (show 300 ≤ 1000 by decide)
          refine ⟨_, rfl, l, _, 0, .ref q0, rfl, rfl, hL, rfl, _, rfl, l, _, 1, .ref q1, rfl, rfl, hL, rfl, _, rfl, l, _, 2, .ref p, rfl, rfl, hL, rfl, q0, q1, p, _, _, _, _, _, _, _, _, _, rfl, T0, T3, T4, w0, w1, w2, ?_⟩
          obtain ⟨t, ht⟩ : ∃ t, t = triI x0 y0 d0 x1 y1 d1 x y d := ⟨_, rfl⟩
          refine gName_as (.int t) (by rw [ht] <;> rfl) ?_
          refine ⟨_, rfl, l, _, 0, .ref q0, rfl, rfl, hL, rfl, _, rfl, l, _, 1, .ref q1, rfl, rfl, hL, rfl, _, rfl, l, _, 2, .ref p, rfl, rfl, hL, rfl, q0, q1, p, _, _, _, _, _, _, _, _, _, rfl, T0, T3, T4, w0, w1, w2, ?_⟩
          refine gName_as (.int (sgn t)) (by rw [ht]) ?_
          clear ht
          refine ⟨_, rfl, .int _, rfl, .int _, _, rfl, iteF ?_⟩
          refine ⟨_, rfl, _, rfl, _, _, rfl, rfl, .inr ⟨_, rfl, _, rfl, _, _, rfl, rfl, .inr ⟨_, rfl, _, _, rfl, rfl, rfl, _, rfl, ?_⟩⟩⟩
          refine iteNS (congrArg V.int (sgn_eq t)) (next_go ?_)
          -- the meeting
          obtain ⟨m1, m2, m3⟩ := f1.ml b2 a2 0
          have test : ∀ {A B : Prop}, (a1 * b2 - b1 * a2 = 0 → A) → (a1 * b2 - b1 * a2 ≠ 0 → B) → (if decide (V.int (a1 * b2) = V.int (b1 * a2)) = true then A else B) := fun hA hB =>
            ite2 (fun e => hA (by have := V.int.inj (of_decide_eq_true e); omega)) (fun e => hB (fun z => e (decide_eq_true (congrArg V.int (by omega)))))
          refine ⟨_, rfl, _, rfl, p1, p2, _, _, _, _, _, _, rfl, T1, T2, z1, z2, fun e0 => gName_go ?_, fun n0 X Y B l2 low o1 o2 _ _ hl2 => gName_go ?_⟩
          · refine ⟨_, rfl, p1, _, 0, .int a1, rfl, rfl, T1, rfl, _, rfl, p2, _, 1, .int b2, rfl, rfl, T2, rfl, _, _, rfl, rfl, m1, ?_⟩
            refine ⟨_, rfl, p1, _, 1, .int b1, rfl, rfl, T1, rfl, _, rfl, p2, _, 0, .int a2, rfl, rfl, T2, rfl, _, _, rfl, rfl, m2, rfl, _, rfl, ?_⟩
            exact test (fun _ => ⟨_, rfl, rfl, q _⟩) (fun n0 => absurd e0 n0)
          · have s9 : Same H8 (upd H8 l2 (.tup [.int X, .int Y, .int B])) := same_upd hl2
            have T1 : Tri K (upd H8 l2 (.tup [.int X, .int Y, .int B])) p1 a1 b1 c1 := SqT.of (s9 _ _ kf1)
            have T2 : Tri K (upd H8 l2 (.tup [.int X, .int Y, .int B])) p2 a2 b2 c2 := SqT.of (s9 _ _ kf2)
            refine ⟨_, rfl, p1, _, 0, .int a1, rfl, rfl, T1, rfl, _, rfl, p2, _, 1, .int b2, rfl, rfl, T2, rfl, _, _, rfl, rfl, m1, ?_⟩
            refine ⟨_, rfl, p1, _, 1, .int b1, rfl, rfl, T1, rfl, _, rfl, p2, _, 0, .int a2, rfl, rfl, T2, rfl, _, _, rfl, rfl, m2, rfl, _, rfl, ?_⟩
            refine test (fun e0 => absurd e0 n0) (fun _ => next_go ?_)
            refine ⟨_, rfl, rfl, _, rfl, iteF ?_⟩
            refine ⟨_, rfl, l2, X, Y, B, rfl, upd_same, _, rfl, ?_⟩
            rw [decide_eq_true low]
            refine iteF (next_go ?_)
            -- both lines go through it
            refine ⟨_, rfl, _, rfl, by show 2 ≤ sizeLine; decide, fun tp htp => ?_⟩
            have s10 := same_upd (o := .tup [.ref p1, .ref p2]) htp
            have hTp : SqT K (upd (upd H8 l2 (.tup [.int X, .int Y, .int B])) tp (.tup [.ref p1, .ref p2])) tp [.ref p1, .ref p2] := SqT.of upd_same
            have TF : Tri K (upd (upd H8 l2 (.tup [.int X, .int Y, .int B])) tp (.tup [.ref p1, .ref p2])) l2 X Y B := SqT.of (s10 _ _ upd_same)
            have U1 : Tri K (upd (upd H8 l2 (.tup [.int X, .int Y, .int B])) tp (.tup [.ref p1, .ref p2])) p1 a1 b1 c1 := SqT.of (s10 _ _ (s9 _ _ kf1))
            have U2 : Tri K (upd (upd H8 l2 (.tup [.int X, .int Y, .int B])) tp (.tup [.ref p1, .ref p2])) p2 a2 b2 c2 := SqT.of (s10 _ _ (s9 _ _ kf2))
            generalize upd (upd H8 l2 (.tup [.int X, .int Y, .int B])) tp (.tup [.ref p1, .ref p2]) = H10 at *
            refine ⟨tp, rfl, ⟨_, hTp⟩, for_tup (xs := [.ref p1, .ref p2]) (fun i σ H' => H10 = H' ∧ ∃ x11, σ = [some (.ref a), some (.int n), some (.ref p1), some (.ref p2), some (.int (cell ns 3)), x5, some (.ref l), x7, x8, some (.ref l2), some (.int t), x11])
              ⟨rfl, none, rfl⟩ (fun i σ H' _ z => by rw [← z.1]; exact hTp) ?_ ?_⟩
            · rintro i v σ H' hi ⟨rfl, x11, rfl⟩
              obtain ⟨r, a', b', c', rfl, fr, Tr, eq⟩ : ∃ r a' b' c', v = .ref r ∧ FenceI a' b' c' ∧ Tri K H10 r a' b' c' ∧ a' * X + b' * Y = c' * B := by
                match i, hi with
                | 0, hi => exact ⟨p1, _, _, _, (Option.some.inj hi).symm, f1, U1, o1⟩
                | 1, hi => exact ⟨p2, _, _, _, (Option.some.inj hi).symm, f2, U2, o2⟩
              obtain ⟨m1, m2, m3⟩ := fr.ml X Y B
              refine ⟨_, rfl, r, _, 0, .int a', rfl, rfl, Tr, rfl, _, rfl, l2, _, 0, .int X, rfl, rfl, TF, rfl, _, _, rfl, rfl, m1, ?_⟩
              refine ⟨_, rfl, r, _, 1, .int b', rfl, rfl, Tr, rfl, _, rfl, l2, _, 1, .int Y, rfl, rfl, TF, rfl, _, _, rfl, rfl, m2, _, _, rfl, rfl, ?_⟩
              refine ⟨_, rfl, r, _, 2, .int c', rfl, rfl, Tr, rfl, _, rfl, l2, _, 2, .int B, rfl, rfl, TF, rfl, _, _, rfl, rfl, m3, rfl, _, rfl, ?_⟩
              exact iteNS (congrArg V.int eq) ⟨rfl, _, rfl⟩
            · rintro σ H' ⟨rfl, x11, rfl⟩
              exact q _
    · intro go
      refine ⟨_, rfl, _, _, rfl, rfl, (by show (0 : Int) < 4; decide), rfl, _, rfl, ite2 (fun z => ?_) (fun z => go _ _ ⟨p2, a2, b2, c2, none, rfl, Same.refl _, h2, f2⟩)⟩
      obtain ⟨v, hv, mem⟩ := menu_mem (xs := [V.int (-1), .int 1, .int 2, .int (-2), .int 3, .int (-3)]) (n := cell ns 3 / 4) (m := 6) (by decide) rfl
      obtain ⟨t, rfl, ht⟩ : ∃ t : Int, v = .int t ∧ (t = -1 ∨ t = 1 ∨ t = 2 ∨ t = -2 ∨ t = 3 ∨ t = -3) := by
        simp only [List.mem_cons, List.not_mem_nil, or_false] at mem
        rcases mem with e | e | e | e | e | e <;> exact ⟨_, e, by decide⟩
      refine ⟨1, rfl, 2, rfl, 3, rfl, by show 6 ≤ sizeLine; decide, fun l hl => ?_⟩
      have s3 := same_upd (o := .lst [V.int (-1), .int 1, .int 2, .int (-2), .int 3, .int (-3)]) hl
      refine ⟨_, rfl, _, _, rfl, rfl, ⟨by decide, by decide⟩, _, _, rfl, rfl, (by show (0 : Int) < 6; decide), l, _, _, _, rfl, rfl, SqL.of upd_same, hv, gName_go ?_⟩
      have T1 : Tri K (upd H2 l (.lst [V.int (-1), .int 1, .int 2, .int (-2), .int 3, .int (-3)])) p1 a1 b1 c1 := SqT.of (s3 _ _ (s2 _ _ h1))
      have T2 : Tri K (upd H2 l (.lst [V.int (-1), .int 1, .int 2, .int (-2), .int 3, .int (-3)])) p2 a2 b2 c2 := SqT.of (s3 _ _ h2)
      have stay := go _ _ ⟨p2, a2, b2, c2, some (.int t), rfl, s3, s3 _ _ h2, f2⟩
      refine ⟨_, rfl, p1, _, 0, .int a1, rfl, rfl, T1, rfl, a1, rfl, _, _, rfl, rfl, _, rfl, ite2 (fun e0 => ?_) (fun e0 => stay)⟩
      refine ⟨_, rfl, p1, _, 1, .int b1, rfl, rfl, T1, rfl, b1, rfl, _, _, rfl, rfl, _, rfl, ite2 (fun e1 => ?_) (fun e1 => stay)⟩
      have cm : ∀ k : Int, CMul t k := fun k => .inl ⟨by omega, by omega⟩
      refine ⟨_, rfl, _, rfl, p1, _, 0, .int a1, rfl, rfl, T1, rfl, _, _, rfl, rfl, cm _, ?_⟩
      refine ⟨_, rfl, _, rfl, p1, _, 1, .int b1, rfl, rfl, T1, rfl, _, _, rfl, rfl, cm _, ?_⟩
      refine ⟨_, rfl, p2, _, 2, .int c2, rfl, rfl, T2, rfl, by show 3 ≤ sizeLine; decide, fun r hr => ?_⟩
      exact go _ _ ⟨r, _, _, _, _, rfl, s3.trans (same_upd hr), upd_same, times_ok f1 (of_decide_eq_true e0) (of_decide_eq_true e1) f2.hc ht⟩
theorem law_all {fd : FuncData} (T : Txt K mg) (F : FnP K "law" s_law fd) : FnOk P w K mg base CX0 (3 + 1) (He.ga K "law") fd ["_law_script"] (sp_law K) := by
  have c1 : Good P w K mg base CX0 _ "is_number" ["value"] sp_num := ok_is_number T
  have c2 : Good P w K mg base CX0 _ "_law_whole" ["_law_thing"] sp_num := ok_law_whole T
  have c3 : Good P w K mg base (L2.CX P w) _ "spot_of" ["x", "y", "by"] (sp_spot_of K) := ok_spot_of T c1
  have c4 : Good P w K mg base CX0 _ "_law_shared" ["_law_one", "_law_other"] sp_shared := ok_law_shared T
  exact ok_law T F (ok_law_cell_at T) (ok_law_size_by T) (ok_law_fence_by T) (ok_law_spot_by T c4) (ok_law_third T c4) (ok_reach T) c2 (ok_law_turn T) (ok_turn T (ok_twice_triangle T)) (ok_meeting T c3) (ok_law_good_spot T c2 c4)

end
def fnL : List He.DefD := [⟨("is_number", none), "is_number", "is_number", defArgs s_is_number, defBody s_is_number, defScope s_is_number, [], []⟩,
  ⟨("spot_of", none), "spot_of", "spot_of", defArgs s_spot_of, defBody s_spot_of, defScope s_spot_of, [], []⟩,
  ⟨("_twice_triangle", none), "_twice_triangle", "_twice_triangle", defArgs s_twice_triangle, defBody s_twice_triangle, defScope s_twice_triangle, [], []⟩,
  ⟨("turn", none), "turn", "turn", defArgs s_turn, defBody s_turn, defScope s_turn, [], []⟩,
  ⟨("reach", none), "reach", "reach", defArgs s_reach, defBody s_reach, defScope s_reach, [], []⟩,
  ⟨("meeting", none), "meeting", "meeting", defArgs s_meeting, defBody s_meeting, defScope s_meeting, [], []⟩,
  ⟨("_law_cell_at", none), "_law_cell_at", "_law_cell_at", defArgs s_law_cell_at, defBody s_law_cell_at, defScope s_law_cell_at, [], []⟩,
  ⟨("_law_whole", none), "_law_whole", "_law_whole", defArgs s_law_whole, defBody s_law_whole, defScope s_law_whole, [], []⟩,
  ⟨("_law_shared", none), "_law_shared", "_law_shared", defArgs s_law_shared, defBody s_law_shared, defScope s_law_shared, [], []⟩,
  ⟨("_law_good_spot", none), "_law_good_spot", "_law_good_spot", defArgs s_law_good_spot, defBody s_law_good_spot, defScope s_law_good_spot, [], []⟩,
  ⟨("_law_size_by", none), "_law_size_by", "_law_size_by", defArgs s_law_size_by, defBody s_law_size_by, defScope s_law_size_by, [], []⟩,
  ⟨("_law_fence_by", none), "_law_fence_by", "_law_fence_by", defArgs s_law_fence_by, defBody s_law_fence_by, defScope s_law_fence_by, [], []⟩,
  ⟨("_law_spot_by", none), "_law_spot_by", "_law_spot_by", defArgs s_law_spot_by, defBody s_law_spot_by, defScope s_law_spot_by, [], []⟩,
  ⟨("_law_turn", none), "_law_turn", "_law_turn", defArgs s_law_turn, defBody s_law_turn, defScope s_law_turn, [], []⟩,
  ⟨("_law_third", none), "_law_third", "_law_third", defArgs s_law_third, defBody s_law_third, defScope s_law_third, [], []⟩,
  ⟨("law", none), "law", "law", defArgs s_law, defBody s_law, defScope s_law, [], []⟩]
def faL : List He.Fa := [.glo "is_number", .glo "spot_of", .glo "_twice_triangle", .glo "turn", .glo "reach", .glo "meeting", .glo "_law_cell_at", .glo "_law_whole", .glo "_law_shared", .glo "_law_good_spot", .glo "_law_size_by", .glo "_law_fence_by", .glo "_law_spot_by", .glo "_law_turn", .glo "_law_third", .glo "law", .free "abs", .free "bool", .free "int", .free "isinstance", .free "len", .free "max", .free "min", .free "range", .free "tuple", .glo "BadSpot", .exc "BadSpot"]
def exL (K : PySem.W.Frag) : Bool := bltB K "gcd" "math.gcd"
abbrev R : PySem.W.OpenRow := PySem.W.OpenLaw.row PySem.Challenge.rw_landlines_k03_reach_meeting_turn
abbrev hkL : PySem.W.Hook := He.hookX 4 faL fnL [] [] exL
def obL (s : PySem.W.SharedT) : He.AlX := He.obsX 4 faL fnL [] [] exL (HandSHeadRun.getT s)
theorem obL_eq (s : PySem.W.SharedT) : obL s = hkL.obs s.abs := He.obsX_eq (HandSHeadRun.getT_eq s)
def looseL : List Str := (["LandError", "BadSpot", "is_number", "spot_of", "turn", "_twice_triangle", "reach", "meeting", "_law_cell_at", "_law_whole", "_law_shared", "_law_good_spot", "_law_size_by", "_law_fence_by", "_law_spot_by", "_law_turn", "_law_third"] : List Str)
def vwL : Program := PySem.W.view R.prog [0, 23]
theorem runL (w : World) : HandSHeadRun.RunEqI R vwL hkL obL 3440 looseL w := by
  unfold HandSHeadRun.RunEqI
  kernel_rfl
theorem factsL {w : World} {K : PySem.W.Frag} {h : Heap} {mg : Str → Option Value} (X : K.In h) (G : h.Ns mainGlobals mg) (z : He.SaysX faL fnL [] [] exL w h K) : Txt K mg := by
  have c := z.t.d
  have m := z.more
  have x0 := m
  exact {
    d_is_number := c.def_ 0 (d := ⟨("is_number", none), "is_number", "is_number", defArgs s_is_number, defBody s_is_number, defScope s_is_number, [], []⟩) rfl
    g_is_number := He.glo_ok X G (c.fact 0 rfl)
    d_spot_of := c.def_ 1 (d := ⟨("spot_of", none), "spot_of", "spot_of", defArgs s_spot_of, defBody s_spot_of, defScope s_spot_of, [], []⟩) rfl
    g_spot_of := He.glo_ok X G (c.fact 1 rfl)
    d_twice_triangle := c.def_ 2 (d := ⟨("_twice_triangle", none), "_twice_triangle", "_twice_triangle", defArgs s_twice_triangle, defBody s_twice_triangle, defScope s_twice_triangle, [], []⟩) rfl
    g_twice_triangle := He.glo_ok X G (c.fact 2 rfl)
    d_turn := c.def_ 3 (d := ⟨("turn", none), "turn", "turn", defArgs s_turn, defBody s_turn, defScope s_turn, [], []⟩) rfl
    g_turn := He.glo_ok X G (c.fact 3 rfl)
    d_reach := c.def_ 4 (d := ⟨("reach", none), "reach", "reach", defArgs s_reach, defBody s_reach, defScope s_reach, [], []⟩) rfl
    g_reach := He.glo_ok X G (c.fact 4 rfl)
    d_meeting := c.def_ 5 (d := ⟨("meeting", none), "meeting", "meeting", defArgs s_meeting, defBody s_meeting, defScope s_meeting, [], []⟩) rfl
    g_meeting := He.glo_ok X G (c.fact 5 rfl)
    d_law_cell_at := c.def_ 6 (d := ⟨("_law_cell_at", none), "_law_cell_at", "_law_cell_at", defArgs s_law_cell_at, defBody s_law_cell_at, defScope s_law_cell_at, [], []⟩) rfl
    g_law_cell_at := He.glo_ok X G (c.fact 6 rfl)
    d_law_whole := c.def_ 7 (d := ⟨("_law_whole", none), "_law_whole", "_law_whole", defArgs s_law_whole, defBody s_law_whole, defScope s_law_whole, [], []⟩) rfl
    g_law_whole := He.glo_ok X G (c.fact 7 rfl)
    d_law_shared := c.def_ 8 (d := ⟨("_law_shared", none), "_law_shared", "_law_shared", defArgs s_law_shared, defBody s_law_shared, defScope s_law_shared, [], []⟩) rfl
    g_law_shared := He.glo_ok X G (c.fact 8 rfl)
    d_law_good_spot := c.def_ 9 (d := ⟨("_law_good_spot", none), "_law_good_spot", "_law_good_spot", defArgs s_law_good_spot, defBody s_law_good_spot, defScope s_law_good_spot, [], []⟩) rfl
    g_law_good_spot := He.glo_ok X G (c.fact 9 rfl)
    d_law_size_by := c.def_ 10 (d := ⟨("_law_size_by", none), "_law_size_by", "_law_size_by", defArgs s_law_size_by, defBody s_law_size_by, defScope s_law_size_by, [], []⟩) rfl
    g_law_size_by := He.glo_ok X G (c.fact 10 rfl)
    d_law_fence_by := c.def_ 11 (d := ⟨("_law_fence_by", none), "_law_fence_by", "_law_fence_by", defArgs s_law_fence_by, defBody s_law_fence_by, defScope s_law_fence_by, [], []⟩) rfl
    g_law_fence_by := He.glo_ok X G (c.fact 11 rfl)
    d_law_spot_by := c.def_ 12 (d := ⟨("_law_spot_by", none), "_law_spot_by", "_law_spot_by", defArgs s_law_spot_by, defBody s_law_spot_by, defScope s_law_spot_by, [], []⟩) rfl
    g_law_spot_by := He.glo_ok X G (c.fact 12 rfl)
    d_law_turn := c.def_ 13 (d := ⟨("_law_turn", none), "_law_turn", "_law_turn", defArgs s_law_turn, defBody s_law_turn, defScope s_law_turn, [], []⟩) rfl
    g_law_turn := He.glo_ok X G (c.fact 13 rfl)
    d_law_third := c.def_ 14 (d := ⟨("_law_third", none), "_law_third", "_law_third", defArgs s_law_third, defBody s_law_third, defScope s_law_third, [], []⟩) rfl
    g_law_third := He.glo_ok X G (c.fact 14 rfl)
    d_law := c.def_ 15 (d := ⟨("law", none), "law", "law", defArgs s_law, defBody s_law, defScope s_law, [], []⟩) rfl
    g_law := He.glo_ok X G (c.fact 15 rfl)
    m_abs := He.free_ok X G (c.fact 16 rfl)
    m_bool := He.free_ok X G (c.fact 17 rfl)
    m_int := He.free_ok X G (c.fact 18 rfl)
    m_isinstance := He.free_ok X G (c.fact 19 rfl)
    m_len := He.free_ok X G (c.fact 20 rfl)
    m_max := He.free_ok X G (c.fact 21 rfl)
    m_min := He.free_ok X G (c.fact 22 rfl)
    m_range := He.free_ok X G (c.fact 23 rfl)
    m_tuple := He.free_ok X G (c.fact 24 rfl)
    BadSpot := ExcF.mk' X G (c.fact 25 rfl) (c.fact 26 rfl)
    gcd := bltB_ok X G x0
  }
end LL
open PySem PySem.W PySem.Calls PyProof.Rows
theorem PySem.Challenge.cw_landlines_k03_reach_meeting_turn_holds : PySem.Challenge.rw_landlines_k03_reach_meeting_turn.Holds := by
  w_on; o_law
  refine HandSHeadRun.head_imp (r := OpenLaw.row PySem.Challenge.rw_landlines_k03_reach_meeting_turn) (q := LL.vwL) (H := LL.hkL) (ob := LL.obL) (M := 3440) (loose := LL.looseL) (d := HandSHeadRun.topDef (OpenLaw.row PySem.Challenge.rw_landlines_k03_reach_meeting_turn).prog 23) (kwd := []) LL.obL_eq
    LL.runL (by kernel_rfl) (by kernel_rfl) (by kernel_rfl) (by rfl) (by first | assumption | decide +kernel) (by decide +kernel) ⟨rfl, rfl, rfl, rfl, rfl, by decide +kernel⟩ ?hw ?hc
  case hw => w_witness2
  case hc =>
    refine L2.walk_ofE (l := PySem.Challenge.rw_landlines_k03_reach_meeting_turn) (n := 63) (k := 4) (x := "_law_script") (CX := L2.CX0) rfl (by decide) (by kernel_rfl) ⟨rfl, by decide, by decide⟩ ?F (fun _ _ _ _ z => z)
    intro w mg fa h Y G hmg0
    obtain ⟨K, KX, c⟩ := Y
    have hmg : mg ("law" : PySem.Str) = some (.ref fa) := by
      have e : (HandSHeadRun.topDef (OpenLaw.row PySem.Challenge.rw_landlines_k03_reach_meeting_turn).prog 23).name = ("law" : PySem.Str) := by kernel_rfl
      rw [← e]
      exact hmg0
    have T := LL.factsL KX G c
    have e := hmg.symm.trans T.g_law
    cases e
    obtain ⟨fd, F⟩ := T.d_law
    have b := L2.FunD.bindsA (ps := ["_law_script"]) F fun _ _ _ _ _ _ us hl => match us, hl with | [_], _ => rfl
    exact ⟨K, fd, LL.sp_law K, KX, fun s v => b s [v] rfl, fun H a ns hl _ hS => ⟨a, ns, rfl, hS, hl, fun _ => rfl⟩, fun base _ _ => LL.law_all T F⟩
