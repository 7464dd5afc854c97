import PyProof.Rows.All
import Wide.All
import OpenK.AllK
import Wide.FinOn
import KE.KStateDown
import HandS.ForMost
import HandS.ForExc
import HandS.More
import HandS.Defaults
import HandS.Head0
import HandS.Head1
import HandS.Head2
import HandS.HeadEnd
import HandS.HeadHook1
import HandS.HeadHook2
import HandS.ExcInit
import HandS.TryMany
import HandS.IsInst
import HandS.Wide
import HandS.Style
import HandS.Flow
import HandS.Zip
import HandS.Small
import HandS.Evl
import PyProof.StrBlock2
import KE.GoesEnum
import PyProof.LongRange
import HandS.ExcField
import HandS.OwnEq
import HandS.Text
import HandS.TupAny
import HandS.TupMul
import HandS.Steps
import PySem.Challenge.RW_guessedworlds_k02_grounds_judged_and_ope
set_option Elab.async false
set_option linter.all false
set_option maxRecDepth 100000
set_option maxHeartbeats 4000000
namespace Gw
open PySem PySem.Spec PyProof.Rows L2 He
/-! ### what the head is asked: tests of one's own, and the defs -/
abbrev Fx : Type := PySem.W.Frag → Bool
abbrev AlX : Type := Bool × AlD
def obX (n : Nat) (fx : List Fx) (fn : List DefD) (g : Addr → Option Obj) : AlX := (fx.all (fun f => f (frG g (asD g n))), obsDG n [] fn g)
structure SaysX (fx : List Fx) (fn : List DefD) (K : PySem.W.Frag) : Prop where
  tests : fx.all (fun f => f K) = true
  defs : SaysD [] fn K
def hookX (n : Nat) (fx : List Fx) (fn : List DefD) : PySem.W.Hook :=
  { α := AlX, obs := fun s => obX n fx fn s.heap.get?, val := fun _ => (true, valD fn), says := fun _ h => ∃ K : PySem.W.Frag, K.In h ∧ SaysX fx fn K,
    of := fun _ s e => Exists.intro (frG s.heap.get? (asD s.heap.get? n)) (And.intro frG_in { tests := congrArg Prod.fst e, defs := congrArg Prod.snd e }),
    keeps := fun _ _ _ p kp => p.elim fun K z => ⟨K, z.1.keeps kp, z.2⟩ }
theorem obX_eq {n : Nat} {fx : List Fx} {fn : List DefD} {g : Addr → Option Obj} {s : Shared} (h : ∀ a, g a = s.heap.get? a) : obX n fx fn g = (hookX n fx fn).obs s := by
  obtain rfl : g = s.heap.get? := funext h
  rfl
theorem SaysX.fact {fx : List Fx} {fn : List DefD} {K : PySem.W.Frag} (c : SaysX fx fn K) (i : Nat) {f : Fx} (h : fx[i]? = some f := by rfl) : f K = true :=
  List.all_eq_true.mp c.tests f (List.mem_of_getElem? h)
theorem SaysX.def_ {fx : List Fx} {fn : List DefD} {K : PySem.W.Frag} (c : SaysX fx fn K) (i : Nat) {d : DefD} (h : fn[i]? = some d := by rfl) :
    ∃ fd, FunD K d.name d.qual d.params d.body d.scope (d.dvs K) (d.kws K) (fAd K d.at_) fd := c.defs.def_ i h
/-! ### a def of the top, a method -/
def fdAt (K : PySem.W.Frag) (f : Addr) : FuncData := match K.lookup f with
  | some ⟨_, _, .func fd, _⟩ => fd
  | _ => PySem.W.fnOf "" "" { posonlyargs := [], args := [], vararg := none, kwonlyargs := [], kw_defaults := [], kwarg := none, defaults := [] } [] { kind := .function, names := [], isGenerator := false, isCoroutine := false } .none .none .none .none none .none .none
theorem fdAt_of {K : PySem.W.Frag} {x q : Str} {pa : Arguments} {bo : List Stmt} {sc : Scope} {dvs : List V} {kws : List (Str × V)} {f : Addr} {fd : FuncData} (F : FunD K x q pa bo sc dvs kws f fd) : fdAt K f = fd := by
  obtain ⟨oc, od, dV, kV, doc, pm, an, cdv, ct, osl, e, lk, _⟩ := F.ex
  unfold fdAt
  rw [lk]
structure Dk (K : PySem.W.Frag) (mg : Str → Option Value) (x : Str) (st : Stmt) (ps : List Str) : Prop where
  F : FunD K x x (defArgs st) (defBody st) (defScope st) [] [] (ga K x) (fdAt K (ga K x))
  g : mg x = some (.ref (ga K x))
  b : Binds K (fdAt K (ga K x)) ps []
abbrev gloX (x : Str) : Fx := fun K => (Fa.glo x).ok K
abbrev freeX (x : Str) : Fx := fun K => (Fa.free x).ok K
abbrev intX (x : Str) (i : Int) : Fx := fun K => (Fa.int x i).ok K
abbrev strX (x z : Str) : Fx := fun K => (Fa.str x z).ok K
abbrev exmX (x y : Str) (b : Bool) : Fx := fun K => (Fa.exm x y b).ok K
/-- an own exception class, ValueError's tail behind own classes -/
def oexB (K : PySem.W.Frag) (C : Addr) : Bool := (match K.lookup C with
    | some ⟨.type "type", _, .cls cd, sl⟩ => (match cd.mro, sl.toList with
      | .ref C' :: bm, [_, _, _, _, some (.builtin n), _] => C' == C && (n == "ValueError.__new__" && (!cd.hasDel && (cd.hasDict && PySem.HandSPX.refsVE bm)))
      | _, _ => false)
    | _ => false) && (eqO (PySem.W.findIn K (.ref C) "__setattr__") (some (some (.builtin "object.__setattr__"))) && (decide (PySem.W.subIn K (.ref C) (.type "BaseException") = some true) && (decide (PySem.W.typeIn K (.ref C) = some (.type "type")) && PySem.W.keepIn K (.ref C))))
theorem oex_ok {K : PySem.W.Frag} {C : Addr} (h : oexB K C = true) : OexC K C := by
  obtain ⟨h1, h⟩ := ba h
  obtain ⟨h2, h⟩ := ba h
  obtain ⟨h3, h⟩ := ba h
  obtain ⟨h4, h5⟩ := ba h
  refine ⟨?_, eqO_ok h2, of_decide_eq_true h3, of_decide_eq_true h4, h5⟩
  split at h1
  · rename_i dd cd sl ho
    split at h1
    · rename_i C' bm k0 k1 k2 k3 n k5 hm hs
      simp only [Bool.and_eq_true, beq_iff_eq, Bool.not_eq_true'] at h1
      obtain ⟨rfl, rfl, hdel, hdict, ht⟩ := h1
      obtain ⟨nm, bs, mro, ns, qn, hd, sn, sub, ab, col, del⟩ := cd
      dsimp only at hm hdel hdict
      subst hm hdel hdict
      have hsl : sl = #[k0, k1, k2, k3, some (.builtin "ValueError.__new__"), k5] := by
        obtain ⟨l⟩ := sl
        simp only at hs
        rw [hs]
      subst hsl
      exact ⟨nm, qn, ns, bs, bm, sn, sub, ab, col, dd, k0, k1, k2, k3, k5, ho, ht⟩
    · cases h1
  · cases h1
/-- its __init__, a def: the address -/
def initB (K : PySem.W.Frag) (C f : Addr) : Bool := eqO (PySem.W.findIn K (.ref C) "__init__") (some (some (.ref f))) && decide (PySem.W.typeIn K (.ref f) = some (.type "function"))
theorem init_ok {K : PySem.W.Frag} {C f : Addr} (h : initB K C f = true) : PySem.W.findIn K (.ref C) "__init__" = some (some (.ref f)) ∧ PySem.W.typeIn K (.ref f) = some (.type "function") := by
  obtain ⟨h1, h2⟩ := ba h
  exact ⟨eqO_ok h1, of_decide_eq_true h2⟩
section
variable {P : Program} {w : World} {fr : List Addr} {H1 H2 : Hp} {hp h1 h2 G : Heap} {a C : Addr} {o : HO}
/-- an object that was laid on the way at a is let go again: the rest of what changed -/
theorem un_cut (ha : hp.objs.size ≤ a) (hn : H1 a = none) (k : ∀ b u, hp.get? b = some u → h1.get? b = some u) (u : Un fr [] (upd H1 a o) H2 h1 h2)
    (g : ∀ b, b ≠ a → G.get? b = h2.get? b) : Un fr [] H1 (del H2 a) hp G := by
  have away : ∀ b ob, hp.get? b = some ob → b ≠ a := fun b ob q e => by
    rw [e] at q
    exact absurd (Heap.lt_size q) (Nat.not_lt.mpr ha)
  have stay : ∀ b, b ≠ a → upd H1 a o b = H1 b := fun b nb => upd_ne nb
  have known : ∀ b q, H1 b = some q → b ≠ a := fun b q e z => by rw [z, hn] at e; cases e
  constructor
  case keep => intro b ob q n hf hx; rw [g b (away b ob q)]; exact u.keep b ob (k b ob q) ((stay b (away b ob q)).trans n) hf hx
  case slot => intro b ob q n hf hx; rw [g b (away b ob q)]; exact u.slot b ob (k b ob q) ((stay b (away b ob q)).trans n) hf hx
  case free => intro b ob q n hx; rw [del_ne (away b ob q)]; exact u.free b ob (k b ob q) ((stay b (away b ob q)).trans n) hx
  case there => intro b ob q hx; rw [g b (away b ob q)]; exact u.there b ob (k b ob q) hx
  case tups => intro b xs q; rw [del_ne (known b _ q)]; exact u.tups b xs ((stay b (known b _ q)).trans q)
  case frzs => intro b ob v q; rw [del_ne (known b _ q)]; exact u.frzs b ob v ((stay b (known b _ q)).trans q)
  case tbls => intro b ps q; rw [del_ne (known b _ q)]; exact u.tbls b ps ((stay b (known b _ q)).trans q)
theorem hok_cut (hok : HOk P w H2 h2) (e : H2 a = some (exo a C none)) (g : ∀ b, b ≠ a → G.get? b = h2.get? b) : HOk P w (del H2 a) G := by
  intro b q hb
  have nb : b ≠ a := by
    intro z
    rw [z, del_same] at hb
    cases hb
  rw [del_ne nb] at hb
  have nown : ∀ c, H2 c = some (.own b) → c ≠ a := fun c hc => at_ne e hc exo_own
  refine (hok b q hb).stay (fun c v hc hv => ?_) (fun c hc => by rw [del_ne (nown c hc)]; exact hc) (fun c xs hc => by rw [del_ne (at_ne e hc exo_tup)]; exact hc)
  rcases hc with rfl | hc
  · rw [g c nb]; exact hv
  · rw [g c (nown c hc)]; exact hv
end
section
variable {X : Cx}
/-- C(), its class's __init__ (own or inherited) keeping sp; no field is stored -/
def tMk0 (C : Addr) (sp : Sp) : L2.St → Hp → XK → Prop := fun _ H Q => ∀ a, H a = none →
  sp [.ref a] (upd H a (exo a C none)) (fun v H' => v = .non ∧ H' a = some (exo a C none) ∧ Q (.ref C) none (del H' a)) (fun _ _ _ => False)
/-- the raw frame of such a call, ahead of __init__ -/
abbrev mkHeap (hp : Heap) (C : Addr) : Heap := (hp.push (PySem.W.kdv_tup ([] : List Value))).push (PySem.HandSPX.excO C hp.objs.size)
theorem mkHeap_old {hp : Heap} {C b : Addr} {o : Obj} (e : hp.get? b = some o) : (mkHeap hp C).get? b = some o := by
  show ((hp.push _).push _).get? b = _
  exact Heap.get?_push_of_some _ (Heap.get?_push_of_some _ e)
theorem mkHeap_new {hp : Heap} {C : Addr} : (mkHeap hp C).get? (hp.objs.size + 1) = some (PySem.HandSPX.excO C hp.objs.size) := by
  show ((hp.push _).push _).get? _ = _
  heap_get
theorem pmk_oex0 {CX : CXT} {x : Str} {C fI : Addr} {k : Nat} {fd : FuncData} {ps : List Str} {sp : Sp} {p pos : Pos} (T : OexC X.K C)
    (hi : PySem.W.findIn X.K (.ref C) "__init__" = some (some (.ref fI)) ∧ PySem.W.typeIn X.K (.ref fI) = some (.type "function"))
    (G : FnOk X.prog X.w X.K X.mg X.base CX k fI fd ps sp) (hr : Room (k + 1) X.A) (hb : Binds X.K fd ps []) (hx : Passes CX X (fun _ _ _ => False)) (hm : X.mg x = some (.ref C)) (hg : Gl X x := by rfl)
    (hdb : (x == ("__debug__" : Str)) = false := by decide) : PMk X (.Call (.Name x p) [] [] pos) (tMk0 C sp) := by
  intro pins s σ H Q I h
  obtain ⟨_, _, _, _, bm, _, _, _, _, _, _, _, _, _, _, hC, hbm⟩ := T.cls
  refine wpAny_Call_Name_kw (ld_glob I hg hm (PySem.W.callWith_K0 I.kIn T.kC ?_) hdb)
  obtain ⟨hp, gens, dr, tk, os⟩ := s
  let a := hp.objs.size + 1
  have le : hp.objs.size ≤ a := by omega
  have hn : H a = none := I.hok.fresh le
  have I2 : Inv X pins σ (upd H a (exo a C none)) ⟨mkHeap hp C, gens, dr, tk, os⟩ :=
    I.laid (t' := tk) (a := a) (o := exo a C none) (h' := mkHeap hp C) (fun _ _ e => mkHeap_old e) le (exo_ok mkHeap_new)
  have q := h a hn
  have r : Vals [V.ref a] ([Value.ref a] ++ []) := .cons rfl .nil
  have hlen : ([Value.ref a] ++ ([] : List Value)).length = ps.length := r.length.symm.trans (G.len _ _ _ _ q)
  have go := G.run _ X.stack _ _ ⟨[Value.ref a], []⟩ _ _ _ (fun _ _ _ => False) (hr.make C [] []) (I2.env0.make C [] []) (hb _ [Value.ref a] I2.kIn hlen) r q
  refine wpAny_call (PySem.HandSPX.call_own F.excBase_ValueError (fun Y => PySem.HandSPX.refsVE_contains Y bm hbm) (I.kIn _ _ hC) (PySem.W.looks_findIn I.kIn hi.1) (fun self => PySem.W.bind_fn I.kIn self hi.2) (Nat.zero_le _) (codeAny_mono go fun res s' z => ?_))
  match res, z with
  | .error er, z => exact hx pins σ _ _ er s' I2 z
  | .ok (.ret u), z =>
    obtain ⟨v, H2, hos, bare, un, hok, rv, rfl, ea, fin⟩ := z
    obtain ⟨t0, hoe⟩ := exo_at hok ea
    obtain ⟨G', g1, g2⟩ := restrict s'.heap fun b => decide (b ≠ a)
    have gk : ∀ b, b ≠ a → G'.get? b = s'.heap.get? b := fun b nb => g1 b (decide_eq_true nb)
    have ge : G'.get? a = none := g2 a (by simp)
    have J : Inv X pins σ (del H2 a) { s' with heap := G' } := by
      obtain ⟨h2, gg, dd, tt, oo⟩ := s'
      exact I.call' (ch := []) hos (un_cut le hn (fun _ _ e => mkHeap_old e) un gk) (hok_cut hok ea gk) bare (fun b z => absurd z (by simp))
    refine ⟨rv, a, _, _, { s' with heap := G' }, _, .ref C, none, rfl, J, fun b ob e => ?_, ge, hoe, ⟨rfl, rfl⟩, rfl, rfl, del_same, rfl, bare, raises_own T.exC T.tyC, fin⟩
    by_cases nb : b = a
    · have e' : G'.get? b = some ob := e
      rw [nb, ge] at e'
      cases e'
    · rw [← gk b nb]
      exact e
end
end Gw
namespace Gw
open PySem PySem.Spec PyProof.Rows L2 He
structure Dm (K : PySem.W.Frag) (C m : Str) (st : Stmt) (ps : List Str) : Prop where
  F : FunD K m (C ++ ⟨#[46]⟩ ++ m) (defArgs st) (defBody st) (defScope st) [] [] (ma K (ga K C) m) (fdAt K (ma K (ga K C) m))
  b : Binds K (fdAt K (ma K (ga K C) m)) ps []
theorem dk_of {K : PySem.W.Frag} {mg : Str → Option Value} {x : Str} {st : Stmt} {ps : List Str} (h : ∃ fd, FunD K x x (defArgs st) (defBody st) (defScope st) [] [] (ga K x) fd) (g : mg x = some (.ref (ga K x)))
    (hb : ∀ (kV doc pm : Value) (an : Option Addr) (cdv ct : Value) (us : List Value), us.length = ps.length → bindArgs (PySem.W.fnOf x x (defArgs st) (defBody st) (defScope st) .none kV doc pm an cdv ct) ⟨us, []⟩ = pure (ps.zip us)) : Dk K mg x st ps := by
  obtain ⟨fd, F⟩ := h
  have e := fdAt_of F
  subst e
  exact ⟨F, g, F.bindsN hb⟩
theorem dm_of {K : PySem.W.Frag} {C m qn : Str} {st : Stmt} {ps : List Str} (h : ∃ fd, FunD K m qn (defArgs st) (defBody st) (defScope st) [] [] (ma K (ga K C) m) fd)
    (hb : ∀ (kV doc pm : Value) (an : Option Addr) (cdv ct : Value) (us : List Value), us.length = ps.length → bindArgs (PySem.W.fnOf m qn (defArgs st) (defBody st) (defScope st) .none kV doc pm an cdv ct) ⟨us, []⟩ = pure (ps.zip us))
    (hq : qn = C ++ ⟨#[46]⟩ ++ m := by decide +kernel) : Dm K C m st ps := by
  obtain ⟨fd, F⟩ := h
  have e := fdAt_of F
  subst e
  subst hq
  exact ⟨F, F.bindsN hb⟩
end Gw

set_option Elab.async false
set_option linter.all false
set_option maxRecDepth 100000
set_option maxHeartbeats 4000000
namespace Gw
open PySem PySem.Spec PyProof.Rows L2 He
/-! ### calls -/
section
variable {X : Cx} {x : Str} {st : Stmt} {ps : List Str} {k : Nat} {sp : Sp} {t : TA} {e : Expr} {es : List Expr} {p pos : Pos}
theorem pc (D : Dk X.K X.mg x st ps) (G : FnOk X.prog X.w X.K X.mg X.base CX0 k (ga X.K x) (fdAt X.K (ga X.K x)) ps sp) (hr : Room k X.A) (ha : PA X (e :: es) t)
    (hg : Gl X x := by rfl) (hdb : (x == ("__debug__" : Str)) = false := by decide) (he : starEach (e :: es) X.env = (false, eval e X.env) :: starEach es X.env := by rfl) (hpl : (backTo pos (starEach es X.env)).any (·.1) = false := by rfl) :
    PE X (.Call (.Name x p) (e :: es) [] pos) (tCall sp [] E0 t) := pe_call G hr hg D.g D.F.kp D.b .nil pass0 ha hdb he hpl
/-- a call of a def that may raise, within a try's body -/
theorem pcS {W : WX} (D : Dk X.K X.mg x st ps) (G : FnOk X.prog X.w X.K X.mg X.base (L2.CX X.prog X.w) k (ga X.K x) (fdAt X.K (ga X.K x)) ps sp) (hr : Room k X.A) (tk : Takes X W) (ha : PA X (e :: es) t)
    (hg : Gl X x := by rfl) (hdb : (x == ("__debug__" : Str)) = false := by decide) (he : starEach (e :: es) X.env = (false, eval e X.env) :: starEach es X.env := by rfl) (hpl : (backTo pos (starEach es X.env)).any (·.1) = false := by rfl) :
    PE X (.Call (.Name x p) (e :: es) [] pos) (tCallS sp (WE W) t) := pe_callS G hr hg D.g D.F.kp D.b (fun σ => passAt tk σ) ha hdb he hpl
end
section
variable {X : Cx} {x : Str} {pos : Pos}
theorem pe_ty (n : String) (hm : X.mg x = none) (hv : bootBuiltins x = some (.type n) := by decide +kernel) (hg : Gl X x := by rfl) (hn : x ≠ "__name__" := by decide) (hd : (x == ("__debug__" : Str)) = false := by decide) : PE X (.Name x pos) (tC (.ty n)) :=
  pe_bltn hg hm hv rfl hn hd
theorem pe_kint {i : Int} (h : ∃ t, X.mg x = some (.int i t)) (hg : Gl X x := by rfl) (hd : (x == ("__debug__" : Str)) = false := by decide) : PE X (.Name x pos) (tC (.int i)) := by
  obtain ⟨t, e⟩ := h
  exact pe_glob hg e ⟨t, rfl⟩ hd
theorem pe_kstr {z : Str} (h : ∃ t, X.mg x = some (.str z t)) (hg : Gl X x := by rfl) (hd : (x == ("__debug__" : Str)) = false := by decide) : PE X (.Name x pos) (tC (.str z)) := by
  obtain ⟨t, e⟩ := h
  exact pe_glob hg e ⟨t, rfl⟩ hd
theorem pe_gref {a : Addr} (h : X.mg x = some (.ref a)) (hg : Gl X x := by rfl) (hd : (x == ("__debug__" : Str)) = false := by decide) : PE X (.Name x pos) (tC (.ref a)) := pe_glob hg h rfl hd
end
abbrev okAt (P : Program) (w : World) (K : PySem.W.Frag) (mg : Str → Option Value) (base : Heap) (CX : CXT) (k : Nat) (x : Str) (ps : List Str) (sp : Sp) : Prop := FnOk P w K mg base CX k (ga K x) (fdAt K (ga K x)) ps sp
/-! ### heaps -/
/-- all but what stands at h is as it was -/
def But (h : Addr) (H H' : Hp) : Prop := ∀ a o, a ≠ h → H a = some o → H' a = some o
theorem But.refl {h : Addr} {H : Hp} : But h H H := fun _ _ _ e => e
theorem But.trans {h : Addr} {H H1 H2 : Hp} (a : But h H H1) (b : But h H1 H2) : But h H H2 := fun x o n e => b x o n (a x o n e)
theorem But.upd {h : Addr} {H : Hp} {o : HO} : But h H (upd H h o) := fun a u n e => by rw [upd_ne n]; exact e
theorem But.same {h : Addr} {H H' : Hp} (s : Same H H') : But h H H' := fun a o _ e => s a o e
theorem Same.new {H : Hp} {p : Addr} {o : HO} (h : H p = none) : Same H (upd H p o) := fun b x e => by
  rw [upd_ne (ne_of_none e h)]
  exact e
/-! ### the hand: an object that the draws change -/
structure HandAt (H : Hp) (h l : Addr) (ns : List Int) (i b s c : Int) : Prop where
  hh : H h = some (.lst [.ref l, .int i, .int b, .int s, .int c])
  hl : H l = some (.lst (ns.map V.int))
  ne : l ≠ h
theorem HandAt.put {H : Hp} {h l : Addr} {ns : List Int} {i b s c : Int} (A : HandAt H h l ns i b s c) (i' b' s' c' : Int) :
    ∃ H', upd H h (.lst [.ref l, .int i', .int b', .int s', .int c']) = H' ∧ HandAt H' h l ns i' b' s' c' ∧ But h H H' :=
  ⟨_, rfl, ⟨upd_same, by rw [upd_ne A.ne]; exact A.hl, A.ne⟩, But.upd⟩
def Hand (H : Hp) (h : Addr) : Prop := ∃ l ns i b s c, HandAt H h l ns i b s c ∧ 0 ≤ i ∧ 0 ≤ b ∧ 0 ≤ s ∧ s < 2147483647
theorem HandAt.same {H H' : Hp} {h l : Addr} {ns : List Int} {i b s c : Int} (A : HandAt H h l ns i b s c) (e : Same H H') : HandAt H' h l ns i b s c := ⟨e _ _ A.hh, e _ _ A.hl, A.ne⟩
theorem Hand.same {H H' : Hp} {h : Addr} (A : Hand H h) (e : Same H H') : Hand H' h := by
  obtain ⟨l, ns, i, b, s, c, A, r⟩ := A
  exact ⟨l, ns, i, b, s, c, A.same e, r⟩
theorem Hand.some {H : Hp} {h : Addr} (A : Hand H h) : ∃ xs, H h = some (.lst xs) := by
  obtain ⟨l, ns, i, b, s, c, A, r⟩ := A
  exact ⟨_, A.hh⟩
/-- behind the draws: the hand is one, all else is as it was -/
structure Kp (h : Addr) (H H' : Hp) : Prop where
  hand : Hand H' h
  but : But h H H'
  old : Hand H h
  lst : ∀ l ys, H h = some (.lst (.ref l :: ys)) → ∃ zs, H' h = some (.lst (.ref l :: zs))
theorem Kp.refl {h : Addr} {H : Hp} (A : Hand H h) : Kp h H H := ⟨A, But.refl, A, fun _ ys e => ⟨ys, e⟩⟩
theorem Kp.trans {h : Addr} {H H1 H2 : Hp} (a : Kp h H H1) (b : Kp h H1 H2) : Kp h H H2 := ⟨b.hand, a.but.trans b.but, a.old, fun l ys e => let ⟨zs, q⟩ := a.lst l ys e; b.lst l zs q⟩
theorem Kp.same {h : Addr} {H H1 H2 : Hp} (a : Kp h H H1) (b : Same H1 H2) : Kp h H H2 := ⟨a.hand.same b, a.but.trans (But.same b), a.old, fun l ys e => let ⟨zs, q⟩ := a.lst l ys e; ⟨zs, b _ _ q⟩⟩
theorem Kp.free {h : Addr} {H H' : Hp} (a : Kp h H H') {p : Addr} (e : H' p = none) : H p = none := by
  cases q : H p with
  | none => rfl
  | some o =>
    by_cases n : p = h
    · obtain ⟨xs, z⟩ := a.hand.some
      rw [n, z] at e
      cases e
    · rw [a.but p o n q] at e
      cases e
theorem Kp.keep {h : Addr} {H H' : Hp} (a : Kp h H H') {p : Addr} {o : HO} (e : H p = some o) (n : p ≠ h) : H' p = some o := a.but p o n e
theorem Kp.tup {h : Addr} {H H' : Hp} (a : Kp h H H') {p : Addr} {xs : List V} (e : H p = some (.tup xs)) : H' p = some (.tup xs) := a.but p _ (fun z => by
  obtain ⟨ys, q⟩ := a.old.some
  rw [z, q] at e
  cases e) e
/-- a new object, whatever becomes of it -/
theorem Kp.put {h : Addr} {H G : Hp} (k : Kp h H G) {p : Addr} {o : HO} (hp : H p = none) : Kp h H (upd G p o) := by
  obtain ⟨l, ns, i, b, s, c, A, _⟩ := k.old
  obtain ⟨l', ns', i', b', s', c', A', r⟩ := k.hand
  obtain ⟨zs, q⟩ := k.lst l _ A.hh
  have el : l' = l := by
    have z := A'.hh
    rw [q] at z
    injection z with z
    injection z with z
    injection z with z
    injection z with z
    exact z.symm
  have nh : h ≠ p := fun z => by rw [← z, A.hh] at hp; cases hp
  have nl : l' ≠ p := fun z => by rw [← z, el, A.hl] at hp; cases hp
  refine ⟨⟨l', ns', i', b', s', c', ⟨by rw [upd_ne nh]; exact A'.hh, by rw [upd_ne nl]; exact A'.hl, A'.ne⟩, r⟩, fun a u n e => ?_, k.old, fun l2 ys e => ?_⟩
  · rw [upd_ne (ne_of_none e hp)]
    exact k.but a u n e
  · rw [upd_ne nh]
    exact k.lst l2 ys e
/-- a draw below n -/
def spTake : Sp := fun vs H Q _ => ∃ (h : Addr) (n : Int), vs = [.ref h, .int n] ∧ Hand H h ∧ 0 < n ∧ n < 1073741824 ∧ ∀ (r : Int) (H' : Hp), 0 ≤ r → r < n → Kp h H H' → Q (.int r) H'
theorem HandAt.set {H H1 : Hp} {h l : Addr} {ns : List Int} {i b s c : Int} (A : HandAt H h l ns i b s c) {xs : List V} (e : upd H h (.lst xs) = H1) (i' b' s' c' : Int) (ex : xs = [.ref l, .int i', .int b', .int s', .int c'] := by rfl) :
    HandAt H1 h l ns i' b' s' c' ∧ But h H H1 := by
  subst ex
  subst e
  exact ⟨⟨upd_same, by rw [upd_ne A.ne]; exact A.hl, A.ne⟩, But.upd⟩
theorem atI_ints {ns : List Int} {i : Int} (h0 : 0 ≤ i) (h1 : i < ((ns.map V.int).length : Int)) : ∃ x, atI (ns.map V.int) i = some (.int x) := by
  obtain ⟨j, rfl⟩ : ∃ j : Nat, i = (j : Int) := ⟨i.toNat, by omega⟩
  rw [List.length_map] at h1
  have hj : j < ns.length := by omega
  exact ⟨ns[j], atI_nat (by rw [List.getElem?_map, List.getElem?_eq_getElem hj] <;> rfl)⟩
/-! ### is True, is False of anything -/
def rIsC : R2 := fun x y H Q => ∃ c : Bool, y = .bl c ∧ Q (.bl (decide (x = .bl c))) H
theorem op_isC {X : Cx} : OpR X (compareOp .Is) rIsC := by
  intro pins s σ H x y v u Q I rx ry h
  obtain ⟨c, rfl, q⟩ := h
  cases (show u = Value.bool c from ry)
  have no : ∀ (hp : plainIs v (Value.bool c) = true) (hne : v ≠ Value.bool c) (hx : ¬ x = V.bl c), wpAny (model X.prog X.w) X.A (compareOp .Is v (Value.bool c)) (EP X pins σ Q) X.xe s := fun hp hne hx =>
    wpAny_is_other hp hne ⟨.bl false, H, I, rfl, by rw [decide_eq_false hx] at q; exact q⟩
  cases x with
  | bl a =>
    cases (show v = Value.bool a from rx)
    by_cases e : a = c
    · subst e
      exact wpAny_is_self rfl ⟨.bl true, H, I, rfl, by rw [decide_eq_true rfl] at q; exact q⟩
    · exact no rfl (fun z => e (Value.bool.inj z)) (fun z => e (V.bl.inj z))
  | non => cases (show v = Value.none from rx); exact no rfl (fun z => nomatch z) (fun z => nomatch z)
  | int i => obtain ⟨t, rfl⟩ := (show ∃ t, v = Value.int i t from rx); exact no rfl (fun z => nomatch z) (fun z => nomatch z)
  | str i => obtain ⟨t, rfl⟩ := (show ∃ t, v = Value.str i t from rx); exact no rfl (fun z => nomatch z) (fun z => nomatch z)
  | byt i => obtain ⟨t, rfl⟩ := (show ∃ t, v = Value.bytes i t from rx); exact no rfl (fun z => nomatch z) (fun z => nomatch z)
  | flt i => obtain ⟨t, rfl⟩ := (show ∃ t, v = Value.float i t from rx); exact no rfl (fun z => nomatch z) (fun z => nomatch z)
  | ref i => cases (show v = Value.ref i from rx); exact no rfl (fun z => nomatch z) (fun z => nomatch z)
  | ty i => cases (show v = Value.type i from rx); exact no rfl (fun z => nomatch z) (fun z => nomatch z)
/-! ### values of built-in kinds -/
inductive Wt (H : Hp) : V → Prop
  | non : Wt H .non
  | bl (b : Bool) : Wt H (.bl b)
  | int (i : Int) : Wt H (.int i)
  | str (x : Str) : Wt H (.str x)
  | lst {a : Addr} {xs : List V} (e : H a = some (.lst xs)) : Wt H (.ref a)
  | tup {a : Addr} {xs : List V} (e : H a = some (.tup xs)) : Wt H (.ref a)
  | dct {a : Addr} {kvs : List (Key × V)} (e : H a = some (.dK kvs)) : Wt H (.ref a)
def isI : V → Bool
  | .int _ => true
  | _ => false
def isB : V → Bool
  | .bl _ => true
  | _ => false
def isS : V → Bool
  | .str _ => true
  | _ => false
def isN : V → Bool
  | .non => true
  | _ => false
def isT (H : Hp) : V → Bool
  | .ref a => match H a with
    | some (.tup _) => true
    | _ => false
  | _ => false
def isL (H : Hp) : V → Bool
  | .ref a => match H a with
    | some (.lst _) => true
    | _ => false
  | _ => false
def isD (H : Hp) : V → Bool
  | .ref a => match H a with
    | some (.dK _) => true
    | _ => false
  | _ => false
theorem isT_lst {H : Hp} {a : Addr} {xs : List V} (e : H a = some (.lst xs)) : isT H (.ref a) = false := by
  unfold isT
  dsimp only
  rw [e]
theorem isT_tup {H : Hp} {a : Addr} {xs : List V} (e : H a = some (.tup xs)) : isT H (.ref a) = true := by
  unfold isT
  dsimp only
  rw [e]
theorem isT_dK {H : Hp} {a : Addr} {kvs : List (Key × V)} (e : H a = some (.dK kvs)) : isT H (.ref a) = false := by
  unfold isT
  dsimp only
  rw [e]
theorem isL_lst {H : Hp} {a : Addr} {xs : List V} (e : H a = some (.lst xs)) : isL H (.ref a) = true := by
  unfold isL
  dsimp only
  rw [e]
theorem isL_tup {H : Hp} {a : Addr} {xs : List V} (e : H a = some (.tup xs)) : isL H (.ref a) = false := by
  unfold isL
  dsimp only
  rw [e]
theorem isL_dK {H : Hp} {a : Addr} {kvs : List (Key × V)} (e : H a = some (.dK kvs)) : isL H (.ref a) = false := by
  unfold isL
  dsimp only
  rw [e]
theorem isD_lst {H : Hp} {a : Addr} {xs : List V} (e : H a = some (.lst xs)) : isD H (.ref a) = false := by
  unfold isD
  dsimp only
  rw [e]
theorem isD_tup {H : Hp} {a : Addr} {xs : List V} (e : H a = some (.tup xs)) : isD H (.ref a) = false := by
  unfold isD
  dsimp only
  rw [e]
theorem isD_dK {H : Hp} {a : Addr} {kvs : List (Key × V)} (e : H a = some (.dK kvs)) : isD H (.ref a) = true := by
  unfold isD
  dsimp only
  rw [e]
section
variable {K : PySem.W.Frag} {H : Hp} {v : V} {Q : VK}
theorem isi_of {x : V} {n t : String} {b : Bool} (ty : TyX K H x (.type t)) (e : kitB t n = some b) (q : Q (.bl b) H) : rIsi K [x, .ty n] H Q := ⟨x, .ty n, .type t, .type n, b, rfl, .ty n, ty, kit_ty e, q⟩
theorem isi_int (W : Wt H v) (q : Q (.bl (isI v || isB v)) H) : rIsi K [v, .ty "int"] H Q := by
  cases W with
  | non => exact isi_of (b := false) (.base .non) (by decide +kernel) q
  | bl b => exact isi_of (b := true) (.base (.bl b)) (by decide +kernel) q
  | int i => exact isi_of (b := true) (.base (.int i)) (by decide +kernel) q
  | str x => exact isi_of (b := false) (.base (.str x)) (by decide +kernel) q
  | lst e => exact isi_of (b := false) (.base (.lst e)) (by decide +kernel) q
  | tup e => exact isi_of (b := false) (.base (.tup e)) (by decide +kernel) q
  | dct e => exact isi_of (b := false) (.base (.dK e)) (by decide +kernel) q
theorem isi_bool (W : Wt H v) (q : Q (.bl (isB v)) H) : rIsi K [v, .ty "bool"] H Q := by
  cases W with
  | non => exact isi_of (b := false) (.base .non) (by decide +kernel) q
  | bl b => exact isi_of (b := true) (.base (.bl b)) (by decide +kernel) q
  | int i => exact isi_of (b := false) (.base (.int i)) (by decide +kernel) q
  | str x => exact isi_of (b := false) (.base (.str x)) (by decide +kernel) q
  | lst e => exact isi_of (b := false) (.base (.lst e)) (by decide +kernel) q
  | tup e => exact isi_of (b := false) (.base (.tup e)) (by decide +kernel) q
  | dct e => exact isi_of (b := false) (.base (.dK e)) (by decide +kernel) q
theorem isi_str (W : Wt H v) (q : Q (.bl (isS v)) H) : rIsi K [v, .ty "str"] H Q := by
  cases W with
  | non => exact isi_of (b := false) (.base .non) (by decide +kernel) q
  | bl b => exact isi_of (b := false) (.base (.bl b)) (by decide +kernel) q
  | int i => exact isi_of (b := false) (.base (.int i)) (by decide +kernel) q
  | str x => exact isi_of (b := true) (.base (.str x)) (by decide +kernel) q
  | lst e => exact isi_of (b := false) (.base (.lst e)) (by decide +kernel) q
  | tup e => exact isi_of (b := false) (.base (.tup e)) (by decide +kernel) q
  | dct e => exact isi_of (b := false) (.base (.dK e)) (by decide +kernel) q
theorem isi_tuple (W : Wt H v) (q : Q (.bl (isT H v)) H) : rIsi K [v, .ty "tuple"] H Q := by
  cases W with
  | non => exact isi_of (b := false) (.base .non) (by decide +kernel) q
  | bl b => exact isi_of (b := false) (.base (.bl b)) (by decide +kernel) q
  | int i => exact isi_of (b := false) (.base (.int i)) (by decide +kernel) q
  | str x => exact isi_of (b := false) (.base (.str x)) (by decide +kernel) q
  | lst e => exact isi_of (b := false) (.base (.lst e)) (by decide +kernel) (by rw [isT_lst e] at q; exact q)
  | tup e => exact isi_of (b := true) (.base (.tup e)) (by decide +kernel) (by rw [isT_tup e] at q; exact q)
  | dct e => exact isi_of (b := false) (.base (.dK e)) (by decide +kernel) (by rw [isT_dK e] at q; exact q)
theorem isi_list (W : Wt H v) (q : Q (.bl (isL H v)) H) : rIsi K [v, .ty "list"] H Q := by
  cases W with
  | non => exact isi_of (b := false) (.base .non) (by decide +kernel) q
  | bl b => exact isi_of (b := false) (.base (.bl b)) (by decide +kernel) q
  | int i => exact isi_of (b := false) (.base (.int i)) (by decide +kernel) q
  | str x => exact isi_of (b := false) (.base (.str x)) (by decide +kernel) q
  | lst e => exact isi_of (b := true) (.base (.lst e)) (by decide +kernel) (by rw [isL_lst e] at q; exact q)
  | tup e => exact isi_of (b := false) (.base (.tup e)) (by decide +kernel) (by rw [isL_tup e] at q; exact q)
  | dct e => exact isi_of (b := false) (.base (.dK e)) (by decide +kernel) (by rw [isL_dK e] at q; exact q)
theorem isi_dict (W : Wt H v) (q : Q (.bl (isD H v)) H) : rIsi K [v, .ty "dict"] H Q := by
  cases W with
  | non => exact isi_of (b := false) (.base .non) (by decide +kernel) q
  | bl b => exact isi_of (b := false) (.base (.bl b)) (by decide +kernel) q
  | int i => exact isi_of (b := false) (.base (.int i)) (by decide +kernel) q
  | str x => exact isi_of (b := false) (.base (.str x)) (by decide +kernel) q
  | lst e => exact isi_of (b := false) (.base (.lst e)) (by decide +kernel) (by rw [isD_lst e] at q; exact q)
  | tup e => exact isi_of (b := false) (.base (.tup e)) (by decide +kernel) (by rw [isD_tup e] at q; exact q)
  | dct e => exact isi_of (b := true) (.base (.dK e)) (by decide +kernel) (by rw [isD_dK e] at q; exact q)
end
section
variable {K : PySem.W.Frag} {H : Hp} {v : V} {R : Bool → Prop}
theorem ei_int (W : Wt H v) (q : R (isI v || isB v)) : ∃ (x c : V) (t u : Value) (b : Bool), [v, V.ty "int"] = [x, c] ∧ ClsV c u ∧ TyX K H x t ∧ PySem.W.kitOne K t u = some b ∧ R b := isi_int (Q := fun z _ => ∃ b, z = .bl b ∧ R b) W ⟨_, rfl, q⟩ |> fun ⟨x, c, t, u, b, h1, h2, h3, h4, b2, h5, h6⟩ => ⟨x, c, t, u, b, h1, h2, h3, h4, by cases h5; exact h6⟩
theorem ei_bool (W : Wt H v) (q : R (isB v)) : ∃ (x c : V) (t u : Value) (b : Bool), [v, V.ty "bool"] = [x, c] ∧ ClsV c u ∧ TyX K H x t ∧ PySem.W.kitOne K t u = some b ∧ R b := isi_bool (Q := fun z _ => ∃ b, z = .bl b ∧ R b) W ⟨_, rfl, q⟩ |> fun ⟨x, c, t, u, b, h1, h2, h3, h4, b2, h5, h6⟩ => ⟨x, c, t, u, b, h1, h2, h3, h4, by cases h5; exact h6⟩
theorem ei_str (W : Wt H v) (q : R (isS v)) : ∃ (x c : V) (t u : Value) (b : Bool), [v, V.ty "str"] = [x, c] ∧ ClsV c u ∧ TyX K H x t ∧ PySem.W.kitOne K t u = some b ∧ R b := isi_str (Q := fun z _ => ∃ b, z = .bl b ∧ R b) W ⟨_, rfl, q⟩ |> fun ⟨x, c, t, u, b, h1, h2, h3, h4, b2, h5, h6⟩ => ⟨x, c, t, u, b, h1, h2, h3, h4, by cases h5; exact h6⟩
theorem ei_tuple (W : Wt H v) (q : R (isT H v)) : ∃ (x c : V) (t u : Value) (b : Bool), [v, V.ty "tuple"] = [x, c] ∧ ClsV c u ∧ TyX K H x t ∧ PySem.W.kitOne K t u = some b ∧ R b := isi_tuple (Q := fun z _ => ∃ b, z = .bl b ∧ R b) W ⟨_, rfl, q⟩ |> fun ⟨x, c, t, u, b, h1, h2, h3, h4, b2, h5, h6⟩ => ⟨x, c, t, u, b, h1, h2, h3, h4, by cases h5; exact h6⟩
theorem ei_list (W : Wt H v) (q : R (isL H v)) : ∃ (x c : V) (t u : Value) (b : Bool), [v, V.ty "list"] = [x, c] ∧ ClsV c u ∧ TyX K H x t ∧ PySem.W.kitOne K t u = some b ∧ R b := isi_list (Q := fun z _ => ∃ b, z = .bl b ∧ R b) W ⟨_, rfl, q⟩ |> fun ⟨x, c, t, u, b, h1, h2, h3, h4, b2, h5, h6⟩ => ⟨x, c, t, u, b, h1, h2, h3, h4, by cases h5; exact h6⟩
theorem ei_dict (W : Wt H v) (q : R (isD H v)) : ∃ (x c : V) (t u : Value) (b : Bool), [v, V.ty "dict"] = [x, c] ∧ ClsV c u ∧ TyX K H x t ∧ PySem.W.kitOne K t u = some b ∧ R b := isi_dict (Q := fun z _ => ∃ b, z = .bl b ∧ R b) W ⟨_, rfl, q⟩ |> fun ⟨x, c, t, u, b, h1, h2, h3, h4, b2, h5, h6⟩ => ⟨x, c, t, u, b, h1, h2, h3, h4, by cases h5; exact h6⟩
end
theorem Wt.same {H H' : Hp} {v : V} (W : Wt H v) (e : Same H H') : Wt H' v := by
  cases W with
  | non => exact .non
  | bl b => exact .bl b
  | int i => exact .int i
  | str x => exact .str x
  | lst q => exact .lst (e _ _ q)
  | tup q => exact .tup (e _ _ q)
  | dct q => exact .dct (e _ _ q)
/-- not the object at h -/
def Off (h : Addr) (v : V) : Prop := v ≠ .ref h
theorem Wt.but {h : Addr} {H H' : Hp} {v : V} (W : Wt H v) (n : Off h v) (e : But h H H') : Wt H' v := by
  cases W with
  | non => exact .non
  | bl b => exact .bl b
  | int i => exact .int i
  | str x => exact .str x
  | lst q => exact .lst (e _ _ (fun z => n (by rw [z])) q)
  | tup q => exact .tup (e _ _ (fun z => n (by rw [z])) q)
  | dct q => exact .dct (e _ _ (fun z => n (by rw [z])) q)
theorem del_new {H : Hp} {a : Addr} {o : HO} (h : H a = none) : del (upd H a o) a = H := by
  funext b
  by_cases e : b = a
  · rw [e, del_same, h]
  · rw [del_ne e, upd_ne e]
/-- an integer within bounds -/
def btw (a b : Int) : V → Bool
  | .int i => decide (a ≤ i) && decide (i ≤ b)
  | _ => false
theorem btw_int {a b : Int} {v : V} (h : btw a b v = true) : ∃ i, v = .int i ∧ a ≤ i ∧ i ≤ b := by
  cases v with
  | int i =>
    obtain ⟨h1, h2⟩ := Bool.and_eq_true_iff.mp (show (decide (a ≤ i) && decide (i ≤ b)) = true from h)
    exact ⟨i, rfl, of_decide_eq_true h1, of_decide_eq_true h2⟩
  | _ => cases h
/-! ### promises of the program's first functions -/
def spPlain : Sp := fun vs H Q _ => ∃ v, vs = [v] ∧ Wt H v ∧ Q (.bl (isI v)) H
def spBetween : Sp := fun vs H Q _ => ∃ (a b : Int) (v : V), vs = [.int a, .int b, v] ∧ Wt H v ∧ Q (.bl (btw a b v)) H
def spWithin : Sp := fun vs H Q _ => ∃ (a b : Int) (v : V), vs = [v, .int a, .int b] ∧ Wt H v ∧ Q (.bl (btw a b v)) H
def spBtw (a b : Int) : Sp := fun vs H Q _ => ∃ v, vs = [v] ∧ Wt H v ∧ Q (.bl (btw a b v)) H
/-- a __init__ that leaves a fresh error as it is -/
def spErr0 (K : PySem.W.Frag) : Sp := fun vs H Q _ => ∃ (a C : Addr), vs = [.ref a] ∧ OexC K C ∧ H a = some (exo a C none) ∧ Q .non H
/-- a list or tuple, one of its items drawn -/
def spPick (K : PySem.W.Frag) : Sp := fun vs H Q _ => ∃ (h a : Addr) (xs : List V), vs = [.ref h, .ref a] ∧ Hand H h ∧ a ≠ h ∧ H a = some (.lst xs) ∧ 0 < xs.length ∧ xs.length < 1073741824 ∧
  ∀ (j : Nat) (v : V) (H' : Hp), xs[j]? = some v → Kp h H H' → Q v H'
/-- a drawn integer within bounds -/
def spDraw (lo hi : Int) : Sp := fun vs H Q _ => ∃ (h : Addr), vs = [.ref h] ∧ Hand H h ∧ ∀ (r : Int) (H' : Hp), lo ≤ r → r ≤ hi → Kp h H H' → Q (.int r) H'
theorem sz_b {n : Nat} (h : Nat.ble n 1000 = true) : n ≤ sizeLine := Nat.le_trans (Nat.le_of_ble_eq_true h) (by decide)
theorem new_at {H H' : Hp} {l : Addr} {o : HO} (hl : H l = none) (e : upd H l o = H') : Same H H' ∧ H' l = some o := by
  subst e
  exact ⟨Same.new hl, upd_same⟩
theorem Hand.ne {H : Hp} {h l : Addr} (A : Hand H h) (hl : H l = none) : l ≠ h := fun z => by
  obtain ⟨ys, y⟩ := A.some
  rw [z, y] at hl
  cases hl
theorem same_mut {H G : Hp} {p : Addr} {o : HO} (e : Same H G) (h : H p = none) : Same H (upd G p o) := fun b x q => by
  rw [upd_ne (ne_of_none q h)]
  exact e b x q
end Gw

set_option Elab.async false
set_option linter.all false
set_option maxRecDepth 100000
namespace Gw
/-! ### the seeds' powers -/
abbrev pN : Nat := 2147483647
def PN (k : Nat) : Nat := 48271 ^ k % pN
theorem PN_add (a b : Nat) : PN a * PN b % pN = PN (a + b) := by
  unfold PN
  rw [Nat.pow_add, ← Nat.mul_mod]
def pf : Nat → Nat → Nat
  | 0, _ => 1
  | f + 1, n => if n = 0 then 1 else if n % 2 = 0 then pf f (n / 2) * pf f (n / 2) % pN else (pf f (n / 2) * pf f (n / 2) % pN) * 48271 % pN
theorem pf_eq : ∀ (f n : Nat), n < 2 ^ f → pf f n = PN n
  | 0, n, h => by
    have : n = 0 := by rw [Nat.pow_zero] at h; omega
    subst this
    rfl
  | f + 1, n, h => by
    have h2 : n / 2 < 2 ^ f := by rw [Nat.pow_succ] at h; omega
    have ih := pf_eq f (n / 2) h2
    unfold pf
    by_cases h0 : n = 0
    · rw [if_pos h0, h0]
      rfl
    · rw [if_neg h0, ih, PN_add]
      by_cases h1 : n % 2 = 0
      · rw [if_pos h1]
        congr 1
        omega
      · rw [if_neg h1]
        have e : PN 1 = 48271 := rfl
        have z := PN_add (n / 2 + n / 2) 1
        rw [e] at z
        rw [z]
        congr 1
        omega
theorem PN_fermat : PN 2147483646 = 1 := by
  rw [← pf_eq 31 2147483646 (by decide)]
  decide +kernel
theorem PN_mul (t : Nat) : PN (2147483646 * t) = 1 := by
  induction t with
  | zero => rfl
  | succ t ih =>
    rw [Nat.mul_succ, ← PN_add, ih, PN_fermat]
    rfl
@[irreducible] def pwI (k : Nat) : Int := ((PN k : Nat) : Int)
theorem pwI_bounds (k : Nat) : 0 ≤ pwI k ∧ pwI k < 2147483647 := by
  have : PN k < pN := Nat.mod_lt _ (by decide)
  unfold pwI
  unfold pN at this
  omega
theorem pwI_add (a b : Nat) : pwI a * pwI b % 2147483647 = pwI (a + b) := by
  unfold pwI
  rw [← PN_add, ← Int.natCast_mul]
  exact (Int.natCast_emod _ _).symm
theorem pwI_zero : pwI 0 = 1 := by unfold pwI; rfl
theorem pwI_one : pwI 1 = 48271 := by unfold pwI; rfl
/-- the seed so many times behind s -/
@[irreducible] def SI (s : Int) (k : Nat) : Int := s * pwI k % 2147483647
theorem SI_bounds (s : Int) (k : Nat) : 0 ≤ SI s k ∧ SI s k < 2147483647 := by
  unfold SI
  exact ⟨Int.emod_nonneg _ (by decide), Int.emod_lt_of_pos _ (by decide)⟩
theorem emod_mul (a b : Int) : a % 2147483647 * b % 2147483647 = a * b % 2147483647 := by
  rw [Int.mul_emod, Int.emod_emod_of_dvd _ (Int.dvd_refl _), ← Int.mul_emod]
theorem mul_emod' (a b : Int) : a * (b % 2147483647) % 2147483647 = a * b % 2147483647 := by
  rw [Int.mul_comm, emod_mul, Int.mul_comm]
theorem SI_add (s : Int) (a b : Nat) : SI s a * pwI b % 2147483647 = SI s (a + b) := by
  unfold SI
  rw [emod_mul, Int.mul_assoc, ← pwI_add, mul_emod']
theorem SI_next (s : Int) (a : Nat) : SI s a * 48271 % 2147483647 = SI s (a + 1) := by rw [← SI_add, pwI_one]
theorem SI_SI (s : Int) (a b : Nat) : SI (SI s a) b = SI s (a + b) := by rw [← SI_add, SI]
theorem SI_one (s : Int) : s * 48271 % 2147483647 = SI s 1 := by rw [SI, pwI_one]
theorem SI_zero {s : Int} (h0 : 0 ≤ s) (h1 : s < 2147483647) : SI s 0 = s := by
  unfold SI
  rw [pwI_zero, Int.mul_one]
  exact Int.emod_eq_of_lt h0 h1
theorem SI_around {s : Int} (h0 : 0 ≤ s) (h1 : s < 2147483647) (t : Nat) : SI s (2147483646 * t) = s := by
  have e : SI s (2147483646 * t) = SI s 0 := by
    unfold SI pwI
    rw [PN_mul] <;> rfl
  rw [e, SI_zero h0 h1]
theorem SI_pos {s : Int} (h0 : 1 ≤ s) (h1 : s ≤ 2147483646) (k : Nat) : 1 ≤ SI s k := by
  have h := SI_bounds s k
  by_cases e : SI s k = 0
  · exfalso
    have z := SI_add s k (2147483646 * k - k)
    rw [e, Int.zero_mul, show k + (2147483646 * k - k) = 2147483646 * k by omega, SI_around (by omega) (by omega)] at z
    have : (0 : Int) % 2147483647 = 0 := rfl
    omega
  · omega
theorem SI_le (s : Int) (k : Nat) : SI s k ≤ 2147483646 := by
  have := (SI_bounds s k).2
  omega
theorem pw_sq (a : Nat) : pwI a * pwI a % 2147483647 = pwI (2 * a) := by
  rw [pwI_add]
  congr 1
  omega
theorem pw_ten (a : Nat) : pwI (8 * a) * pwI (2 * a) % 2147483647 = pwI (10 * a) := by
  rw [pwI_add]
  congr 1
  omega
theorem pw_next (a : Nat) : pwI a * 48271 % 2147483647 = pwI (a + 1) := by rw [← pwI_add, pwI_one]
theorem div_bd {x d : Int} (h0 : -100000000000000000000 ≤ x) (h1 : x ≤ 100000000000000000000) (d0 : 0 < d) : -100000000000000000000 ≤ x / d ∧ x / d ≤ 100000000000000000000 :=
  ⟨Int.le_ediv_of_mul_le d0 (by omega), Int.ediv_le_of_le_mul d0 (by omega)⟩
end Gw

set_option Elab.async false
set_option linter.all false
set_option maxRecDepth 100000
set_option maxHeartbeats 4000000
namespace Gw
open PySem PySem.Spec PyProof.Rows L2 He
theorem raise0 {K : PySem.W.Frag} {C : Addr} {σ : L2.St} {H : Hp} {Q : XK} (x : OexC K C) (q : Q (.ref C) none H) : tMk0 C (spErr0 K) σ H Q := fun a na => ⟨a, C, rfl, x, upd_same, rfl, upd_same, by rw [del_new na]; exact q⟩
/-- a text, sign by sign -/
theorem for_str {x : Str} {g : TG} {tb : TS} {D : Ends} {σ : L2.St} {H : Hp} (Pv : Nat → L2.St → Hp → Prop) (h0 : Pv 0 σ H)
    (hs : ∀ (i : Nat) (c : Nat) (σ : L2.St) (H : Hp), x.cps.toList[i]? = some c → Pv i σ H → g (.str ⟨#[c]⟩) σ H fun σ2 H2 => tb { D with nx := Pv (i + 1), ct := Pv (i + 1), bk := D.nx } σ2 H2) (hd : ∀ σ H, Pv x.cps.toList.length σ H → D.nx σ H) :
    ∃ W : Nat → Nat → L2.St → Hp → Prop, (∃ m, W 0 m σ H) ∧ ∀ i m σ H, W i m σ H →
      ((Its x).stop i H ∧ D.nx σ H) ∨ ((Its x).go i H ∧ ∃ N : L2.St → Hp → Prop, (∀ σ' H', N σ' H' → ∃ m', m' < m ∧ W (i + 1) m' σ' H') ∧ ∀ v H', (Its x).yld i H v H' → g v σ H' fun σ2 H2 => tb { D with nx := N, ct := N, bk := D.nx } σ2 H2) := by
  have el : x.cps.toList.length = x.cps.size := by simp
  refine ⟨fun i m σ H => m = x.cps.size - i ∧ i ≤ x.cps.size ∧ Pv i σ H, ⟨_, rfl, Nat.zero_le _, h0⟩, ?_⟩
  rintro i m σ H ⟨rfl, hi, p⟩
  by_cases hlt : i < x.cps.size
  · refine .inr ⟨hlt, Pv (i + 1), fun σ' H' p' => ⟨x.cps.size - (i + 1), by omega, rfl, hlt, p'⟩, fun v H' y => ?_⟩
    obtain ⟨rfl, c, hc, rfl⟩ := y
    exact hs i c σ H' (by rw [Array.getElem?_toList]; exact hc) p
  · have e : i = x.cps.toList.length := by omega
    subst e
    exact .inl ⟨Nat.le_of_eq el.symm, hd σ H p⟩
/-! ### promises of guessedworlds.numbers -/
def nn : V → Bool
  | .int n => decide (0 ≤ n)
  | _ => false
abbrev small : V → Bool := btw (-2147483648) 2147483647
abbrev seed : V → Bool := btw 1 2147483646
def spWrapped (K : PySem.W.Frag) : Sp := fun vs H Q E => ∃ v, vs = [v] ∧ Wt H v ∧ (∀ i, v = .int i → Q (.int ((i + 2147483648) % 4294967296 - 2147483648)) H) ∧ (isI v = false → E (.ref (ga K "NoNumber")) none H)
def spNext (K : PySem.W.Frag) : Sp := fun vs H Q E => ∃ v, vs = [v] ∧ Wt H v ∧ (∀ i, v = .int i → 1 ≤ i → i ≤ 2147483646 → Q (.int (SI i 1)) H) ∧ (seed v = false → E (.ref (ga K "NoSeed")) none H)
def spNext0 : Sp := fun vs H Q _ => ∃ i, vs = [.int i] ∧ 1 ≤ i ∧ i ≤ 2147483646 ∧ Q (.int (SI i 1)) H
def spAfter (K : PySem.W.Frag) : Sp := fun vs H Q E => ∃ v u, vs = [v, u] ∧ Wt H v ∧ Wt H u ∧ (∀ i n, v = .int i → 1 ≤ i → i ≤ 2147483646 → u = .int n → 0 ≤ n → Q (.int (SI i n.toNat)) H) ∧
  (seed v = false → E (.ref (ga K "NoSeed")) none H) ∧ (seed v = true → nn u = false → E (.ref (ga K "NoNumber")) none H)
def spAfter0 : Sp := fun vs H Q _ => ∃ i n, vs = [.int i, .int n] ∧ 1 ≤ i ∧ i ≤ 2147483646 ∧ 0 ≤ n ∧ Q (.int (SI i n.toNat)) H
def drawnI (i n : Int) : List V := if n < 1 then [.int 0, .int i] else [.int (SI i 1 / 16 % n), .int (SI i 1)]
def spDrawn (K : PySem.W.Frag) : Sp := fun vs H Q E => ∃ v u, vs = [v, u] ∧ Wt H v ∧ Wt H u ∧
  (∀ i n, v = .int i → 1 ≤ i → i ≤ 2147483646 → u = .int n → -2147483648 ≤ n → n ≤ 2147483647 → ∀ p, H p = none → Q (.ref p) (upd H p (.tup (drawnI i n)))) ∧
  (seed v = false → E (.ref (ga K "NoSeed")) none H) ∧ (seed v = true → small u = false → E (.ref (ga K "NoNumber")) none H)
end Gw

set_option Elab.async false
set_option linter.all false
set_option maxRecDepth 100000
set_option maxHeartbeats 4000000
namespace Gw
open PySem PySem.Spec PyProof.Rows L2 He
/-! ### promises of the laws' own helpers -/
def spHand (K : PySem.W.Frag) : Sp := fun vs H Q _ => ∃ (a : Addr) (ns : List Int), vs = [.ref a] ∧ SqL K H a (ns.map V.int) ∧ ∀ (h : Addr) (H' : Hp), H h = none → Hand H' h → Same H H' → Q (.ref h) H'
/-- bounded, if an int -/
def Bd (v : V) : Prop := ∀ i, v = .int i → -100000000000000000000 ≤ i ∧ i ≤ 100000000000000000000
def spOdd : Sp := fun vs H Q _ => ∃ (h : Addr), vs = [.ref h] ∧ Hand H h ∧ ∀ (v : V) (H' : Hp), Wt H' v → Off h v → Bd v → Kp h H H' → Q v H'
def spSome : Sp := fun vs H Q _ => ∃ (h : Addr) (u : V), vs = [.ref h, u] ∧ Hand H h ∧ Wt H u ∧ Off h u ∧ Bd u ∧ ∀ (v : V) (H' : Hp), Wt H' v → Off h v → Bd v → Kp h H H' → Q v H'
def spPower : Sp := fun vs H Q _ => ∃ n, vs = [.int n] ∧ 0 ≤ n ∧ n ≤ 1000000000000000000000 ∧ Q (.int (pwI n.toNat)) H
def spChained : Sp := fun vs H Q _ => ∃ s n, vs = [.int s, .int n] ∧ 1 ≤ s ∧ s ≤ 2147483646 ∧ 0 ≤ n ∧ n ≤ 1000 ∧ Q (.int (SI s n.toNat)) H
/-- a new tuple of what f says of the arguments -/
def spTup (f : List V → List V) (n : Nat) : Sp := fun vs H Q _ => vs.length = n ∧ (∀ v ∈ vs, Wt H v) ∧ (∀ v ∈ vs, Bd v) ∧ ∀ p, H p = none → Q (.ref p) (upd H p (.tup (f vs)))
def resW (v : V) : List V := match v with
  | .int i => [.str "told", .int ((i + 2147483648) % 4294967296 - 2147483648)]
  | _ => [.str "NoNumber"]
def resN (v : V) : List V := match v with
  | .int i => if 1 ≤ i ∧ i ≤ 2147483646 then [.str "told", .int (SI i 1)] else [.str "NoSeed"]
  | _ => [.str "NoSeed"]
def resA (v u : V) : List V := if seed v = true then (if nn u = true then (match v, u with
    | .int i, .int n => [.str "told", .int (SI i n.toNat)]
    | _, _ => []) else [.str "NoNumber"]) else [.str "NoSeed"]
def sp1 (f : V → List V) : Sp := fun vs H Q _ => ∃ v, vs = [v] ∧ Wt H v ∧ ∀ p, H p = none → Q (.ref p) (upd H p (.tup (f v)))
def sp2 (f : V → V → List V) : Sp := fun vs H Q _ => ∃ v u, vs = [v, u] ∧ Wt H v ∧ Wt H u ∧ Bd u ∧ ∀ p, H p = none → Q (.ref p) (upd H p (.tup (f v u)))
/-- of a draw: the tuple of "told" and a tuple, or of an error's name -/
def spDr : Sp := fun vs H Q _ => ∃ v u, vs = [v, u] ∧ Wt H v ∧ Wt H u ∧
  (∀ i n, v = .int i → 1 ≤ i → i ≤ 2147483646 → u = .int n → -2147483648 ≤ n → n ≤ 2147483647 → ∀ p r, H p = none → (upd H p (.tup (drawnI i n))) r = none → Q (.ref r) (upd (upd H p (.tup (drawnI i n))) r (.tup [.str "told", .ref p]))) ∧
  (seed v = false → ∀ r, H r = none → Q (.ref r) (upd H r (.tup [.str "NoSeed"]))) ∧ (seed v = true → small u = false → ∀ r, H r = none → Q (.ref r) (upd H r (.tup [.str "NoNumber"])))
/-! ### data that are the same, to a depth -/
def Sm (H : Hp) : Nat → V → V → Prop
  | 0, v, u => v = u ∧ (isI u || isS u || isN u || isB u) = true
  | n + 1, v, u => (v = u ∧ (isI u || isS u || isN u || isB u) = true) ∨ ∃ a b xs ys, v = .ref a ∧ u = .ref b ∧ H a = some (.tup xs) ∧ H b = some (.tup ys) ∧ xs.length = ys.length ∧ ∀ (i : Nat) x y, xs[i]? = some x → ys[i]? = some y → Sm H n x y
theorem Sm.same {H H' : Hp} (e : Same H H') : ∀ {n : Nat} {v u : V}, Sm H n v u → Sm H' n v u
  | 0, _, _, h => h
  | n + 1, v, u, h => by
    rcases h with h | ⟨a, b, xs, ys, h1, h2, h3, h4, h5, h6⟩
    · exact .inl h
    · exact .inr ⟨a, b, xs, ys, h1, h2, e _ _ h3, e _ _ h4, h5, fun i x y hx hy => (h6 i x y hx hy).same e⟩
theorem Sm.wt {H : Hp} : ∀ {n : Nat} {v u : V}, Sm H n v u → Wt H v ∧ Wt H u
  | 0, v, u, h => by
    obtain ⟨rfl, h⟩ := h
    cases v <;> first | exact ⟨.int _, .int _⟩ | exact ⟨.str _, .str _⟩ | exact ⟨.non, .non⟩ | exact ⟨.bl _, .bl _⟩ | cases h
  | n + 1, v, u, h => by
    rcases h with ⟨rfl, h⟩ | ⟨a, b, xs, ys, rfl, rfl, h3, h4, _⟩
    · cases v <;> first | exact ⟨.int _, .int _⟩ | exact ⟨.str _, .str _⟩ | exact ⟨.non, .non⟩ | exact ⟨.bl _, .bl _⟩ | cases h
    · exact ⟨.tup h3, .tup h4⟩
theorem Sm.flat {H : Hp} {n : Nat} {v : V} (h : (isI v || isS v || isN v || isB v) = true) : Sm H n v v := by
  cases n with
  | zero => exact ⟨rfl, h⟩
  | succ n => exact .inl ⟨rfl, h⟩
def spSame (n : Nat) : Sp := fun vs H Q _ => ∃ v u, vs = [v, u] ∧ Sm H n v u ∧ ∀ H', Same H H' → Q (.bl true) H'
def SmB (H : Hp) : Nat → V → V → Prop
  | 0, _, _ => False
  | n + 1, v, u => Sm H n v u
theorem SmB.same {H H' : Hp} (e : Same H H') : ∀ {n : Nat} {v u : V}, SmB H n v u → SmB H' n v u
  | 0, _, _, h => h
  | n + 1, _, _, h => Sm.same e h
def spSameB (n : Nat) : Sp := fun vs H Q _ => ∃ v u, vs = [v, u] ∧ SmB H n v u ∧ ∀ H', Same H H' → Q (.bl true) H'
/-! ### a text, so many times -/
def rMulS : R2 := fun x y H Q => ∃ (z : Str) (n : Int), x = .str z ∧ y = .int n ∧ PySem.MulOk z n ∧ Q (.str (PySem.Txt.mul z n)) H
theorem op_mulS {X : Cx} : OpR X (binaryOp .Mult) rMulS := by
  intro pins s σ H x y v u Q I rx ry h
  obtain ⟨z, n, rfl, rfl, ok, q⟩ := h
  obtain ⟨t, rfl⟩ := rx
  obtain ⟨t', rfl⟩ := ry
  exact PySem.SB.mul ok fun t2 k => ⟨.str _, H, I.tok k, ⟨_, rfl⟩, q⟩
/-! ### the signs of a number -/
theorem digit_text {c : Nat} (h : 48 ≤ c ∧ c ≤ 57) : PySem.intText? ⟨#[c]⟩ = some ((c - 48 : Nat) : Int) := by
  have cs : c = 48 ∨ c = 49 ∨ c = 50 ∨ c = 51 ∨ c = 52 ∨ c = 53 ∨ c = 54 ∨ c = 55 ∨ c = 56 ∨ c = 57 := by omega
  rcases cs with rfl | rfl | rfl | rfl | rfl | rfl | rfl | rfl | rfl | rfl <;> decide +kernel
theorem num_digit {m i c : Nat} (h : (PySem.Str.ofString (toString ((m : Nat) : Int))).cps.toList[i]? = some c) : 48 ≤ c ∧ c ≤ 57 := by
  rw [PySem.W.KIN.signs_num] at h
  obtain ⟨ch, hch, e⟩ := List.mem_map.mp (List.mem_of_getElem? h)
  have r := PyProof.Rows.digit_range (Nat.isDigit_of_mem_toDigits (by decide) (by decide) hch)
  rw [← e]
  exact r
theorem num_val (m : Nat) : PySem.NumText.digitsVal (PySem.Str.ofString (toString ((m : Nat) : Int))).cps.toList = m := by
  rw [PySem.W.KIN.signs_num, PySem.W.KIN.val_back]
theorem take_val {l : List Nat} {i c : Nat} (h : l[i]? = some c) : PySem.NumText.digitsVal (l.take (i + 1)) = 10 * PySem.NumText.digitsVal (l.take i) + (c - 48) := by
  rw [List.take_add_one, h]
  show PySem.NumText.digitsVal (l.take i ++ [c]) = _
  rw [PySem.NumText.digitsVal_snoc]
  omega
theorem log_small {i : Int} (h0 : 0 ≤ i) (h : i ≤ 1000000000000000000000) : i.natAbs.log2 < 1920 := by
  have h1 : i.natAbs < 2 ^ 70 := by omega
  exact Nat.lt_of_lt_of_le (PySem.Flt.log2_lt_of (by decide) h1) (by decide)
abbrev flatB (x : V) : Bool := isI x || isS x || isN x || isB x
theorem Sm.tups {H : Hp} {n : Nat} {a b : Addr} {xs : List V} (ha : H a = some (.tup xs)) (hb : H b = some (.tup xs)) (fl : ∀ x ∈ xs, flatB x = true) : Sm H (n + 1) (.ref a) (.ref b) :=
  .inr ⟨a, b, xs, xs, rfl, rfl, ha, hb, rfl, fun i x y hx hy => by
    rw [hx] at hy
    cases hy
    exact Sm.flat (fl x (List.mem_of_getElem? hx))⟩
theorem SmB.tups {H : Hp} {n : Nat} {a b : Addr} {xs : List V} (ha : H a = some (.tup xs)) (hb : H b = some (.tup xs)) (fl : ∀ x ∈ xs, flatB x = true) : SmB H (n + 2) (.ref a) (.ref b) := Sm.tups ha hb fl
theorem SmB.flat {H : Hp} {n : Nat} {v : V} (h : flatB v = true) : SmB H (n + 1) v v := Sm.flat h
theorem resW_flat (v : V) : ∀ x ∈ resW v, flatB x = true := by
  intro x hx
  cases v <;> (unfold resW at hx; simp only [List.mem_cons, List.not_mem_nil, or_false] at hx)
  case int i =>
    rcases hx with rfl | rfl <;> rfl
  all_goals (subst hx; rfl)
theorem resA_flat (v u : V) : ∀ x ∈ resA v u, flatB x = true := by
  intro x hx
  unfold resA at hx
  split at hx
  · split at hx
    · split at hx
      · simp only [List.mem_cons, List.not_mem_nil, or_false] at hx
        rcases hx with rfl | rfl <;> rfl
      · cases hx
    · simp only [List.mem_cons, List.not_mem_nil, or_false] at hx
      subst hx
      rfl
  · simp only [List.mem_cons, List.not_mem_nil, or_false] at hx
    subst hx
    rfl
theorem resN_eq (v : V) : resN v = resA v (.int 1) := by
  unfold resA
  cases v with
  | int i =>
    have e1 : nn (.int 1) = true := rfl
    by_cases h : 1 ≤ i ∧ i ≤ 2147483646
    · have hv : seed (.int i) = true := by show (decide _ && decide _) = true; rw [decide_eq_true h.1, decide_eq_true h.2]; rfl
      rw [if_pos hv, if_pos e1]
      exact if_pos h
    · have hv : ¬ seed (.int i) = true := fun z => by
        obtain ⟨j, e, h1, h2⟩ := btw_int z
        cases e
        exact h ⟨h1, h2⟩
      rw [if_neg hv]
      exact if_neg h
  | _ => rfl
def spLaw (K : PySem.W.Frag) : Sp := fun vs H Q _ => ∃ (a : Addr) (ns : List Int), vs = [.ref a] ∧ SqL K H a (ns.map V.int) ∧ ∀ H', Q (.bl true) H'
end Gw

set_option Elab.async false
set_option linter.all false
set_option maxRecDepth 100000
set_option maxHeartbeats 4000000
namespace PySem
open Sem (wp)
set_option maxHeartbeats 1000000 in
theorem gw_enumerate_newB {v : Value} {o : Obj} {H : Heap → Prop} (B : Begins v o H) :
    Meets (Builtin.«enumerate.__new__» ⟨[.type "enumerate", v], []⟩) (fun _ R s => H s.heap ∧
      R (.ok (.ret (.ref (s.heap.push o).objs.size))) { s with heap := (s.heap.push o).push { cls := .type "enumerate", data := .fields #[.none, .bool false, .ref s.heap.objs.size, rawInt 0, .none, .none] } }) :=
  .of_wp fun prog w A R s h => by
    obtain ⟨hp, g, d, tk, os⟩ := s; obtain ⟨h1, h⟩ := h
    have hsub := sub_enumerate
    have q1 : ∀ {A' : Around} {E : Value → Shared → Prop} {Q : Value → Shared → Prop}, Q (.ref hp.objs.size) ⟨hp.push o, g, d, tk, os⟩ → wpAny (model prog w) A' (pyIter v) Q E ⟨hp, g, d, tk, os⟩ :=
      fun q => B.iter prog w _ _ ⟨hp, g, d, tk, os⟩ _ h1 q
    wp_walk using q1
    refine wpAny_stack_any fun st => wpAny_pure ?_
    split
    · rename_i c _ _ _ _ _
      cases (c == Value.type "enumerate")
      · wp_walk using q1
        exact ⟨_, rfl, h⟩
      · wp_walk using q1
        exact ⟨_, rfl, h⟩
    · wp_walk using q1
      exact ⟨_, rfl, h⟩
theorem gw_enum_begins {prog : Program} {w : World} {A : Around} {E : Value → Shared → Prop} {s : Shared} {v : Value} {o : Obj} {H : Heap → Prop} {Q : Value → Shared → Prop} (B : Begins v o H) (h1 : H s.heap)
    (h : ∀ h', IsEnum h' (s.heap.objs.size + 1) s.heap.objs.size 0 .none → h'.get? s.heap.objs.size = some o → h'.objs.size = s.heap.objs.size + 2 →
      (∀ b o, s.heap.get? b = some o → h'.get? b = some o) → Q (.ref (s.heap.objs.size + 1)) { s with heap := h' }) :
    wpAny (model prog w) A (call (.type "enumerate") [v]) Q E s := by
  refine callType_new F.called_enumerate (by decide) (F.typeCall_enumerate_1 _) (F.newCall_enumerate_1 _) (fun obj => F.args_object_init_2 obj _) F.entry_enumerate_new
    (gw_enumerate_newB B) ⟨h1, ?_⟩
  have hz : (s.heap.push o).objs.size = s.heap.objs.size + 1 := Heap.size_push ..
  show _ ∧ _
  rw [hz]
  have he : IsEnum ((s.heap.push o).push { cls := .type "enumerate", data := .fields #[.none, .bool false, .ref s.heap.objs.size, rawInt 0, .none, .none] }) (s.heap.objs.size + 1) s.heap.objs.size 0 .none := by
    have := Heap.get?_push_size (s.heap.push o) (o := { cls := .type "enumerate", data := .fields #[.none, .bool false, .ref s.heap.objs.size, rawInt 0, .none, .none] }) rfl
    rw [hz] at this; exact this
  refine ⟨⟨_, he, rfl⟩, h _ he (Heap.get?_push_of_some _ (Heap.get?_push_size _ B.free)) (by rw [Heap.size_push, hz]) fun b o x => Heap.get?_push_of_some _ (Heap.get?_push_of_some _ x)⟩
end PySem
namespace Gw
open PySem PySem.Spec PyProof.Rows L2 He
/-! ### enumerate(tuple) -/
def IteT (K : PySem.W.Frag) (a : Addr) (n : Nat) : It :=
  ⟨fun i H => ∃ (xs : List V) (x : V), SqT K H a xs ∧ xs.length = n ∧ xs[i]? = some x, fun i H v H' => ∃ T x, v = .ref T ∧ H T = none ∧ H' = upd H T (.tup [.int (i : Nat), x]) ∧ ∀ xs, SqT K H a xs → xs[i]? = some x, fun i H => ∃ xs : List V, SqT K H a xs ∧ xs.length = n ∧ n ≤ i⟩
theorem turn_enumT {P : Program} {w : World} {K : PySem.W.Frag} {elts : List Expr} {kk : Nat} {tpos : Pos} (a e it : Addr) (n : Nat) :
    Turn P w K (.Tuple elts kk tpos) (IteT K a n) [e, it] e (fun i h => (∃ old, IsEnum h e it ((i : Nat) : Int) old) ∧ h.IsTupleIter it a i ∧ e ≠ it ∧ a ≠ it ∧ e ≠ a ∧ i ≤ n) where
  mem := by simp
  obj := fun i h st b hb => by
    obtain ⟨⟨old, he⟩, ⟨o, ho, hc, hd⟩, _⟩ := st
    have e' : b = e ∨ b = it := by simpa using hb
    rcases e' with z | z
    · rw [z]; exact ⟨_, he, fun v q => nomatch q⟩
    · rw [z]; exact ⟨o, ho, fun v q => by rw [hd] at q; cases q⟩
  keep := fun i h h' st k => let ⟨⟨old, he⟩, hi, hne⟩ := st; ⟨⟨old, k e (by simp) _ he⟩, hi.at fun o q => k it (by simp) o q, hne⟩
  item := by
    intro X hP hw hK hc i pins s σ H E I hf st hg
    subst hP hw hK
    obtain ⟨⟨old, he⟩, hit, hne, hat, hea, hin⟩ := st
    obtain ⟨xs, x, hq, hn, hx⟩ := hg
    obtain ⟨its, rv, p, hz⟩ := I.tuple hq
    obtain ⟨u, hu, ru⟩ := rv.get hx
    have hel : e < s.heap.objs.size := Heap.lt_size he
    have hil : it < s.heap.objs.size := by obtain ⟨_, q, _⟩ := hit; exact Heap.lt_size q
    have hlt : i < its.toArray.size := by
      have z := (List.getElem?_eq_some_iff.mp hu).1
      simpa using z
    have D := PySem.Draws.tuple (prog := X.prog) (w := X.w) (A := X.A.in1) (show X.A.in1.handled = none from I.ok.hd hc) it a hat its.toArray
    refine PySem.wpAny_pyNext_enum_itemC (c := ((i : Nat) : Int)) D he ⟨hit, p⟩ hlt hne (by simp [hne, hea]) fun x' h' tk hx' ho hit' hT hsz hk => ?_
    have eu : x' = u := by
      have q1 : its.toArray[i]? = some x' := hx'
      have q2 : its.toArray[i]? = some u := by simpa using hu
      rw [q1] at q2
      exact Option.some.inj q2
    subst eu
    refine ⟨_, rfl, wpAny_letOwnedTupleGo_enum (s := { s with heap := h', toks := tk + 1 }) ho fun h'' he' sb => ?_⟩
    have hT2 : h''.get? s.heap.objs.size = some { cls := .type "tuple", data := .seq #[.int i tk, x'] } := (sb.2 _ (Nat.ne_of_gt hel)).trans hT
    have new : ObjOk X.prog X.w (upd H s.heap.objs.size (.tup [.int (i : Nat), x])) h'' s.heap.objs.size (.tup [.int (i : Nat), x]) :=
      ⟨by show 2 ≤ sizeLine; decide, [.int i tk, x'], .cons ⟨_, rfl⟩ (.cons ru .nil), ⟨_, hT2, rfl, _, rfl⟩⟩
    have I1 : Inv X pins σ (upd H s.heap.objs.size (.tup [.int (i : Nat), x])) { s with heap := h'', toks := tk + 1 } :=
      I.turnedNew (ch := [e, it]) (fun b ob hb q => (sb.2 b (fun z => hb (by simp [z]))).trans (hk b ob (fun z => hb (by simp [z])) (fun z => hb (by simp [z])) q)) hf (Nat.le_refl _) new
    refine ⟨.ref s.heap.objs.size, _, I1, rfl, ⟨_, x, rfl, I.hok.fresh (Nat.le_refl _), rfl, fun ys hy => by rw [I.tuple_inj hy hq]; exact hx⟩, ⟨⟨x', ?_⟩, hit'.1.at fun o q => (sb.2 it (Ne.symm hne)).trans q, hne, hat, hea, by have z := (List.getElem?_eq_some_iff.mp hx).1; omega⟩, fun b hb => ?_⟩
    · have e1 : ((i + 1 : Nat) : Int) = (i : Int) + 1 := by omega
      rw [e1]; exact he'
    · have hb' : b < s.heap.objs.size := by
        have e' : b = e ∨ b = it := by simpa using hb
        rcases e' with z | z
        · rw [z]; exact hel
        · rw [z]; exact hil
      rw [upd_ne (Nat.ne_of_lt hb')]
      exact (hf b hb).1
  done := by
    intro X hP hw hK hc i pins s σ H E I hf st hg
    subst hP hw hK
    obtain ⟨⟨old, he⟩, hit, hne, hat, hea, hin⟩ := st
    obtain ⟨xs, hq, hn, hx⟩ := hg
    obtain ⟨its, rv, p, hz⟩ := I.tuple hq
    obtain ⟨f0, f1, f2, f3, f4, f5⟩ := hf it (by simp)
    have hl := rv.length
    have D := PySem.Draws.tuple (prog := X.prog) (w := X.w) (A := X.A.in1) (show X.A.in1.handled = none from I.ok.hd hc) it a hat its.toArray
    have ei : i = its.toArray.size := by simp; omega
    refine PySem.wpAny_pyNext_enum_endD (i := ((i : Nat) : Int)) D he ⟨by rw [← ei]; exact hit, p⟩ fun h' eb => ⟨rfl, I.turned (t' := s.toks) (fun b o hb q => eb b o hb q) f0 f1 f3 f4 f5⟩
  self := fun A i s Q E st h => let ⟨⟨_, he⟩, _⟩ := st; wpAny_pyIter_enum he h
def iEnumT (K : PySem.W.Frag) (ta : TA) : TI := fun σ H R => ta σ H fun vs H1 => ∃ a xs, vs = [.ref a] ∧ SqT K H1 a xs ∧ R (IteT K a xs.length) H1
theorem pi_enumT {X : Cx} {e : Expr} {ta : TA} {p pos tpos : Pos} {elts : List Expr} {kk : Nat} (hg : Gl X "enumerate") (hm : X.mg "enumerate" = none) (ha : PA X [e] ta) (hs : starEach [e] X.env = [(false, eval e X.env)] := by rfl) :
    PI X (.Tuple elts kk tpos) (.Call (.Name "enumerate" p) [e] [] pos) (iEnumT X.K ta) := by
  refine ⟨fun pins s σ H R I h => ?_⟩
  refine Call_ (ld_blt I hg hm boot_enumerate (PyProof.Rows.callWith_type1 (thn (ha.run pos pins s σ H _ I h) fun us s1 ⟨vs, H1, I1, r1, q1⟩ => ?_) hs rfl))
  obtain ⟨a, xs, ex, hq, q⟩ := q1
  subst ex
  cases r1 with
  | cons r rr =>
    cases rr
    cases r
    obtain ⟨its, rv, p', hz⟩ := I1.tuple hq
    have hal : a < s1.heap.objs.size := by obtain ⟨o, ho, _⟩ := p'; exact Heap.lt_size ho
    refine PySem.gw_enum_begins (PySem.begins_tuple a its.toArray) p' fun h' he hit hsz hk => wpAny_pyIter_enum he ?_
    have I2 : Inv X pins σ H1 { s1 with heap := h' } := I1.kept (t' := s1.toks) hk
    refine ⟨s1.heap.objs.size + 1, [s1.heap.objs.size + 1, s1.heap.objs.size], _, _, H1, rfl, I2, turn_enumT a (s1.heap.objs.size + 1) s1.heap.objs.size xs.length, ⟨⟨.none, he⟩, ⟨_, hit, rfl, rfl⟩, Nat.succ_ne_self _, Nat.ne_of_lt hal, Nat.ne_of_gt (Nat.lt_succ_of_lt hal), Nat.zero_le _⟩, fun b hb => ?_, q⟩
    have e' : b = s1.heap.objs.size + 1 ∨ b = s1.heap.objs.size := by simpa using hb
    have hle : s1.heap.objs.size ≤ b := by
      rcases e' with z | z
      · rw [z]; exact Nat.le_add_right _ _
      · rw [z]; exact Nat.le_refl _
    exact I1.fpOk hle (I1.hok.fresh hle)
theorem for_enumT {K : PySem.W.Frag} {a : Addr} {xs : List V} {g : TG} {tb : TS} {D : Ends} {σ : L2.St} {H : Hp} (Pv : Nat → L2.St → Hp → Prop) (h0 : Pv 0 σ H) (hl : ∀ i σ H, Pv i σ H → SqT K H a xs)
    (hs : ∀ i x t σ H, xs[i]? = some x → Pv i σ H → H t = none → g (.ref t) σ (upd H t (.tup [.int (i : Nat), x])) fun σ2 H2 => tb { D with nx := Pv (i + 1), ct := Pv (i + 1), bk := D.nx } σ2 H2) (hd : ∀ σ H, Pv xs.length σ H → D.nx σ H) :
    ∃ W : Nat → Nat → L2.St → Hp → Prop, (∃ m, W 0 m σ H) ∧ ∀ i m σ H, W i m σ H →
      ((IteT K a xs.length).stop i H ∧ D.nx σ H) ∨ ((IteT K a xs.length).go i H ∧ ∃ N : L2.St → Hp → Prop, (∀ σ' H', N σ' H' → ∃ m', m' < m ∧ W (i + 1) m' σ' H') ∧ ∀ x H', (IteT K a xs.length).yld i H x H' → g x σ H' fun σ2 H2 => tb { D with nx := N, ct := N, bk := D.nx } σ2 H2) := by
  refine ⟨fun i m σ H => m = xs.length - i ∧ i ≤ xs.length ∧ Pv i σ H, ⟨xs.length, by simp, Nat.zero_le _, h0⟩, ?_⟩
  rintro i m σ H ⟨rfl, hi, p⟩
  have q := hl i σ H p
  by_cases hlt : i < xs.length
  · refine .inr ⟨⟨xs, xs[i], q, rfl, by simp [hlt]⟩, Pv (i + 1), fun σ' H' p' => ⟨xs.length - (i + 1), by omega, rfl, hlt, p'⟩, fun x H' y => ?_⟩
    obtain ⟨T, x, rfl, hT, rfl, y⟩ := y
    exact hs i x T σ _ (y xs q) p hT
  · have e : i = xs.length := by omega
    subst e
    exact .inl ⟨⟨xs, q, rfl, Nat.le_refl _⟩, hd σ H p⟩
/-! ### range(i, j) of any integers -/
theorem turn_long {P : Program} {w : World} {K : PySem.W.Frag} {tg : Expr} (it : Addr) (lo : Int) (n : Nat) : Turn P w K tg (Itr lo n) [it] it (fun i h => IsLongIter h it (lo + (i : Nat) * 1) ((n : Int) - (i : Nat)) 1) where
  mem := by simp
  obj := fun i h st b hb => by
    have e : b = it := by simpa using hb
    subst e
    exact ⟨_, st, fun v z => by
      have z' : Data.fields _ = Data.cell v := z
      cases z'⟩
  keep := fun i h h' st k => k it (by simp) _ st
  item := by
    intro X hP hw hK hc i pins s σ H E I hf st hg
    subst hP hw hK
    obtain ⟨f0, f1, f2, f3, f4, f5⟩ := hf it (by simp)
    have W := Walks.longrange (prog := X.prog) (w := X.w) (I.ok.hd hc) it lo 1 n
    refine W.item i s _ _ hg st fun v h' tk hv st' kk => ?_
    obtain ⟨t, rfl⟩ := hv
    have I1 : Inv X pins σ H { s with heap := h', toks := tk } := I.turned (fun b o hb e => kk b o (by simpa using hb) e) f0 f1 f3 f4 f5
    refine ⟨_, rfl, go_of (s := { s with heap := h', toks := tk }) (n := "longrange_iterator") st' rfl rfl (by decide) ⟨.int (lo + i), H, I1, ⟨t, ?_⟩, ⟨rfl, rfl⟩, st', fun b hb => (hf b hb).1⟩⟩
    rw [Int.mul_one]
  done := by
    intro X hP hw hK hc i pins s σ H E I hf st hg
    subst hP hw hK
    obtain ⟨f0, f1, f2, f3, f4, f5⟩ := hf it (by simp)
    exact wpAny_pyNext_long_end (I.ok.hd hc) st (by have : n ≤ i := hg; omega) fun h' eb => ⟨rfl, I.turned (t' := s.toks) (fun b o hb e => eb b o hb e) f0 f1 f3 f4 f5⟩
  self := fun A i s Q E st h => wpAny_pyIter_longiter st h
theorem range_itW {X : Cx} {tg : Expr} {pins : List (Addr × Obj)} {σ : L2.St} {H : Hp} {s : Shared} {R : It → Hp → Prop} {E : Value → Shared → Prop} {lo hi : Int} {t u v : Tok} {tk : Nat} (I : Inv X pins σ H s)
    (q : R (Itr lo (hi - lo).toNat) H) : wpAny (model X.prog X.w) X.A (pyIter (.ref s.heap.objs.size)) (PIE X pins σ tg R) E { s with heap := s.heap.push { cls := .type "range", data := .fields #[.int lo t, .int hi u, .int 1 v] }, toks := tk } := by
  have I1 : Inv X pins σ H { s with heap := s.heap.push { cls := .type "range", data := .fields #[.int lo t, .int hi u, .int 1 v] }, toks := tk } := I.kept fun b o e => Heap.get?_push_of_some _ e
  have e1 : lo + ((0 : Nat) : Int) * 1 = lo := by simp
  have e2 : (((hi - lo).toNat : Nat) : Int) - ((0 : Nat) : Int) = Builtin.Range.rangeSize lo hi 1 := by rw [rangeSize_one]; split <;> omega
  cases hs : Builtin.Range.small lo hi 1
  · refine wpAny_pyIter_longrange (IsRange.new ..) hs ?_
    refine pi_one (tk := tk) I1 _ (turn_long _ lo (hi - lo).toNat) ?_ q
    show IsLongIter _ _ (lo + ((0 : Nat) : Int) * 1) ((((hi - lo).toNat : Nat) : Int) - ((0 : Nat) : Int)) 1
    rw [e1, e2]
    exact Heap.get?_push_size _ rfl
  · refine wpAny_pyIter_range (IsRange.new ..) hs ?_
    refine pi_one (tk := tk) I1 _ (turn_range _ lo (hi - lo).toNat) ?_ q
    show IsRangeIter _ _ (lo + ((0 : Nat) : Int) * 1) ((((hi - lo).toNat : Nat) : Int) - ((0 : Nat) : Int)) 1
    rw [e1, e2]
    exact Heap.get?_push_size _ rfl
def iRng2W (ta : TA) : TI := fun σ H R => ta σ H fun vs H1 => ∃ i j : Int, vs = [.int i, .int j] ∧ R (Itr i (j - i).toNat) H1
theorem pi_range2W {X : Cx} {tg : Expr} {a b : Expr} {ta : TA} {p pos : Pos} (hg : Gl X "range") (hm : X.mg "range" = none) (ha : PA X [a, b] ta) (hs : starEach [a, b] X.env = [(false, eval a X.env), (false, eval b X.env)] := by rfl) (hs2 : starEach [b] X.env = [(false, eval b X.env)] := by rfl) :
    PI X tg (.Call (.Name "range" p) [a, b] [] pos) (iRng2W ta) := by
  refine ⟨fun pins s σ H R I h => ?_⟩
  refine Call_ (ld_blt I hg hm boot_range (PyProof.Rows.callWith_type1 (thn (ha.run pos pins s σ H _ I h) fun us s1 ⟨vs, H1, I1, r1, q1⟩ => ?_) (by rw [hs, hs2]) (by rw [hs2]; rfl)))
  obtain ⟨i, j, e, q⟩ := q1
  subst e
  cases r1 with
  | cons r rr =>
    cases rr with
    | cons r' rr =>
      cases rr
      obtain ⟨t, rfl⟩ := r
      obtain ⟨t', rfl⟩ := r'
      exact call_range_2 (range_itW I1 q)
/-! ### the own ==, whatever it answers -/
/-- an own == of two instances of the class at C: what R says of them, for some outcome -/
def rOwnEq (C : Addr) (sp : Sp) : R2 := fun x y H Q => ∃ a b dx dy fs gs, x = .ref a ∧ y = .ref b ∧ H a = some (.ins C dx fs) ∧ H b = some (.ins C dy gs) ∧ sp [.ref a, .ref b] H (fun v H' => ∃ r : Bool, v = .bl r ∧ Q (.bl r) H') E0
theorem op_ownEq {X : Cx} {CX : CXT} {n : Nat} {C f : Addr} {fd : FuncData} {ps : List Str} {sp : Sp} (F : FnOk X.prog X.w X.K X.mg X.base CX n f fd ps sp) (hr : Room n X.A)
    (hs : PySem.W.findIn X.K (.ref C) "__eq__" = some (some (.ref f))) (hf : PySem.W.isFn X.K (.ref f) = true) (hb : Binds X.K fd ps []) (hx : Passes CX X E0) : OpR X (compareOp .Eq) (rOwnEq C sp) := by
  intro pins s σ H x y v u Q I rx ry d
  obtain ⟨a, b, dx, dy, fs, gs, rfl, rfl, ha, hb', hsp⟩ := d
  cases rx
  cases ry
  obtain ⟨mA, J, _⟩ := ins_get I.hok ha
  obtain ⟨mB, J', _⟩ := ins_get I.hok hb'
  obtain ⟨od, J, _⟩ := J.look
  obtain ⟨od', J', _⟩ := J'.look
  obtain ⟨m, hF⟩ := I.fr
  show wpAny (model X.prog X.w) X.A (richCompare .Eq (.ref a) (.ref b)) (EP X pins σ Q) X.xe s
  refine PySem.W.cmp_K (op := .Eq) (tb := .ref C) hr.units0 hF I.ok.mod.kin J J'.type (by simp [PySem.W.notFirst]) hs hf ?_
  have hl := F.len _ _ _ _ hsp
  have r2 : Vals [V.ref a, V.ref b] [Value.ref a, Value.ref b] := .cons rfl (.cons rfl .nil)
  refine wpAny_call (codeAny_mono (F.run X.A X.stack s H ⟨[.ref a, .ref b], []⟩ [.ref a, .ref b] [.ref a, .ref b] _ E0 hr I.env0 (by
    have := hb s [.ref a, .ref b] I.kIn (by simpa using hl)
    simpa using this) r2 hsp) fun r s' hq => ?_)
  cases r with
  | error e => exact hx pins σ H s e s' I hq
  | ok fl =>
    cases fl with
    | ret w =>
      obtain ⟨z, H', I', rz, r, ez, q⟩ := I.after hq
      subst ez
      cases (show w = Value.bool r from rz)
      exact ⟨.bl r, H', I', rfl, q⟩
    | next => exact False.elim hq
    | brk => exact False.elim hq
    | cont => exact False.elim hq
/-! ### a def that may raise, where it doesn't -/
theorem noraise {P : Program} {w : World} {K : PySem.W.Frag} {mg : Str → Option Value} {base : Heap} {k : Nat} {f : Addr} {fd : FuncData} {ps : List Str} {sp sp' : Sp} (F : FnOk P w K mg base (L2.CX P w) k f fd ps sp)
    (h : ∀ vs H Q E, sp' vs H Q E → sp vs H Q E0) : FnOk P w K mg base CX0 k f fd ps sp' :=
  ⟨fun vs H Q E q => F.len vs H Q E0 (h _ _ _ _ q), fun A outer s H args us vs Q E hr he hb hv hs => codeAny_mono (F.run A outer s H args us vs Q E0 hr he hb hv (h _ _ _ _ hs)) fun r s' z => by
    cases r with
    | error e => obtain ⟨_, _, _, _, _, _, _, _, _, _, _, _, z⟩ := z; exact z.elim
    | ok fl => cases fl <;> exact z⟩
/-! ### making an instance by an __init__ that may raise, in a try -/
def tMakeS (C : Addr) (sp : Sp) (E : L2.St → XK) (t : TA) : TE := fun σ H Q => t σ H fun vs H1 => ∀ x dx, H1 x = none → H1 dx = none → dx ≠ x →
  sp (.ref x :: vs) (upd (upd H1 dx (.own x)) x (.ins C dx [])) (fun v H2 => v = .non ∧ Q (.ref x) H2) (E σ)
section
variable {X : Cx} {CX : CXT} {k : Nat} {f C : Addr} {fd : FuncData} {ps : List Str} {sp : Sp} {E : L2.St → XK} {x : Str} {p pos : Pos} {e : Expr} {es : List Expr} {t : TA}
theorem run_makeS {pins : List (Addr × Obj)} {σ : L2.St} {H : Hp} {s : Shared} {Q : VK} {us : List Value} {vs : List V} (M : Mk X.K C f) (F : FnOk X.prog X.w X.K X.mg X.base CX k f fd ps sp) (hr : Room (k + 1) X.A) (hb : Binds X.K fd ps [])
    (hx : PassesAt CX X σ (E σ)) (I : Inv X pins σ H s) (r : Vals vs us)
    (h : ∀ x dx, H x = none → H dx = none → dx ≠ x → sp (.ref x :: vs) (upd (upd H dx (.own x)) x (.ins C dx [])) (fun v H2 => v = .non ∧ Q (.ref x) H2) (E σ)) :
    wpAny (model X.prog X.w) X.A (call (.ref C) us) (EP X pins σ Q) X.xe s := by
  have hq := h (s.heap.objs.size + 1) s.heap.objs.size (I.hok.fresh (Nat.le_succ _)) (I.hok.fresh (Nat.le_refl _)) (Nat.ne_of_lt (Nat.lt_succ_self _))
  have I2 := Inv.made (C := C) I
  have r2 : Vals (V.ref (s.heap.objs.size + 1) :: vs) (Value.ref (s.heap.objs.size + 1) :: us) := .cons rfl r
  have hl : (Value.ref (s.heap.objs.size + 1) :: us ++ []).length = ps.length := by
    have e := r2.length
    rw [F.len _ _ _ _ hq] at e
    rw [List.append_nil]
    exact e.symm
  have hB := hb _ (Value.ref (s.heap.objs.size + 1) :: us) I2.kIn hl
  rw [List.append_nil] at hB
  refine wpAny_call (make_map (f := f) I.kIn M.makes M.init (beq_iff_eq.mp M.fn) (codeAny_mono (F.run _ X.stack _ _ ⟨Value.ref (s.heap.objs.size + 1) :: us, []⟩ (Value.ref (s.heap.objs.size + 1) :: us) _ _ (E σ) (hr.make C us [])
    (I2.env0.make C us []) hB r2 hq) fun r s' hq' => ?_))
  cases r with
  | error e => exact hx pins _ _ e s' I2 hq'
  | ok fl =>
    cases fl with
    | ret u =>
      obtain ⟨v, H', I3, rv, ev, q3⟩ := I2.after hq'
      subst ev
      exact ⟨rv, ⟨V.ref (s.heap.objs.size + 1), H', I3, rfl, q3⟩⟩
    | next => exact False.elim hq'
    | brk => exact False.elim hq'
    | cont => exact False.elim hq'
theorem pe_makeS (M : Mk X.K C f) (F : FnOk X.prog X.w X.K X.mg X.base CX k f fd ps sp) (hr : Room (k + 1) X.A) (hm : X.mg x = some (.ref C)) (hb : Binds X.K fd ps []) (hx : ∀ σ, PassesAt CX X σ (E σ))
    (ha : PA X (e :: es) t) (hg : Gl X x := by rfl) (hdb : (x == ("__debug__" : Str)) = false := by decide) (he : starEach (e :: es) X.env = (false, eval e X.env) :: starEach es X.env := by rfl) (hpl : (backTo pos (starEach es X.env)).any (·.1) = false := by rfl) :
    PE X (.Call (.Name x p) (e :: es) [] pos) (tMakeS C sp E t) := by
  refine ⟨fun pins s σ H Q I h => ?_⟩
  refine wpAny_Call_Name_kw (ld_glob I hg hm ?_ hdb)
  refine PySem.W.callWith_K (h₀ := X.base) I.ok.mod.kin M.kp (thn (ha.run pos pins s σ H _ I h) fun us s1 ⟨vs, H1, I1, r, q⟩ => ⟨I1.kIn, ?_⟩) he hpl
  exact run_makeS M F hr hb (hx σ) I1 r q
end
/-! ### a class of instances: what the head tells of it -/
structure ClsT (K : PySem.W.Frag) (C f g : Addr) : Prop where
  cl : Cls K C
  mkr : Mk K C f
  eq : PySem.W.findIn K (.ref C) "__eq__" = some (some (.ref g))
  eqf : PySem.W.isFn K (.ref g) = true
def clsB (K : PySem.W.Frag) (C f g : Addr) : Bool := PySem.W.plainGet K C Str.empty && (PySem.W.hasDictIn K C && (PySem.W.plainOver K C && (eqO (PySem.W.findIn K (.ref C) "__setattr__") (some (some (.builtin "object.__setattr__"))) &&
  (PySem.W.makesIn K C && (eqO (PySem.W.findIn K (.ref C) "__init__") (some (some (.ref f))) && (PySem.W.isFn K (.ref f) && (PySem.W.keepIn K (.ref C) && (eqO (PySem.W.findIn K (.ref C) "__eq__") (some (some (.ref g))) && PySem.W.isFn K (.ref g)))))))))
theorem clsB_ok {K : PySem.W.Frag} {C f g : Addr} (h : clsB K C f g = true) : ClsT K C f g := by
  obtain ⟨h1, h⟩ := ba h
  obtain ⟨h2, h⟩ := ba h
  obtain ⟨h3, h⟩ := ba h
  obtain ⟨h4, h⟩ := ba h
  obtain ⟨h5, h⟩ := ba h
  obtain ⟨h6, h⟩ := ba h
  obtain ⟨h7, h⟩ := ba h
  obtain ⟨h8, h⟩ := ba h
  obtain ⟨h9, h10⟩ := ba h
  exact ⟨⟨h1, h2, h3, eqO_ok h4⟩, ⟨h5, eqO_ok h6, h7, h8⟩, eqO_ok h9, h10⟩
def noB (K : PySem.W.Frag) (C : Addr) (x : Str) : Bool := eqO (PySem.W.findIn K (.ref C) x) (some none)
theorem noB_ok {K : PySem.W.Frag} {C : Addr} {x : Str} (h : noB K C x = true) : NoAttr K C x := eqO_ok h
/-- isinstance of an instance: what is asked of its class -/
structure InsT (K : PySem.W.Frag) (C : Addr) : Prop where
  ha : PySem.W.findIn K (.ref C) "__class__" = some (some (.builtin "object.__class__"))
  hn : PySem.W.specialIn K (.builtin "object.__class__") "__get__" = some (some (.builtin "getset_descriptor.__get__"))
  htk : PySem.W.takesIn K (.builtin "object.__class__") = some true
  hm : PySem.W.mroIn K C (.type "object") = some true
def insB (K : PySem.W.Frag) (C : Addr) : Bool := eqO (PySem.W.findIn K (.ref C) "__class__") (some (some (.builtin "object.__class__"))) && (eqO (PySem.W.specialIn K (.builtin "object.__class__") "__get__") (some (some (.builtin "getset_descriptor.__get__"))) &&
  (decide (PySem.W.takesIn K (.builtin "object.__class__") = some true) && decide (PySem.W.mroIn K C (.type "object") = some true)))
theorem insB_ok {K : PySem.W.Frag} {C : Addr} (h : insB K C = true) : InsT K C := by
  obtain ⟨h1, h⟩ := ba h
  obtain ⟨h2, h⟩ := ba h
  obtain ⟨h3, h4⟩ := ba h
  exact ⟨eqO_ok h1, eqO_ok h2, of_decide_eq_true h3, of_decide_eq_true h4⟩
theorem ei_ins {K : PySem.W.Frag} {H : Hp} {C p dx : Addr} {fs : List (Str × V)} {R : Bool → Prop} (e : H p = some (.ins C dx fs)) (c : Cls K C) (i : InsT K C) (q : R true) :
    ∃ (x c : V) (t u : Value) (b : Bool), [V.ref p, V.ref C] = [x, c] ∧ ClsV c u ∧ TyX K H x t ∧ PySem.W.kitOne K t u = some b ∧ R b :=
  ⟨.ref p, .ref C, .ref C, .ref C, true, rfl, .own C, .base (.ins e c i.ha i.hn i.htk i.hm), if_pos (beq_self_eq_true _), q⟩
end Gw

set_option Elab.async false
set_option linter.all false
set_option maxRecDepth 100000
set_option maxHeartbeats 4000000
namespace Gw
open PySem PySem.Spec PyProof.Rows L2 He
/-! ### signs and rows -/
def signs : List Nat := [46, 35, 48, 49, 50, 51, 52, 53, 54, 55, 56, 57]
def sgB (c : Nat) : Bool := decide (c ∈ signs)
theorem sg1 (c : Nat) : decide (c ∈ (".#0123456789" : Str).cps.toList) = sgB c := by
  have e : (".#0123456789" : Str).cps.toList = signs := by decide +kernel
  rw [e]; rfl
theorem sg2 (c : Nat) : decide (c ∈ ("#.0123456789" : Str).cps.toList) = sgB c := by
  have e : ("#.0123456789" : Str).cps.toList = [35, 46, 48, 49, 50, 51, 52, 53, 54, 55, 56, 57] := by decide +kernel
  rw [e]
  unfold sgB signs
  refine decide_eq_decide.mpr ?_
  simp only [List.mem_cons]
  constructor <;> (intro h; rcases h with h | h | h <;> first | exact .inl h | exact .inr (.inl h) | exact .inr (.inr h))
def allS (z : Str) : Bool := z.cps.toList.all sgB
def rowOk : V → Bool
  | .str z => decide (1 ≤ z.length) && (decide (z.length ≤ 40) && allS z)
  | _ => false
def slen : V → Nat
  | .str z => z.length
  | _ => 0
def wid : List V → Nat
  | x :: _ => slen x
  | [] => 0
def rowB (n : Nat) (v : V) : Bool := rowOk v && decide (slen v = n)
theorem rowOk_str {v : V} (h : rowOk v = true) : ∃ z, v = .str z ∧ 1 ≤ z.length ∧ z.length ≤ 40 ∧ allS z = true := by
  cases v with
  | str z =>
    obtain ⟨h1, h⟩ := Bool.and_eq_true_iff.mp h
    obtain ⟨h2, h3⟩ := Bool.and_eq_true_iff.mp h
    exact ⟨z, rfl, of_decide_eq_true h1, of_decide_eq_true h2, h3⟩
  | _ => cases h
theorem rowOk_of {z : Str} (h1 : 1 ≤ z.length) (h2 : z.length ≤ 40) (h3 : allS z = true) : rowOk (.str z) = true := by
  show (decide _ && (decide _ && allS z)) = true
  rw [decide_eq_true h1, decide_eq_true h2, h3]; rfl
theorem rowB_str {n : Nat} {v : V} (h : rowB n v = true) : ∃ z, v = .str z ∧ 1 ≤ z.length ∧ z.length ≤ 40 ∧ allS z = true ∧ z.length = n := by
  obtain ⟨h1, h2⟩ := Bool.and_eq_true_iff.mp h
  obtain ⟨z, rfl, a, b, c⟩ := rowOk_str h1
  exact ⟨z, rfl, a, b, c, of_decide_eq_true h2⟩
theorem rowB_of {n : Nat} {z : Str} (h1 : 1 ≤ z.length) (h2 : z.length ≤ 40) (h3 : allS z = true) (h4 : z.length = n) : rowB n (.str z) = true := by
  unfold rowB
  rw [rowOk_of h1 h2 h3, decide_eq_true (show slen (.str z) = n from h4)]; rfl
/-! ### grounds -/
structure GoodL (xs : List V) : Prop where
  l1 : 1 ≤ xs.length
  l2 : xs.length ≤ 30
  all : ∀ x ∈ xs, rowB (wid xs) x = true
theorem GoodL.at {xs : List V} (g : GoodL xs) {i : Nat} {x : V} (h : xs[i]? = some x) : ∃ z, x = .str z ∧ 1 ≤ z.length ∧ z.length ≤ 40 ∧ allS z = true ∧ z.length = wid xs := rowB_str (g.all x (List.mem_of_getElem? h))
theorem GoodL.wid {xs : List V} (g : GoodL xs) : 1 ≤ Gw.wid xs ∧ Gw.wid xs ≤ 40 := by
  have h0 : 0 < xs.length := g.l1
  obtain ⟨z, _, a, b, _, e⟩ := g.at (List.getElem?_eq_getElem h0)
  omega
def badI (xs : List V) : Option Nat := xs.findIdx? (fun v => !rowB (wid xs) v)
def badL (xs : List V) : Option Int := if 1 ≤ xs.length ∧ xs.length ≤ 30 then (badI xs).map (fun k => (k : Int)) else some (-1)
def badOf (H : Hp) : V → Option Int
  | .ref a => match H a with
    | some (.tup xs) => badL xs
    | _ => some (-1)
  | _ => some (-1)
theorem badOf_tup {H : Hp} {a : Addr} {xs : List V} (e : H a = some (.tup xs)) : badOf H (.ref a) = badL xs := by
  show (match H a with | some (.tup xs) => badL xs | _ => some (-1)) = _
  rw [e]
theorem badOf_not {H : Hp} {v : V} (h : isT H v = false) : badOf H v = some (-1) := by
  cases v with
  | ref a =>
    show (match H a with | some (.tup xs) => badL xs | _ => some (-1)) = _
    have h' : (match H a with | some (.tup _) => true | _ => false) = false := h
    split
    · rename_i xs e
      rw [e] at h'
      cases h'
    · rfl
  | _ => rfl
theorem badOf_same {H H' : Hp} {v : V} (W : Wt H v) (s : Same H H') : badOf H' v = badOf H v := by
  cases W with
  | lst e => rw [badOf_not (isT_lst e), badOf_not (isT_lst (s _ _ e))]
  | tup e => rw [badOf_tup e, badOf_tup (s _ _ e)]
  | dct e => rw [badOf_not (isT_dK e), badOf_not (isT_dK (s _ _ e))]
  | _ => rfl
theorem isT_ex {H : Hp} {v : V} (h : isT H v = true) : ∃ a xs, v = .ref a ∧ H a = some (.tup xs) := by
  cases v with
  | ref a =>
    have h' : (match H a with | some (.tup _) => true | _ => false) = true := h
    cases e : H a with
    | none => rw [e] at h'; cases h'
    | some o =>
      cases o with
      | tup xs => exact ⟨a, xs, rfl, e⟩
      | _ => rw [e] at h'; cases h'
  | _ => cases h
theorem badL_len {xs : List V} (h : ¬ (1 ≤ xs.length ∧ xs.length ≤ 30)) : badL xs = some (-1) := if_neg h
/-- all rows ahead of the k-th are right -/
def Pre (xs : List V) (k : Nat) : Prop := ∀ (j : Nat) (x : V), j < k → xs[j]? = some x → rowB (wid xs) x = true
theorem Pre.zero {xs : List V} : Pre xs 0 := fun j x h => absurd h (Nat.not_lt_zero _)
theorem Pre.succ {xs : List V} {k : Nat} {x : V} (p : Pre xs k) (h : xs[k]? = some x) (r : rowB (wid xs) x = true) : Pre xs (k + 1) := fun j y hj hy => by
  by_cases e : j = k
  · subst e
    rw [h] at hy
    cases hy
    exact r
  · exact p j y (by omega) hy
theorem badL_at {xs : List V} {k : Nat} {x : V} (h1 : 1 ≤ xs.length) (h2 : xs.length ≤ 30) (p : Pre xs k) (h : xs[k]? = some x) (r : rowB (wid xs) x = false) : badL xs = some (k : Int) := by
  unfold badL
  rw [if_pos ⟨h1, h2⟩]
  have e : badI xs = some k := by
    unfold badI
    obtain ⟨hk, hx⟩ := List.getElem?_eq_some_iff.mp h
    rw [List.findIdx?_eq_some_iff_getElem]
    refine ⟨hk, by rw [hx, r]; rfl, fun j hj => ?_⟩
    have hj' : j < xs.length := by omega
    rw [p j _ hj (List.getElem?_eq_getElem hj')]
    decide
  rw [e]; rfl
theorem badL_none {xs : List V} (h1 : 1 ≤ xs.length) (h2 : xs.length ≤ 30) (p : Pre xs xs.length) : badL xs = none ∧ GoodL xs := by
  have g : ∀ x ∈ xs, rowB (wid xs) x = true := fun x hx => by
    obtain ⟨j, hj⟩ := List.mem_iff_getElem?.mp hx
    exact p j x (List.getElem?_eq_some_iff.mp hj).1 hj
  refine ⟨?_, ⟨h1, h2, g⟩⟩
  unfold badL
  rw [if_pos ⟨h1, h2⟩]
  have e : badI xs = none := by
    unfold badI
    rw [List.findIdx?_eq_none_iff]
    intro x hx
    rw [g x hx]; rfl
  rw [e]; rfl
theorem GoodL.bad {xs : List V} (g : GoodL xs) : badL xs = none := (badL_none g.l1 g.l2 fun _ x _ h => g.all x (List.mem_of_getElem? h)).1
theorem good_of {xs : List V} (h : badL xs = none) : GoodL xs := by
  unfold badL at h
  by_cases c : 1 ≤ xs.length ∧ xs.length ≤ 30
  · rw [if_pos c] at h
    refine ⟨c.1, c.2, fun x hx => ?_⟩
    have e : badI xs = none := by
      cases q : badI xs with
      | none => rfl
      | some k => rw [q] at h; cases h
    unfold badI at e
    rw [List.findIdx?_eq_none_iff] at e
    have := e x hx
    cases r : rowB (Gw.wid xs) x with
    | true => rfl
    | false => rw [r] at this; cases this
  · rw [if_neg c] at h
    cases h
theorem good_ex {H : Hp} {v : V} (h : badOf H v = none) : ∃ a xs, v = .ref a ∧ H a = some (.tup xs) ∧ GoodL xs := by
  cases c : isT H v with
  | false => rw [badOf_not c] at h; cases h
  | true =>
    obtain ⟨a, xs, rfl, e⟩ := isT_ex c
    rw [badOf_tup e] at h
    exact ⟨a, xs, rfl, e, good_of h⟩
def badV : Option Int → V
  | none => .non
  | some k => .int k
/-! ### things that may be rows of a ground -/
def Nc (H : Hp) (v : V) : Prop := Wt H v ∧ ∀ z, v = .str z → z.length ≤ 1000
structure Th (H : Hp) (h : Addr) (v : V) : Prop where
  nc : Nc H v
  off : Off h v
  its : ∀ a xs, v = .ref a → H a = some (.tup xs) → xs.length ≤ 1000 ∧ ∀ x ∈ xs, Nc H x ∧ Off h x
theorem Nc.same {H H' : Hp} {v : V} (n : Nc H v) (s : Same H H') : Nc H' v := ⟨n.1.same s, n.2⟩
theorem Wt.tup_of {H : Hp} {a : Addr} (W : Wt H (.ref a)) : ∃ o, H a = some o := by
  cases W with
  | lst e => exact ⟨_, e⟩
  | tup e => exact ⟨_, e⟩
  | dct e => exact ⟨_, e⟩
theorem Th.same {H H' : Hp} {h : Addr} {v : V} (t : Th H h v) (s : Same H H') : Th H' h v := ⟨t.nc.same s, t.off, fun a xs ev e => by
  subst ev
  obtain ⟨o, q⟩ := t.nc.1.tup_of
  have q' := s _ _ q
  rw [e] at q'
  cases q'
  obtain ⟨l, al⟩ := t.its a xs rfl q
  exact ⟨l, fun x hx => ⟨(al x hx).1.same s, (al x hx).2⟩⟩⟩
theorem Nc.but {H H' : Hp} {h : Addr} {v : V} (n : Nc H v) (o : Off h v) (s : But h H H') : Nc H' v := ⟨n.1.but o s, n.2⟩
theorem Th.but {H H' : Hp} {h : Addr} {v : V} (t : Th H h v) (s : But h H H') : Th H' h v := ⟨t.nc.but t.off s, t.off, fun a xs ev e => by
  subst ev
  obtain ⟨o, q⟩ := t.nc.1.tup_of
  have q' := s _ _ (fun z => t.off (by rw [z])) q
  rw [e] at q'
  cases q'
  obtain ⟨l, al⟩ := t.its a xs rfl q
  exact ⟨l, fun x hx => ⟨(al x hx).1.but (al x hx).2 s, (al x hx).2⟩⟩⟩
/-! ### the sign of a unit -/
def gs (xs : List V) (p r : Int) : Nat :=
  if 0 ≤ p ∧ p < (wid xs : Nat) ∧ 0 ≤ r ∧ r < (xs.length : Nat) then (match xs[r.toNat]? with
    | some (.str z) => z.cps.toList.getD p.toNat 35
    | _ => 35) else 35
theorem gs_in {xs : List V} (g : GoodL xs) {p r : Int} (h1 : 0 ≤ p) (h2 : p < (wid xs : Nat)) (h3 : 0 ≤ r) (h4 : r < (xs.length : Nat)) :
    ∃ z, atI xs r = some (.str z) ∧ z.length ≤ 40 ∧ atI z.cps.toList p = some (gs xs p r) := by
  obtain ⟨i, rfl⟩ : ∃ i : Nat, r = (i : Int) := ⟨r.toNat, by omega⟩
  obtain ⟨j, rfl⟩ : ∃ j : Nat, p = (j : Int) := ⟨p.toNat, by omega⟩
  have hi : i < xs.length := by omega
  have hx := List.getElem?_eq_getElem hi
  obtain ⟨z, ez, a, b, c, d⟩ := g.at hx
  have hj : j < z.cps.toList.length := by
    have : z.cps.toList.length = z.length := by simp [Str.length]
    omega
  refine ⟨z, by rw [← ez]; exact atI_nat hx, b, ?_⟩
  have e : gs xs j i = z.cps.toList[j] := by
    unfold gs
    rw [if_pos ⟨h1, h2, h3, h4⟩]
    have q : xs[((i : Nat) : Int).toNat]? = some (.str z) := by rw [Int.toNat_natCast, hx, ez]
    rw [q]
    show z.cps.toList.getD ((j : Nat) : Int).toNat 35 = _
    rw [Int.toNat_natCast, List.getD_eq_getElem?_getD, List.getElem?_eq_getElem hj]; rfl
  rw [e]
  exact atI_nat (List.getElem?_eq_getElem hj)
theorem gs_out {xs : List V} {p r : Int} (h : ¬ (0 ≤ p ∧ p < (wid xs : Nat) ∧ 0 ≤ r ∧ r < (xs.length : Nat))) : gs xs p r = 35 := if_neg h
def OpenP (xs : List V) (x y w h : Int) : Prop := ∀ a b : Int, 0 ≤ a → a < w → 0 ≤ b → b < h → gs xs ((x + a) / 8) ((y + b) / 8) ≠ 35
/-- all signs in reach -/
theorem open_iff {xs : List V} {x y w h : Int} (hw : 1 ≤ w) (hh : 1 ≤ h) : OpenP xs x y w h ↔ ∀ p r : Int, x / 8 ≤ p → p < (x + w - 1) / 8 + 1 → y / 8 ≤ r → r < (y + h - 1) / 8 + 1 → gs xs p r ≠ 35 := by
  constructor
  · intro o p r p1 p2 r1 r2
    by_cases cx : x ≤ 8 * p
    · by_cases cy : y ≤ 8 * r
      · have q := o (8 * p - x) (8 * r - y) (by omega) (by omega) (by omega) (by omega)
        rw [show (x + (8 * p - x)) / 8 = p by omega, show (y + (8 * r - y)) / 8 = r by omega] at q
        exact q
      · have q := o (8 * p - x) 0 (by omega) (by omega) (by omega) (by omega)
        rw [show (x + (8 * p - x)) / 8 = p by omega, show (y + 0) / 8 = r by omega] at q
        exact q
    · by_cases cy : y ≤ 8 * r
      · have q := o 0 (8 * r - y) (by omega) (by omega) (by omega) (by omega)
        rw [show (x + 0) / 8 = p by omega, show (y + (8 * r - y)) / 8 = r by omega] at q
        exact q
      · have q := o 0 0 (by omega) (by omega) (by omega) (by omega)
        rw [show (x + 0) / 8 = p by omega, show (y + 0) / 8 = r by omega] at q
        exact q
  · intro o a b a1 a2 b1 b2
    exact o _ _ (by omega) (by omega) (by omega) (by omega)
/-! ### promises -/
def GrO (K : PySem.W.Frag) (H : Hp) (p a : Addr) (xs : List V) : Prop := H a = some (.tup xs) ∧ GoodL xs ∧ ∃ dx fs, H p = some (.ins (ga K "Ground") dx fs) ∧ fs.lookup ("rows" : Str) = some (.ref a) ∧ fs.lookup ("wide" : Str) = some (.int (8 * (wid xs : Nat))) ∧ fs.lookup ("high" : Str) = some (.int (8 * (xs.length : Nat)))
theorem GrO.same {K : PySem.W.Frag} {H H' : Hp} {p a : Addr} {xs : List V} (g : GrO K H p a xs) (s : Same H H') : GrO K H' p a xs := by
  obtain ⟨h1, h2, dx, fs, h3, h4⟩ := g
  exact ⟨s _ _ h1, h2, dx, fs, s _ _ h3, h4⟩
theorem GrO.kp {K : PySem.W.Frag} {H H' : Hp} {h p a : Addr} {xs : List V} (g : GrO K H p a xs) (k : Kp h H H') : GrO K H' p a xs := by
  obtain ⟨h1, h2, dx, fs, h3, h4⟩ := g
  refine ⟨k.tup h1, h2, dx, fs, k.keep h3 (fun z => ?_), h4⟩
  obtain ⟨ys, q⟩ := k.old.some
  rw [z, q] at h3
  cases h3
def spRow : Sp := fun vs H Q _ => ∃ v, vs = [v] ∧ Nc H v ∧ ∀ H', Same H H' → Q (.bl (rowOk v)) H'
def spBadG (K : PySem.W.Frag) : Sp := fun vs H Q _ => ∃ (a C : Addr) (v : V), vs = [.ref a, v] ∧ OexC K C ∧ NoAttr K C "part" ∧ H a = some (exo a C none) ∧ ∀ dx, H dx = none → dx ≠ a → Q .non (upd (upd H dx (exd dx [(("part" : Str), v)])) a (exo a C (some dx)))
def spGI (K : PySem.W.Frag) : Sp := fun vs H Q E => ∃ (p dx h : Addr) (v : V), vs = [.ref p, v] ∧ H p = some (.ins (ga K "Ground") dx []) ∧ Th H h v ∧
  (badOf H v = none → ∀ a xs, v = .ref a → H a = some (.tup xs) → ∀ H', But p H H' → GrO K H' p a xs → Q .non H') ∧
  (∀ k, badOf H v = some k → ∀ d H', But p H H' → H' d = some (.xd [(("part" : Str), .int k)]) → E (.ref (ga K "BadGround")) (some d) H')
def spGEq (K : PySem.W.Frag) : Sp := fun vs H Q _ => ∃ (p q a b : Addr) (xs ys : List V), vs = [.ref p, .ref q] ∧ GrO K H p a xs ∧ GrO K H q b ys ∧ Q (.bl (decide (xs = ys))) H
def spSA (K : PySem.W.Frag) : Sp := fun vs H Q E => ∃ (p a : Addr) (xs : List V) (v u : V), vs = [.ref p, v, u] ∧ GrO K H p a xs ∧ Wt H v ∧ Wt H u ∧
  (∀ x y, v = .int x → u = .int y → Q (.str ⟨#[gs xs (x / 8) (y / 8)]⟩) H) ∧ ((isI v && isI u) = false → E (.ref (ga K "NoNumber")) none H)
def spSA0 (K : PySem.W.Frag) : Sp := fun vs H Q E => ∃ (p a : Addr) (xs : List V) (x y : Int), vs = [.ref p, .int x, .int y] ∧ GrO K H p a xs ∧ Q (.str ⟨#[gs xs (x / 8) (y / 8)]⟩) H
def stre : V → Bool := btw 1 32
def spIO (K : PySem.W.Frag) : Sp := fun vs H Q E => ∃ (p a : Addr) (xs : List V) (v u w h : V), vs = [.ref p, v, u, w, h] ∧ GrO K H p a xs ∧ Wt H v ∧ Wt H u ∧ Wt H w ∧ Wt H h ∧
  (∀ x y m n, v = .int x → u = .int y → w = .int m → h = .int n → 1 ≤ m → m ≤ 32 → 1 ≤ n → n ≤ 32 → ∀ r : Bool, (r = true ↔ OpenP xs x y m n) → Q (.bl r) H) ∧
  ((isI v && isI u && (stre w && stre h)) = false → E (.ref (ga K "NoNumber")) none H)
section
variable {H : Hp} {h : Addr}
theorem Th.fl {v : V} (W : Wt H v) (l : ∀ z, v = .str z → z.length ≤ 1000) (nr : ∀ a, v ≠ .ref a) : Th H h v := ⟨⟨W, l⟩, nr h, fun a _ z _ => absurd z (nr a)⟩
theorem Th.ls {a : Addr} {xs : List V} (e : H a = some (.lst xs)) (o : Off h (.ref a)) : Th H h (.ref a) := ⟨⟨.lst e, fun _ z => nomatch z⟩, o, fun b ys z q => by
  cases z
  rw [e] at q
  cases q⟩
theorem Th.dk {a : Addr} {xs : List (Key × V)} (e : H a = some (.dK xs)) (o : Off h (.ref a)) : Th H h (.ref a) := ⟨⟨.dct e, fun _ z => nomatch z⟩, o, fun b ys z q => by
  cases z
  rw [e] at q
  cases q⟩
theorem Th.tp {a : Addr} {xs : List V} (e : H a = some (.tup xs)) (o : Off h (.ref a)) (l : xs.length ≤ 1000) (its : ∀ x ∈ xs, Nc H x ∧ Off h x) : Th H h (.ref a) := ⟨⟨.tup e, fun _ z => nomatch z⟩, o, fun b ys z q => by
  cases z
  rw [e] at q
  cases q
  exact ⟨l, its⟩⟩
end
def spOddT : Sp := fun vs H Q _ => ∃ (h : Addr), vs = [.ref h] ∧ Hand H h ∧ ∀ (v : V) (H' : Hp), Th H' h v → Bd v → Kp h H H' → Q v H'
/-! ### promises of the law's helpers -/
def spSign : Sp := fun vs H Q _ => ∃ (h : Addr) (n : Int), vs = [.ref h, .int n] ∧ Hand H h ∧ ∀ (c : Nat) (H' : Hp), sgB c = true → Kp h H H' → Q (.str ⟨#[c]⟩) H'
def spRows : Sp := fun vs H Q _ => ∃ (h : Addr) (m n : Int), vs = [.ref h, .int m, .int n] ∧ Hand H h ∧ 1 ≤ m ∧ m ≤ 40 ∧ 1 ≤ n ∧ n ≤ 30 ∧ ∀ (p : Addr) (xs : List V) (H' : Hp), H' p = some (.tup xs) → GoodL xs → Kp h H H' → Q (.ref p) H'
def spGround : Sp := fun vs H Q _ => ∃ (h : Addr), vs = [.ref h] ∧ Hand H h ∧ ∀ (p : Addr) (xs : List V) (H' : Hp), H' p = some (.tup xs) → GoodL xs → Kp h H H' → Q (.ref p) H'
def spSpoil : Sp := fun vs H Q _ => ∃ (h a : Addr) (xs : List V), vs = [.ref h, .ref a] ∧ Hand H h ∧ H a = some (.tup xs) ∧ GoodL xs ∧ ∀ (v : V) (H' : Hp), Th H' h v → Kp h H H' → Q v H'
def spLSign : Sp := fun vs H Q _ => ∃ (a : Addr) (xs : List V) (x y : Int), vs = [.ref a, .int x, .int y] ∧ H a = some (.tup xs) ∧ GoodL xs ∧ Q (.str ⟨#[gs xs (x / 8) (y / 8)]⟩) H
def spFirst : Sp := fun vs H Q _ => ∃ (h : Addr) (v : V), vs = [v] ∧ Th H h v ∧ ∀ H', Same H H' → Q (badV (badOf H v)) H'
def resM (v : V) (xs : List V) : Option Int → List V
  | none => [.str "told", v, .int (8 * (wid xs : Nat)), .int (8 * (xs.length : Nat))]
  | some k => [.str "BadGround", .int k]
def spMade : Sp := fun vs H Q _ => ∃ (h : Addr) (v : V), vs = [v] ∧ Th H h v ∧ ∀ (t : Addr) (xs : List V) (H' : Hp), Same H H' → (badOf H v = none → ∃ a, v = .ref a ∧ H a = some (.tup xs)) → H' t = some (.tup (resM v xs (badOf H v))) → Q (.ref t) H'
def resS (xs : List V) (v u : V) : List V := match v, u with
  | .int x, .int y => [.str "told", .str ⟨#[gs xs (x / 8) (y / 8)]⟩]
  | _, _ => [.str "NoNumber"]
def spSigned (K : PySem.W.Frag) : Sp := fun vs H Q _ => ∃ (p a : Addr) (xs : List V) (v u : V), vs = [.ref p, v, u] ∧ GrO K H p a xs ∧ Wt H v ∧ Wt H u ∧ ∀ t, H t = none → Q (.ref t) (upd H t (.tup (resS xs v u)))
def spOpened (K : PySem.W.Frag) : Sp := fun vs H Q _ => ∃ (p a : Addr) (xs : List V) (v u w h : V), vs = [.ref p, v, u, w, h] ∧ GrO K H p a xs ∧ Wt H v ∧ Wt H u ∧ Wt H w ∧ Wt H h ∧
  (∀ x y m n, v = .int x → u = .int y → w = .int m → h = .int n → 1 ≤ m → m ≤ 32 → 1 ≤ n → n ≤ 32 → ∀ (r : Bool) t, (r = true ↔ OpenP xs x y m n) → H t = none → Q (.ref t) (upd H t (.tup [.str "told", .bl r]))) ∧
  ((isI v && isI u && (stre w && stre h)) = false → ∀ t, H t = none → Q (.ref t) (upd H t (.tup [.str "NoNumber"])))
def spUnits : Sp := fun vs H Q _ => ∃ (a : Addr) (xs : List V) (x y m n : Int), vs = [.ref a, .int x, .int y, .int m, .int n] ∧ H a = some (.tup xs) ∧ GoodL xs ∧ 1 ≤ m ∧ m ≤ 32 ∧ 1 ≤ n ∧ n ≤ 32 ∧ ∀ r : Bool, (r = true ↔ OpenP xs x y m n) → Q (.bl r) H
def spWhere : Sp := fun vs H Q _ => ∃ (h : Addr) (l : Int), vs = [.ref h, .int l] ∧ Hand H h ∧ 1 ≤ l ∧ l ≤ 40 ∧ ∀ (r : Int) (H' : Hp), -100000000000000000000 ≤ r → r ≤ 100000000000000000000 → Kp h H H' → Q (.int r) H'
def spSide : Sp := fun vs H Q _ => ∃ (h : Addr), vs = [.ref h] ∧ Hand H h ∧ ∀ (v : V) (H' : Hp), (∀ G, Wt G v) → Kp h H H' → Q v H'
def spAsked (K : PySem.W.Frag) : Sp := fun vs H Q _ => ∃ (h p a : Addr) (xs : List V), vs = [.ref h, .ref a, .ref p] ∧ Hand H h ∧ GrO K H p a xs ∧ ∀ H', Kp h H H' → Q (.bl true) H'
theorem lc_str {x : Str} {g : TG} {tt : TT} {te : TE} {vs : List Nat} {σ : L2.St} {H1 : Hp} {D : Addr} {Qd : Hp → Prop} (Pv : Nat → Hp → Prop) (h0 : Pv 0 (upd H1 D (.lst [])))
    (hs : ∀ (i c : Nat) H, x.cps.toList[i]? = some c → Pv i H → g (.str ⟨#[c]⟩) (wipe σ vs) H fun σ2 H2 => wipe σ2 vs = wipe σ vs ∧ tt σ2 H2 fun b H3 =>
      if b = true then te σ2 H3 fun y H4 => ∃ acc, H4 D = some (.lst acc) ∧ acc.length < sizeLine ∧ Pv (i + 1) (upd H4 D (.lst (acc ++ [y]))) else Pv (i + 1) H3) (hd : ∀ H, Pv x.cps.toList.length H → Qd H) :
    ∃ W : Nat → Nat → Hp → Prop, (∃ m, W 0 m (upd H1 D (.lst []))) ∧ ∀ i m H, W i m H →
      ((Its x).stop i H ∧ Qd H) ∨ ((Its x).go i H ∧ ∃ Nx : Hp → Prop, (∀ H', Nx H' → ∃ m', m' < m ∧ W (i + 1) m' H') ∧ ∀ v H', (Its x).yld i H v H' → g v (wipe σ vs) H' fun σ2 H2 => wipe σ2 vs = wipe σ vs ∧ tt σ2 H2 fun b H3 =>
        if b = true then te σ2 H3 fun y H4 => ∃ acc, H4 D = some (.lst acc) ∧ acc.length < sizeLine ∧ Nx (upd H4 D (.lst (acc ++ [y]))) else Nx H3) := by
  have el : x.cps.toList.length = x.cps.size := by simp
  refine ⟨fun i m H => m = x.cps.size - i ∧ i ≤ x.cps.size ∧ Pv i H, ⟨_, rfl, Nat.zero_le _, h0⟩, ?_⟩
  rintro i m H ⟨rfl, hi, p⟩
  by_cases hlt : i < x.cps.size
  · refine .inr ⟨hlt, Pv (i + 1), fun H' p' => ⟨x.cps.size - (i + 1), by omega, rfl, hlt, p'⟩, fun v H' y => ?_⟩
    obtain ⟨rfl, c, hc, rfl⟩ := y
    exact hs i c H' (by rw [Array.getElem?_toList]; exact hc) p
  · have e : i = x.cps.toList.length := by omega
    subst e
    exact .inl ⟨Nat.le_of_eq el.symm, hd H p⟩
theorem take_one {α : Type} {l : List α} {i : Nat} {c : α} (h : l[i]? = some c) : l.take (i + 1) = l.take i ++ [c] := by
  rw [List.take_add_one, h]; rfl
theorem raiseBG {K : PySem.W.Frag} {C : Addr} {H : Hp} {Q : XK} {v : V} (x : OexC K C) (na : NoAttr K C "part") (q : ∀ d, H d = none → Q (.ref C) (some d) (upd H d (.xd [(("part" : Str), v)]))) :
    [v].length ≤ 1000 ∧ ∀ a, H a = none → spBadG K (.ref a :: ([v] ++ [])) (upd H a (exo a C none)) (fun u H2 => u = .non ∧ ∃ (d : Addr) (fs : List (Str × V)), H2 a = some (exo a C (some d)) ∧ H2 d = some (exd d fs) ∧ H d = none ∧ Q (.ref C) (some d) (upd (del H2 a) d (.xd fs))) (fun _ _ _ => False) := by
  refine ⟨by show 1 ≤ 1000; decide, fun a ha => ⟨a, C, v, rfl, x, na, upd_same, fun dx h1 h2 => ?_⟩⟩
  rw [upd_ne h2] at h1
  refine ⟨rfl, dx, _, upd_same, by rw [upd_ne h2, upd_same], h1, ?_⟩
  have e : upd (del (upd (upd (upd H a (exo a C none)) dx (exd dx [(("part" : Str), v)])) a (exo a C (some dx))) a) dx (.xd [(("part" : Str), v)]) = upd H dx (.xd [(("part" : Str), v)]) := by
    funext b
    by_cases hb : b = dx
    · rw [hb, upd_same, upd_same]
    · rw [upd_ne hb, upd_ne hb]
      by_cases hc : b = a
      · rw [hc, del_same, ha]
      · rw [del_ne hc, upd_ne hc, upd_ne hb, upd_ne hc]
  rw [e]
  exact q dx h1
theorem But.mk {p : Addr} {H G : Hp} {o : HO} (s : Same H G) : But p H (L2.upd G p o) := fun b u n e => by
  rw [upd_ne n]
  exact s _ _ e
theorem put_at {p : Addr} {H G G1 : Hp} {o : HO} (e : L2.upd G p o = G1) (b : Gw.But p H G) : Gw.But p H G1 ∧ G1 p = some o := by
  subst e
  refine ⟨fun c u n q => ?_, upd_same⟩
  rw [upd_ne n]
  exact b c u n q
/-! ### rows as data -/
def dOf : V → PyData
  | .str z => .str z
  | _ => .none
def isGS : V → Bool
  | .str z => PyData.strOk z
  | _ => false
theorem strOk_of {z : Str} (h : allS z = true) : PyData.strOk z = true := by
  unfold PyData.strOk
  rw [← Array.all_toList]
  unfold allS at h
  rw [List.all_eq_true] at h ⊢
  intro c hc
  have hs := of_decide_eq_true (h c hc)
  simp only [signs, List.mem_cons, List.not_mem_nil, or_false] at hs
  rcases hs with rfl | rfl | rfl | rfl | rfl | rfl | rfl | rfl | rfl | rfl | rfl | rfl <;> decide
theorem isGS_of {n : Nat} {v : V} (h : rowB n v = true) : isGS v = true := by
  obtain ⟨z, rfl, _, _, a, _⟩ := rowB_str h
  exact strOk_of a
theorem dp_all {K : PySem.W.Frag} {H : Hp} : ∀ {xs : List V}, (∀ x ∈ xs, isGS x = true) → DpAll K H xs (xs.map dOf)
  | [], _ => .nil
  | x :: xs, h => by
    have hx := h x List.mem_cons_self
    cases x with
    | str z => exact .cons (.str z) (dp_all fun y hy => h y (List.mem_cons_of_mem _ hy))
    | _ => cases hx
theorem lay_all : ∀ {xs : List V}, (∀ x ∈ xs, isGS x = true) → PyData.canLayAll0 (xs.map dOf) = true ∧ PyData.depthAll (xs.map dOf) = 0
  | [], _ => ⟨by simp only [List.map, PyData.canLayAll0], by simp only [List.map, PyData.depthAll]⟩
  | x :: xs, h => by
    have hx := h x List.mem_cons_self
    obtain ⟨a, b⟩ := lay_all (xs := xs) fun y hy => h y (List.mem_cons_of_mem _ hy)
    cases x with
    | str z =>
      refine ⟨?_, ?_⟩
      · simp only [List.map, PyData.canLayAll0, a, Bool.and_true]
        show PyData.canLay0 (.str z) = true
        simp only [PyData.canLay0]
        exact hx
      · simp only [List.map, PyData.depthAll, b]
        show max (PyData.depth (.str z)) 0 = 0
        simp only [PyData.depth]; rfl
    | _ => cases hx
theorem shaped_tup {xs : List V} (h : ∀ x ∈ xs, isGS x = true) : SeqAt.shaped (.tuple (xs.map dOf)) = true := by
  obtain ⟨a, b⟩ := lay_all h
  unfold SeqAt.shaped
  simp only [PyData.canLay0, PyData.depth, a, b, Bool.true_and]
  decide
theorem eqv_all : ∀ {xs ys : List V}, (∀ x ∈ xs, isGS x = true) → (∀ x ∈ ys, isGS x = true) → PyData.eqvAll (xs.map dOf) (ys.map dOf) = decide (xs = ys)
  | [], [], _, _ => by simp only [List.map, PyData.eqvAll]; rfl
  | [], _ :: _, _, _ => by simp only [List.map, PyData.eqvAll]; rfl
  | _ :: _, [], _, _ => by simp only [List.map, PyData.eqvAll]; rfl
  | x :: xs, y :: ys, h, k => by
    have hx := h x List.mem_cons_self
    have hy := k y List.mem_cons_self
    have e := eqv_all (xs := xs) (ys := ys) (fun z hz => h z (List.mem_cons_of_mem _ hz)) fun z hz => k z (List.mem_cons_of_mem _ hz)
    cases x with
    | str a =>
      cases y with
      | str b =>
        simp only [List.map, PyData.eqvAll, e]
        show (PyData.eqv (.str a) (.str b) && decide (xs = ys)) = _
        simp only [PyData.eqv]
        by_cases q : a = b
        · subst q
          rw [beq_self_eq_true, Bool.true_and]
          exact decide_eq_decide.mpr ⟨fun z => by rw [z], fun z => (List.cons.inj z).2⟩
        · rw [show (a == b) = false from beq_eq_false_iff_ne.mpr q, Bool.false_and]
          exact (decide_eq_false fun z => q (V.str.inj (List.cons.inj z).1)).symm
      | _ => cases hy
    | _ => cases hx
theorem GoodL.gS {xs : List V} (g : GoodL xs) : ∀ x ∈ xs, isGS x = true := fun x hx => isGS_of (g.all x hx)
/-- the answer of == for the rows of two grounds -/
theorem eqD_good {K : PySem.W.Frag} {H : Hp} {Q : VK} {a b : Addr} {xs ys : List V} (gx : GoodL xs) (gy : GoodL ys) (ha : H a = some (.tup xs)) (hb : H b = some (.tup ys)) (q : Q (.bl (decide (xs = ys))) H) : rEqD K (.ref a) (.ref b) H Q := by
  refine ⟨_, _, .tup (SqT.of ha) (dp_all gx.gS), .tup (SqT.of hb) (dp_all gy.gS), shaped_tup gx.gS, shaped_tup gy.gS, ?_⟩
  have e : PyData.eqv (.tuple (xs.map dOf)) (.tuple (ys.map dOf)) = decide (xs = ys) := by
    simp only [PyData.eqv]
    exact eqv_all gx.gS gy.gS
  rw [e]
  exact q
theorem sharp {c : Nat} (h : V.str ⟨#[c]⟩ = V.str ("#" : Str)) : c = 35 := by
  have e : ("#" : Str).cps.toList = [35] := by decide +kernel
  have q := congrArg (fun z => z.cps.toList) (V.str.inj h)
  have q2 : [c] = ("#" : Str).cps.toList := q
  rw [e] at q2
  exact (List.cons.inj q2).1
theorem sharp' : V.str ⟨#[35]⟩ = V.str ("#" : Str) := by
  have e : (⟨#[35]⟩ : Str) = ("#" : Str) := by decide +kernel
  rw [e]
theorem join0' : ∀ ws : List Str, (PySem.Str.join ("" : Str) ws).cps.toList = (ws.map (fun z => z.cps.toList)).flatten
  | [] => rfl
  | [x] => by show x.cps.toList = _; simp
  | x :: y :: r => by
    show ((x.cps ++ ("" : Str).cps) ++ (PySem.Str.join ("" : Str) (y :: r)).cps).toList = _
    have e : ("" : Str).cps = #[] := rfl
    rw [e, Array.toList_append, Array.toList_append, join0' (y :: r)]
    simp
theorem join0 (ws : List Str) : (PySem.Txt.join ("" : Str) ws).cps.toList = (ws.map (fun z => z.cps.toList)).flatten := by
  have e : PySem.Txt.join ("" : Str) ws = PySem.Str.join ("" : Str) ws := PySem.StrLaws.glued_eq_join _ _
  rw [e, join0']
theorem join_signs {ws : List Str} (h : ∀ w ∈ ws, ∃ c, w = ⟨#[c]⟩ ∧ sgB c = true) : (PySem.Txt.join ("" : Str) ws).length = ws.length ∧ allS (PySem.Txt.join ("" : Str) ws) = true ∧ (ws.map (·.length)).sum = ws.length := by
  have e1 : (ws.map (fun z => z.cps.toList)).flatten.length = ws.length ∧ (ws.map (fun z => z.cps.toList)).flatten.all sgB = true ∧ (ws.map (·.length)).sum = ws.length := by
    induction ws with
    | nil => exact ⟨rfl, rfl, rfl⟩
    | cons w ws ih =>
      obtain ⟨c, rfl, hc⟩ := h w List.mem_cons_self
      obtain ⟨a, b, d⟩ := ih fun x hx => h x (List.mem_cons_of_mem _ hx)
      refine ⟨?_, ?_, ?_⟩
      · simp only [List.map_cons, List.flatten_cons, List.length_append, a, List.length_cons]
        show 1 + ws.length = _
        omega
      · simp only [List.map_cons, List.flatten_cons, List.all_append, b, Bool.and_true]
        show (sgB c && true) = true
        rw [hc]; rfl
      · simp only [List.map_cons, List.sum_cons, d, List.length_cons]
        show 1 + ws.length = _
        omega
  refine ⟨?_, ?_, e1.2.2⟩
  · show (PySem.Txt.join ("" : Str) ws).cps.size = _
    rw [← Array.length_toList, join0]
    exact e1.1
  · unfold allS
    rw [join0]
    exact e1.2.1
def Rws (m : Nat) (zs : List Str) : Prop := ∀ z ∈ zs, z.length = m ∧ allS z = true
theorem Rws.good {m : Nat} {zs : List Str} (r : Rws m zs) (m1 : 1 ≤ m) (m2 : m ≤ 40) (l1 : 1 ≤ zs.length) (l2 : zs.length ≤ 30) : GoodL (zs.map V.str) := by
  have w : wid (zs.map V.str) = m := by
    cases zs with
    | nil => cases l1
    | cons z r' => exact (r z List.mem_cons_self).1
  refine ⟨by rw [List.length_map]; exact l1, by rw [List.length_map]; exact l2, fun x hx => ?_⟩
  obtain ⟨z, hz, rfl⟩ := List.mem_map.mp hx
  obtain ⟨a, b⟩ := r z hz
  rw [w]
  exact rowB_of (by omega) (by omega) b a
theorem GoodL.rws {xs : List V} (g : GoodL xs) : ∃ zs, xs = zs.map V.str ∧ Rws (Gw.wid xs) zs ∧ zs.length = xs.length := by
  have key : ∀ (n : Nat) (ys : List V), (∀ x ∈ ys, rowB n x = true) → ∃ zs, ys = zs.map V.str ∧ Rws n zs ∧ zs.length = ys.length := by
    intro n ys
    induction ys with
    | nil => intro _; exact ⟨[], rfl, fun _ h => (nomatch h), rfl⟩
    | cons y ys ih =>
      intro h
      obtain ⟨zs, e, r, l⟩ := ih fun x hx => h x (List.mem_cons_of_mem _ hx)
      obtain ⟨z, ez, _, _, a, b⟩ := rowB_str (h y List.mem_cons_self)
      refine ⟨z :: zs, by rw [e, ez]; rfl, fun w hw => ?_, by rw [List.length_cons, List.length_cons, l]⟩
      rcases List.mem_cons.mp hw with q | hw
      · rw [q]; exact ⟨b, a⟩
      · exact r w hw
  exact key _ xs g.all
/-! ### cut and repeated rows -/
theorem GoodL.sub {xs ys : List V} (g : GoodL xs) (h : ∀ y ∈ ys, y ∈ xs) (l1 : 1 ≤ ys.length) (l2 : ys.length ≤ 30) : GoodL ys := by
  have w : Gw.wid ys = Gw.wid xs := by
    cases ys with
    | nil => cases l1
    | cons y r =>
      obtain ⟨z, rfl, _, _, _, e⟩ := rowB_str (g.all y (h y List.mem_cons_self))
      exact e
  exact ⟨l1, l2, fun y hy => by rw [w]; exact g.all y (h y hy)⟩
theorem mul_list {z : Str} {n : Int} (hn : 2 ≤ n) (hz : 1 ≤ z.length) : (PySem.Txt.mul z n).cps.toList = (List.replicate n.toNat z.cps.toList).flatten := by
  unfold PySem.Txt.mul
  have c : (n == 1 || z.length == 0) = false := by
    rw [Bool.or_eq_false_iff]
    exact ⟨beq_eq_false_iff_ne.mpr (by omega), beq_eq_false_iff_ne.mpr (by omega)⟩
  rw [if_neg (by omega), if_neg (by rw [c]; exact Bool.false_ne_true)]
  show ((List.replicate n.toNat z.cps).foldl (· ++ ·) #[]).toList = _
  have key : ∀ (m : Nat) (acc : Array Nat), ((List.replicate m z.cps).foldl (· ++ ·) acc).toList = acc.toList ++ (List.replicate m z.cps.toList).flatten := by
    intro m
    induction m with
    | zero => intro acc; simp
    | succ m ih =>
      intro acc
      rw [List.replicate_succ, List.foldl_cons, ih, List.replicate_succ, List.flatten_cons, Array.toList_append, List.append_assoc]
  rw [key]; simp
theorem mul_ok {z : Str} {n : Int} (h2 : z.length ≤ 40) (hn : n = 40 ∨ n = 41) : PySem.MulOk z n := by
  rcases hn with rfl | rfl
  · refine ⟨by decide, fun _ _ => by omega, fun _ _ => ?_⟩
    unfold PySem.Builtin.Str.tooLong
    have hh : z.length * (40 : Int).toNat ≤ 1640 := by show z.length * 40 ≤ 1640; omega
    exact decide_eq_false (Nat.not_lt.mpr (Nat.le_trans hh (by decide)))
  · refine ⟨by decide, fun _ _ => by omega, fun _ _ => ?_⟩
    unfold PySem.Builtin.Str.tooLong
    have hh : z.length * (41 : Int).toNat ≤ 1640 := by show z.length * 41 ≤ 1640; omega
    exact decide_eq_false (Nat.not_lt.mpr (Nat.le_trans hh (by decide)))
theorem cut_list (z : Str) (k : Nat) : (cutS z none (some (k : Int))).cps.toList = z.cps.toList.take (min k z.length) := by
  unfold cutS
  rw [HT.sIx_none, HT.sIx_nat]
  simp
theorem len_list (z : Str) : z.cps.toList.length = z.length := by simp [Str.length]
theorem flat_len {α : Type} (l : List α) : ∀ m, (List.replicate m l).flatten.length = m * l.length
  | 0 => by simp
  | m + 1 => by rw [List.replicate_succ, List.flatten_cons, List.length_append, flat_len l m, Nat.succ_mul]; omega
theorem flat_mem {α : Type} {l : List α} {x : α} : ∀ {m}, x ∈ (List.replicate m l).flatten → x ∈ l := by
  intro m h
  obtain ⟨l', hl, hx⟩ := List.mem_flatten.mp h
  rw [(List.mem_replicate.mp hl).2] at hx
  exact hx
theorem len_mul' {z : Str} {n : Int} (hn : 2 ≤ n) (hz : 1 ≤ z.length) : (PySem.Txt.mul z n).length = n.toNat * z.length := by
  rw [← len_list, mul_list hn hz, flat_len, len_list]
theorem cut_mul {z : Str} {n : Int} {k : Nat} (hn : 2 ≤ n) (hz : 1 ≤ z.length) (hk : k ≤ n.toNat) (a : allS z = true) : (cutS (PySem.Txt.mul z n) none (some (k : Int))).length = k ∧ allS (cutS (PySem.Txt.mul z n) none (some (k : Int))) = true := by
  have hl := len_mul' hn hz
  have hge : k ≤ (PySem.Txt.mul z n).length := by
    rw [hl]
    exact Nat.le_trans hk (Nat.le_mul_of_pos_right _ hz)
  refine ⟨?_, ?_⟩
  · rw [← len_list, cut_list, List.length_take, len_list]
    omega
  · unfold allS
    rw [cut_list, List.all_eq_true]
    intro c hc
    have hc2 := List.mem_of_mem_take hc
    rw [mul_list hn hz] at hc2
    unfold allS at a
    exact List.all_eq_true.mp a c (flat_mem hc2)
theorem sIx30 (n d : Nat) : HT.sIx n d (some 30) = min 30 n := HT.sIx_nat n d 30
theorem slA_un {K : PySem.W.Frag} {H : Hp} {Q : VK} {a : Addr} {xs : List V} {lo hi : Option Int} (ha : H a = some (.tup xs)) (q : ∀ p G, Same H G → G p = some (.tup (cutV xs lo hi)) → Q (.ref p) G) : rSlA K (.ref a) lo hi H Q := by
  refine ⟨a, xs, rfl, SqT.of ha, fun hw => ?_, fun _ p hp => q p _ (Same.new hp) upd_same⟩
  refine q a H (Same.refl H) ?_
  have e : cutV xs lo hi = xs := by
    unfold cutV
    rw [hw.1, hw.2]
    simp
  rw [e]
  exact ha
theorem catA_un {K : PySem.W.Frag} {H : Hp} {Q : VK} {a b : Addr} {xs ys : List V} (ha : H a = some (.tup xs)) (hb : H b = some (.tup ys)) (l : xs.length + ys.length ≤ sizeLine) (q : ∀ p G, Same H G → G p = some (.tup (xs ++ ys)) → Q (.ref p) G) : rCatA K (.ref a) (.ref b) H Q := by
  refine ⟨a, b, xs, ys, rfl, rfl, SqT.of ha, SqT.of hb, l, fun e => ?_, fun _ e => ?_, fun _ _ p hp => q p _ (Same.new hp) upd_same⟩
  · exact q b H (Same.refl H) (by rw [e]; exact hb)
  · exact q a H (Same.refl H) (by rw [e, List.append_nil]; exact ha)
theorem cutV_mem {xs : List V} {lo hi : Option Int} {x : V} (h : x ∈ cutV xs lo hi) : x ∈ xs := by
  unfold cutV at h
  exact List.mem_of_mem_drop (List.mem_of_mem_take h)
theorem str_app (i j : Str) : (i ++ j).length = i.length + j.length := by
  show (i.cps ++ j.cps).size = _
  rw [Array.size_append]; rfl
theorem GoodL.nc {xs : List V} (g : GoodL xs) {H : Hp} {h : Addr} {x : V} (hx : x ∈ xs) : Nc H x ∧ Off h x := by
  obtain ⟨z, rfl, _, b, _, _⟩ := rowB_str (g.all x hx)
  exact ⟨⟨.str z, fun z' e => by cases e; omega⟩, fun e => nomatch e⟩
theorem cutS_le {z : Str} {lo hi : Option Int} {n : Nat} (h : z.length ≤ n) : (cutS z lo hi).length ≤ n := Nat.le_trans (cutS_length z lo hi) h
theorem hand_off_tup {G : Hp} {h p : Addr} {us : List V} (A : Gw.Hand G h) (e : G p = some (.tup us)) : Off h (.ref p) := fun z => by
  obtain ⟨ys, q⟩ := A.some
  rw [V.ref.inj z, q] at e
  cases e
def Sx (u : V) : Prop := ∃ y, u = .str y ∧ y.length ≤ 1000
theorem Sx.nc {u : V} (s : Sx u) {H : Hp} {h : Addr} : Nc H u ∧ Off h u := by
  obtain ⟨y, rfl, l⟩ := s
  exact ⟨⟨.str y, fun z' e => by cases e; exact l⟩, fun e => nomatch e⟩
theorem cut_le (z : Str) (k : Nat) : (cutS z none (some (k : Int))).length ≤ k := by
  rw [← len_list, cut_list, List.length_take]
  omega
theorem pe_fldK {X : Cx} {e : Expr} {f : Str} {pos : Pos} {ta : TE} (K : PySem.W.Frag) (he : PE X e ta) (hK : X.K = K) (hb : attributeBase e f X.env (eval e X.env) = eval e X.env) : PE X (.Attribute e f pos) (tFld K ta f) := by
  subst hK
  exact pe_fld he hb
theorem resS_flat (xs : List V) (v u : V) : ∀ x ∈ resS xs v u, flatB x = true := by
  intro x hx
  unfold resS at hx
  split at hx <;> (simp only [List.mem_cons, List.not_mem_nil, or_false] at hx)
  · rcases hx with rfl | rfl <;> rfl
  · subst hx; rfl
/-- all four are as is_open asks -/
def okO (v u w h : V) : Bool := isI v && isI u && (stre w && stre h)
structure ResO (xs : List V) (v u w h : V) (os : List V) : Prop where
  yes : ∀ x y m n, v = .int x → u = .int y → w = .int m → h = .int n → 1 ≤ m → m ≤ 32 → 1 ≤ n → n ≤ 32 → ∃ r : Bool, (r = true ↔ OpenP xs x y m n) ∧ os = [.str "told", .bl r]
  no : okO v u w h = false → os = [.str "NoNumber"]
theorem okO_ints {v u w h : V} (e : okO v u w h = true) : ∃ x y m n, v = .int x ∧ u = .int y ∧ w = .int m ∧ h = .int n ∧ 1 ≤ m ∧ m ≤ 32 ∧ 1 ≤ n ∧ n ≤ 32 := by
  obtain ⟨e1, e2⟩ := Bool.and_eq_true_iff.mp e
  obtain ⟨e3, e4⟩ := Bool.and_eq_true_iff.mp e1
  obtain ⟨e5, e6⟩ := Bool.and_eq_true_iff.mp e2
  obtain ⟨m, rfl, m1, m2⟩ := btw_int e5
  obtain ⟨n, rfl, n1, n2⟩ := btw_int e6
  cases v <;> try cases e3
  cases u <;> try cases e4
  exact ⟨_, _, _, _, rfl, rfl, rfl, rfl, m1, m2, n1, n2⟩
def spGI0 (K : PySem.W.Frag) : Sp := fun vs H Q _ => ∃ (p dx a : Addr) (xs : List V), vs = [.ref p, .ref a] ∧ H p = some (.ins (ga K "Ground") dx []) ∧ H a = some (.tup xs) ∧ GoodL xs ∧ ∀ H', But p H H' → GrO K H' p a xs → Q .non H'
theorem Th.good {H : Hp} {h a : Addr} {xs : List V} (e : H a = some (.tup xs)) (n : a ≠ h) (g : GoodL xs) : Th H h (.ref a) :=
  .tp e (fun z => n (V.ref.inj z)) (Nat.le_trans g.l2 (by decide)) fun x hx => g.nc hx
theorem Th.goodH {H : Hp} {h a : Addr} {xs : List V} (A : Gw.Hand H h) (e : H a = some (.tup xs)) (g : GoodL xs) : Th H h (.ref a) :=
  .good e (fun z => hand_off_tup A e (by rw [z])) g
theorem badOf_good {H : Hp} {a : Addr} {xs : List V} (e : H a = some (.tup xs)) (g : GoodL xs) : badOf H (.ref a) = none := by rw [badOf_tup e, g.bad]
/-- what made tells, twice -/
theorem sm_made {H : Hp} {t d : Addr} {v : V} {xs : List V} {b : Option Int} (ht : H t = some (.tup (resM v xs b))) (hd : H d = some (.tup (resM v xs b))) (hb : b = none → ∃ a, v = .ref a ∧ H a = some (.tup xs) ∧ GoodL xs) : SmB H 3 (.ref t) (.ref d) := by
  cases b with
  | some k => exact SmB.tups ht hd (by intro x hx; simp only [resM, List.mem_cons, List.not_mem_nil, or_false] at hx; rcases hx with rfl | rfl <;> rfl)
  | none =>
    obtain ⟨a, rfl, ha, g⟩ := hb rfl
    refine .inr ⟨t, d, _, _, rfl, rfl, ht, hd, rfl, fun i x y hx hy => ?_⟩
    match i, hx, hy with
    | 0, hx, hy => cases hx; cases hy; exact Sm.flat rfl
    | 1, hx, hy =>
      cases hx; cases hy
      exact Sm.tups ha ha fun z hz => by
        obtain ⟨s, rfl, _⟩ := rowB_str (g.all z hz)
        rfl
    | 2, hx, hy => cases hx; cases hy; exact Sm.flat rfl
    | 3, hx, hy => cases hx; cases hy; exact Sm.flat rfl
    | i + 4, hx, hy => cases hx
end Gw

set_option Elab.async false
set_option linter.all false
set_option maxRecDepth 100000
set_option maxHeartbeats 4000000
namespace K02
open PySem PySem.Spec PyProof.Rows L2 He Gw
def topS (i : Nat) : Stmt := PySem.Challenge.pw_guessedworlds_k02_grounds_judged_and_ope.main.body.getD i (.Pass ⟨0, 0, 0, 0⟩)
abbrev s_WorldError_init : Stmt := inClass (topS 1) 0
abbrev s_BadGround_init : Stmt := inClass (topS 3) 0
abbrev s_is_plain_integer : Stmt := topS 5
abbrev s_is_between : Stmt := topS 6
abbrev s_is_row : Stmt := topS 14
abbrev s_Ground_init : Stmt := inClass (topS 15) 0
abbrev s_Ground_eq : Stmt := inClass (topS 15) 1
abbrev s_sign_at : Stmt := topS 16
abbrev s_is_open : Stmt := topS 17
abbrev s_l_hand : Stmt := topS 19
abbrev s_l_take : Stmt := topS 20
abbrev s_l_pick : Stmt := topS 21
abbrev s_l_great : Stmt := topS 22
abbrev s_l_is_integer : Stmt := topS 23
abbrev s_l_is_within : Stmt := topS 24
abbrev s_l_same : Stmt := topS 25
abbrev s_l_odd : Stmt := topS 26
abbrev s_l_ground_sign : Stmt := topS 27
abbrev s_l_rows : Stmt := topS 28
abbrev s_l_ground : Stmt := topS 29
abbrev s_l_sign : Stmt := topS 30
abbrev s_l_first_bad : Stmt := topS 31
abbrev s_l_large : Stmt := topS 32
abbrev s_l_spoiled : Stmt := topS 33
abbrev s_l_made : Stmt := topS 34
abbrev s_l_signed : Stmt := topS 35
abbrev s_l_opened : Stmt := topS 36
abbrev s_l_units_open : Stmt := topS 37
abbrev s_l_where : Stmt := topS 38
abbrev s_l_side : Stmt := topS 39
abbrev s_l_asked : Stmt := topS 40
abbrev s_law : Stmt := topS 41
theorem sc_WorldError_init : FnScope ["self"] ["self"] (defScope s_WorldError_init) := ⟨rfl, rfl, rfl, by decide +kernel, rfl, by decide +kernel, by decide +kernel⟩
theorem sc_BadGround_init : FnScope ["self", "part"] ["self", "part"] (defScope s_BadGround_init) := ⟨rfl, rfl, rfl, by decide +kernel, rfl, by decide +kernel, by decide +kernel⟩
theorem sc_is_plain_integer : FnScope ["thing"] ["thing"] (defScope s_is_plain_integer) := ⟨rfl, rfl, rfl, by decide +kernel, rfl, by decide +kernel, by decide +kernel⟩
theorem sc_is_between : FnScope ["least", "most", "thing"] ["least", "most", "thing"] (defScope s_is_between) := ⟨rfl, rfl, rfl, by decide +kernel, rfl, by decide +kernel, by decide +kernel⟩
theorem sc_is_row : FnScope ["thing", "sign"] ["thing"] (defScope s_is_row) := ⟨rfl, rfl, rfl, by decide +kernel, rfl, by decide +kernel, by decide +kernel⟩
theorem sc_Ground_init : FnScope ["self", "rows", "number", "row"] ["self", "rows"] (defScope s_Ground_init) := ⟨rfl, rfl, rfl, by decide +kernel, rfl, by decide +kernel, by decide +kernel⟩
theorem sc_Ground_eq : FnScope ["self", "other"] ["self", "other"] (defScope s_Ground_eq) := ⟨rfl, rfl, rfl, by decide +kernel, rfl, by decide +kernel, by decide +kernel⟩
theorem sc_sign_at : FnScope ["ground", "x", "y"] ["ground", "x", "y"] (defScope s_sign_at) := ⟨rfl, rfl, rfl, by decide +kernel, rfl, by decide +kernel, by decide +kernel⟩
theorem sc_is_open : FnScope ["ground", "x", "y", "wide", "high", "row", "place"] ["ground", "x", "y", "wide", "high"] (defScope s_is_open) := ⟨rfl, rfl, rfl, by decide +kernel, rfl, by decide +kernel, by decide +kernel⟩
theorem sc_l_hand : FnScope ["_law_script"] ["_law_script"] (defScope s_l_hand) := ⟨rfl, rfl, rfl, by decide +kernel, rfl, by decide +kernel, by decide +kernel⟩
theorem sc_l_take : FnScope ["_law_hand_here", "_law_many", "_law_cell", "_law_found", "_law_number"] ["_law_hand_here", "_law_many"] (defScope s_l_take) := ⟨rfl, rfl, rfl, by decide +kernel, rfl, by decide +kernel, by decide +kernel⟩
theorem sc_l_pick : FnScope ["_law_hand_here", "_law_things"] ["_law_hand_here", "_law_things"] (defScope s_l_pick) := ⟨rfl, rfl, rfl, by decide +kernel, rfl, by decide +kernel, by decide +kernel⟩
theorem sc_l_great : FnScope ["_law_hand_here"] ["_law_hand_here"] (defScope s_l_great) := ⟨rfl, rfl, rfl, by decide +kernel, rfl, by decide +kernel, by decide +kernel⟩
theorem sc_l_is_integer : FnScope ["_law_thing"] ["_law_thing"] (defScope s_l_is_integer) := ⟨rfl, rfl, rfl, by decide +kernel, rfl, by decide +kernel, by decide +kernel⟩
theorem sc_l_is_within : FnScope ["_law_thing", "_law_least", "_law_most"] ["_law_thing", "_law_least", "_law_most"] (defScope s_l_is_within) := ⟨rfl, rfl, rfl, by decide +kernel, rfl, by decide +kernel, by decide +kernel⟩
theorem sc_l_same : FnScope ["_law_actual", "_law_due", "_law_one", "_law_other"] ["_law_actual", "_law_due"] (defScope s_l_same) := ⟨rfl, rfl, rfl, by decide +kernel, rfl, by decide +kernel, by decide +kernel⟩
theorem sc_l_odd : FnScope ["_law_hand_here", "_law_way"] ["_law_hand_here"] (defScope s_l_odd) := ⟨rfl, rfl, rfl, by decide +kernel, rfl, by decide +kernel, by decide +kernel⟩
theorem sc_l_ground_sign : FnScope ["_law_hand_here", "_law_full", "_law_way"] ["_law_hand_here", "_law_full"] (defScope s_l_ground_sign) := ⟨rfl, rfl, rfl, by decide +kernel, rfl, by decide +kernel, by decide +kernel⟩
theorem sc_l_rows : FnScope ["_law_hand_here", "_law_wide", "_law_high", "_law_full", "_law_found", "_law_k", "_law_j"] ["_law_hand_here", "_law_wide", "_law_high"] (defScope s_l_rows) := ⟨rfl, rfl, rfl, by decide +kernel, rfl, by decide +kernel, by decide +kernel⟩
theorem sc_l_ground : FnScope ["_law_hand_here", "_law_way"] ["_law_hand_here"] (defScope s_l_ground) := ⟨rfl, rfl, rfl, by decide +kernel, rfl, by decide +kernel, by decide +kernel⟩
theorem sc_l_sign : FnScope ["_law_rows_here", "_law_x", "_law_y"] ["_law_rows_here", "_law_x", "_law_y"] (defScope s_l_sign) := ⟨rfl, rfl, rfl, by decide +kernel, rfl, by decide +kernel, by decide +kernel⟩
theorem sc_l_first_bad : FnScope ["_law_thing", "_law_k", "_law_row", "_law_sign_here"] ["_law_thing"] (defScope s_l_first_bad) := ⟨rfl, rfl, rfl, by decide +kernel, rfl, by decide +kernel, by decide +kernel⟩
theorem sc_l_large : FnScope ["_law_hand_here", "_law_rows_here", "_law_way", "_law_row"] ["_law_hand_here"] (defScope s_l_large) := ⟨rfl, rfl, rfl, by decide +kernel, rfl, by decide +kernel, by decide +kernel⟩
theorem sc_l_spoiled : FnScope ["_law_hand_here", "_law_rows_here", "_law_way", "_law_at", "_law_place", "_law_other", "_law_row"] ["_law_hand_here", "_law_rows_here"] (defScope s_l_spoiled) := ⟨rfl, rfl, rfl, by decide +kernel, rfl, by decide +kernel, by decide +kernel⟩
theorem sc_l_made : FnScope ["_law_rows_here", "_law_ground_here", "error"] ["_law_rows_here"] (defScope s_l_made) := ⟨rfl, rfl, rfl, by decide +kernel, rfl, by decide +kernel, by decide +kernel⟩
theorem sc_l_signed : FnScope ["_law_ground_here", "_law_x", "_law_y"] ["_law_ground_here", "_law_x", "_law_y"] (defScope s_l_signed) := ⟨rfl, rfl, rfl, by decide +kernel, rfl, by decide +kernel, by decide +kernel⟩
theorem sc_l_opened : FnScope ["_law_ground_here", "_law_x", "_law_y", "_law_wide", "_law_high"] ["_law_ground_here", "_law_x", "_law_y", "_law_wide", "_law_high"] (defScope s_l_opened) := ⟨rfl, rfl, rfl, by decide +kernel, rfl, by decide +kernel, by decide +kernel⟩
theorem sc_l_units_open : FnScope ["_law_rows_here", "_law_x", "_law_y", "_law_wide", "_law_high", "_law_across", "_law_along"] ["_law_rows_here", "_law_x", "_law_y", "_law_wide", "_law_high"] (defScope s_l_units_open) := ⟨rfl, rfl, rfl, by decide +kernel, rfl, by decide +kernel, by decide +kernel⟩
theorem sc_l_where : FnScope ["_law_hand_here", "_law_long", "_law_way"] ["_law_hand_here", "_law_long"] (defScope s_l_where) := ⟨rfl, rfl, rfl, by decide +kernel, rfl, by decide +kernel, by decide +kernel⟩
theorem sc_l_side : FnScope ["_law_hand_here"] ["_law_hand_here"] (defScope s_l_side) := ⟨rfl, rfl, rfl, by decide +kernel, rfl, by decide +kernel, by decide +kernel⟩
theorem sc_l_asked : FnScope ["_law_hand_here", "_law_rows_here", "_law_ground_here", "_law_x", "_law_y", "_law_wide", "_law_high", "_law_sign_here", "_law_opening"] ["_law_hand_here", "_law_rows_here", "_law_ground_here"] (defScope s_l_asked) := ⟨rfl, rfl, rfl, by decide +kernel, rfl, by decide +kernel, by decide +kernel⟩
theorem sc_law : FnScope ["_law_script", "_law_hand_here", "_law_rows_here", "_law_thing", "_law_bad", "_law_due", "_law_ground_here", "_law_k"] ["_law_script"] (defScope s_law) := ⟨rfl, rfl, rfl, by decide +kernel, rfl, by decide +kernel, by decide +kernel⟩
def d_s_WorldError_init : DefD := ⟨("WorldError", some "__init__"), "__init__", "WorldError.__init__", defArgs s_WorldError_init, defBody s_WorldError_init, defScope s_WorldError_init, [], []⟩
def d_s_BadGround_init : DefD := ⟨("BadGround", some "__init__"), "__init__", "BadGround.__init__", defArgs s_BadGround_init, defBody s_BadGround_init, defScope s_BadGround_init, [], []⟩
def d_s_is_plain_integer : DefD := ⟨("is_plain_integer", none), "is_plain_integer", "is_plain_integer", defArgs s_is_plain_integer, defBody s_is_plain_integer, defScope s_is_plain_integer, [], []⟩
def d_s_is_between : DefD := ⟨("is_between", none), "is_between", "is_between", defArgs s_is_between, defBody s_is_between, defScope s_is_between, [], []⟩
def d_s_is_row : DefD := ⟨("is_row", none), "is_row", "is_row", defArgs s_is_row, defBody s_is_row, defScope s_is_row, [], []⟩
def d_s_Ground_init : DefD := ⟨("Ground", some "__init__"), "__init__", "Ground.__init__", defArgs s_Ground_init, defBody s_Ground_init, defScope s_Ground_init, [], []⟩
def d_s_Ground_eq : DefD := ⟨("Ground", some "__eq__"), "__eq__", "Ground.__eq__", defArgs s_Ground_eq, defBody s_Ground_eq, defScope s_Ground_eq, [], []⟩
def d_s_sign_at : DefD := ⟨("sign_at", none), "sign_at", "sign_at", defArgs s_sign_at, defBody s_sign_at, defScope s_sign_at, [], []⟩
def d_s_is_open : DefD := ⟨("is_open", none), "is_open", "is_open", defArgs s_is_open, defBody s_is_open, defScope s_is_open, [], []⟩
def d_s_l_hand : DefD := ⟨("_law_hand", none), "_law_hand", "_law_hand", defArgs s_l_hand, defBody s_l_hand, defScope s_l_hand, [], []⟩
def d_s_l_take : DefD := ⟨("_law_take", none), "_law_take", "_law_take", defArgs s_l_take, defBody s_l_take, defScope s_l_take, [], []⟩
def d_s_l_pick : DefD := ⟨("_law_pick", none), "_law_pick", "_law_pick", defArgs s_l_pick, defBody s_l_pick, defScope s_l_pick, [], []⟩
def d_s_l_great : DefD := ⟨("_law_great", none), "_law_great", "_law_great", defArgs s_l_great, defBody s_l_great, defScope s_l_great, [], []⟩
def d_s_l_is_integer : DefD := ⟨("_law_is_integer", none), "_law_is_integer", "_law_is_integer", defArgs s_l_is_integer, defBody s_l_is_integer, defScope s_l_is_integer, [], []⟩
def d_s_l_is_within : DefD := ⟨("_law_is_within", none), "_law_is_within", "_law_is_within", defArgs s_l_is_within, defBody s_l_is_within, defScope s_l_is_within, [], []⟩
def d_s_l_same : DefD := ⟨("_law_same", none), "_law_same", "_law_same", defArgs s_l_same, defBody s_l_same, defScope s_l_same, [], []⟩
def d_s_l_odd : DefD := ⟨("_law_odd", none), "_law_odd", "_law_odd", defArgs s_l_odd, defBody s_l_odd, defScope s_l_odd, [], []⟩
def d_s_l_ground_sign : DefD := ⟨("_law_ground_sign", none), "_law_ground_sign", "_law_ground_sign", defArgs s_l_ground_sign, defBody s_l_ground_sign, defScope s_l_ground_sign, [], []⟩
def d_s_l_rows : DefD := ⟨("_law_rows", none), "_law_rows", "_law_rows", defArgs s_l_rows, defBody s_l_rows, defScope s_l_rows, [], []⟩
def d_s_l_ground : DefD := ⟨("_law_ground", none), "_law_ground", "_law_ground", defArgs s_l_ground, defBody s_l_ground, defScope s_l_ground, [], []⟩
def d_s_l_sign : DefD := ⟨("_law_sign", none), "_law_sign", "_law_sign", defArgs s_l_sign, defBody s_l_sign, defScope s_l_sign, [], []⟩
def d_s_l_first_bad : DefD := ⟨("_law_first_bad", none), "_law_first_bad", "_law_first_bad", defArgs s_l_first_bad, defBody s_l_first_bad, defScope s_l_first_bad, [], []⟩
def d_s_l_large : DefD := ⟨("_law_large", none), "_law_large", "_law_large", defArgs s_l_large, defBody s_l_large, defScope s_l_large, [], []⟩
def d_s_l_spoiled : DefD := ⟨("_law_spoiled", none), "_law_spoiled", "_law_spoiled", defArgs s_l_spoiled, defBody s_l_spoiled, defScope s_l_spoiled, [], []⟩
def d_s_l_made : DefD := ⟨("_law_made", none), "_law_made", "_law_made", defArgs s_l_made, defBody s_l_made, defScope s_l_made, [], []⟩
def d_s_l_signed : DefD := ⟨("_law_signed", none), "_law_signed", "_law_signed", defArgs s_l_signed, defBody s_l_signed, defScope s_l_signed, [], []⟩
def d_s_l_opened : DefD := ⟨("_law_opened", none), "_law_opened", "_law_opened", defArgs s_l_opened, defBody s_l_opened, defScope s_l_opened, [], []⟩
def d_s_l_units_open : DefD := ⟨("_law_units_open", none), "_law_units_open", "_law_units_open", defArgs s_l_units_open, defBody s_l_units_open, defScope s_l_units_open, [], []⟩
def d_s_l_where : DefD := ⟨("_law_where", none), "_law_where", "_law_where", defArgs s_l_where, defBody s_l_where, defScope s_l_where, [], []⟩
def d_s_l_side : DefD := ⟨("_law_side", none), "_law_side", "_law_side", defArgs s_l_side, defBody s_l_side, defScope s_l_side, [], []⟩
def d_s_l_asked : DefD := ⟨("_law_asked", none), "_law_asked", "_law_asked", defArgs s_l_asked, defBody s_l_asked, defScope s_l_asked, [], []⟩
def d_s_law : DefD := ⟨("law", none), "law", "law", defArgs s_law, defBody s_law, defScope s_law, [], []⟩
def fn0 : List DefD := [d_s_WorldError_init, d_s_BadGround_init, d_s_is_plain_integer, d_s_is_between, d_s_is_row, d_s_Ground_init, d_s_Ground_eq, d_s_sign_at, d_s_is_open, d_s_l_hand, d_s_l_take, d_s_l_pick, d_s_l_great, d_s_l_is_integer, d_s_l_is_within, d_s_l_same, d_s_l_odd, d_s_l_ground_sign, d_s_l_rows, d_s_l_ground, d_s_l_sign, d_s_l_first_bad, d_s_l_large, d_s_l_spoiled, d_s_l_made, d_s_l_signed, d_s_l_opened, d_s_l_units_open, d_s_l_where, d_s_l_side, d_s_l_asked, d_s_law]
def fn : List DefD := fn0
def fx0 : List Fx := [freeX "ValueError", freeX "isinstance", freeX "int", freeX "bool", freeX "all", freeX "str", freeX "len", freeX "enumerate", freeX "tuple", freeX "range", freeX "list", freeX "zip", strX "WALL" "#", strX "SIGNS" ".#0123456789", intX "MOST_ROWS" (30), intX "MOST_SIGNS" (40), intX "SIGN_UNITS" (8), intX "MOST_STRETCH" (32), gloX "WorldError", fun K => oexB K (ga K "WorldError"), fun K => initB K (ga K "WorldError") (ma K (ga K "WorldError") "__init__"), gloX "NoNumber", fun K => oexB K (ga K "NoNumber"), fun K => initB K (ga K "NoNumber") (ma K (ga K "WorldError") "__init__"), gloX "BadGround", fun K => oexB K (ga K "BadGround"), fun K => initB K (ga K "BadGround") (ma K (ga K "BadGround") "__init__"), gloX "Ground", exmX "WorldError" "BadGround" false, exmX "WorldError" "NoNumber" false, exmX "NoNumber" "BadGround" false, exmX "NoNumber" "NoNumber" true, exmX "BadGround" "BadGround" true, exmX "BadGround" "NoNumber" false, fun K => xfB K (ga K "BadGround"), fun K => noB K (ga K "BadGround") "part", fun K => clsB K (ga K "Ground") (ma K (ga K "Ground") "__init__") (ma K (ga K "Ground") "__eq__"), fun K => insB K (ga K "Ground")]
def fx1 : List Fx := [fun K => noB K (ga K "Ground") "rows", fun K => noB K (ga K "Ground") "wide", fun K => noB K (ga K "Ground") "high", gloX "is_plain_integer", gloX "is_between", gloX "is_row", gloX "sign_at", gloX "is_open", gloX "_law_hand", gloX "_law_take", gloX "_law_pick", gloX "_law_great", gloX "_law_is_integer", gloX "_law_is_within", gloX "_law_same", gloX "_law_odd", gloX "_law_ground_sign", gloX "_law_rows", gloX "_law_ground", gloX "_law_sign", gloX "_law_first_bad", gloX "_law_large", gloX "_law_spoiled", gloX "_law_made", gloX "_law_signed", gloX "_law_opened", gloX "_law_units_open", gloX "_law_where", gloX "_law_side", gloX "_law_asked", gloX "law"]
def fx : List Fx := fx0 ++ fx1
def lo0 : List Str := ["WorldError", "NoNumber", "BadGround", "is_plain_integer", "is_between", "WALL", "SIGNS", "MOST_ROWS", "MOST_SIGNS", "SIGN_UNITS", "MOST_STRETCH", "is_row"]
def lo1 : List Str := ["Ground", "sign_at", "is_open", "_law_hand", "_law_take", "_law_pick", "_law_great", "_law_is_integer", "_law_is_within", "_law_same", "_law_odd", "_law_ground_sign"]
def lo2 : List Str := ["_law_rows", "_law_ground", "_law_sign", "_law_first_bad", "_law_large", "_law_spoiled", "_law_made", "_law_signed", "_law_opened", "_law_units_open", "_law_where", "_law_side"]
def lo3 : List Str := ["_law_asked"]
def loose : List Str := lo0 ++ lo1 ++ lo2 ++ lo3
abbrev R : PySem.W.OpenRow := PySem.W.OpenLaw.row PySem.Challenge.rw_guessedworlds_k02_grounds_judged_and_ope
abbrev hk : PySem.W.Hook := hookX 6 fx fn
def ob (s : PySem.W.SharedT) : AlX := obX 6 fx fn (HandSHeadRun.getT s)
theorem ob_eq (s : PySem.W.SharedT) : ob s = hk.obs s.abs := obX_eq (HandSHeadRun.getT_eq s)

structure Txt (K : PySem.W.Frag) (mg : Str → Option Value) : Prop where
  d_WorldError_init : Dm K "WorldError" "__init__" s_WorldError_init ["self"]
  d_BadGround_init : Dm K "BadGround" "__init__" s_BadGround_init ["self", "part"]
  d_is_plain_integer : Dk K mg "is_plain_integer" s_is_plain_integer ["thing"]
  d_is_between : Dk K mg "is_between" s_is_between ["least", "most", "thing"]
  d_is_row : Dk K mg "is_row" s_is_row ["thing"]
  d_Ground_init : Dm K "Ground" "__init__" s_Ground_init ["self", "rows"]
  d_Ground_eq : Dm K "Ground" "__eq__" s_Ground_eq ["self", "other"]
  d_sign_at : Dk K mg "sign_at" s_sign_at ["ground", "x", "y"]
  d_is_open : Dk K mg "is_open" s_is_open ["ground", "x", "y", "wide", "high"]
  d_l_hand : Dk K mg "_law_hand" s_l_hand ["_law_script"]
  d_l_take : Dk K mg "_law_take" s_l_take ["_law_hand_here", "_law_many"]
  d_l_pick : Dk K mg "_law_pick" s_l_pick ["_law_hand_here", "_law_things"]
  d_l_great : Dk K mg "_law_great" s_l_great ["_law_hand_here"]
  d_l_is_integer : Dk K mg "_law_is_integer" s_l_is_integer ["_law_thing"]
  d_l_is_within : Dk K mg "_law_is_within" s_l_is_within ["_law_thing", "_law_least", "_law_most"]
  d_l_same : Dk K mg "_law_same" s_l_same ["_law_actual", "_law_due"]
  d_l_odd : Dk K mg "_law_odd" s_l_odd ["_law_hand_here"]
  d_l_ground_sign : Dk K mg "_law_ground_sign" s_l_ground_sign ["_law_hand_here", "_law_full"]
  d_l_rows : Dk K mg "_law_rows" s_l_rows ["_law_hand_here", "_law_wide", "_law_high"]
  d_l_ground : Dk K mg "_law_ground" s_l_ground ["_law_hand_here"]
  d_l_sign : Dk K mg "_law_sign" s_l_sign ["_law_rows_here", "_law_x", "_law_y"]
  d_l_first_bad : Dk K mg "_law_first_bad" s_l_first_bad ["_law_thing"]
  d_l_large : Dk K mg "_law_large" s_l_large ["_law_hand_here"]
  d_l_spoiled : Dk K mg "_law_spoiled" s_l_spoiled ["_law_hand_here", "_law_rows_here"]
  d_l_made : Dk K mg "_law_made" s_l_made ["_law_rows_here"]
  d_l_signed : Dk K mg "_law_signed" s_l_signed ["_law_ground_here", "_law_x", "_law_y"]
  d_l_opened : Dk K mg "_law_opened" s_l_opened ["_law_ground_here", "_law_x", "_law_y", "_law_wide", "_law_high"]
  d_l_units_open : Dk K mg "_law_units_open" s_l_units_open ["_law_rows_here", "_law_x", "_law_y", "_law_wide", "_law_high"]
  d_l_where : Dk K mg "_law_where" s_l_where ["_law_hand_here", "_law_long"]
  d_l_side : Dk K mg "_law_side" s_l_side ["_law_hand_here"]
  d_l_asked : Dk K mg "_law_asked" s_l_asked ["_law_hand_here", "_law_rows_here", "_law_ground_here"]
  d_law : Dk K mg "law" s_law ["_law_script"]
  b_ValueError : mg "ValueError" = none
  b_isinstance : mg "isinstance" = none
  b_int : mg "int" = none
  b_bool : mg "bool" = none
  b_all : mg "all" = none
  b_str : mg "str" = none
  b_len : mg "len" = none
  b_enumerate : mg "enumerate" = none
  b_tuple : mg "tuple" = none
  b_range : mg "range" = none
  b_list : mg "list" = none
  b_zip : mg "zip" = none
  k_WALL : ∃ t, mg "WALL" = some (.str "#" t)
  k_SIGNS : ∃ t, mg "SIGNS" = some (.str ".#0123456789" t)
  k_MOST_ROWS : ∃ t, mg "MOST_ROWS" = some (.int (30) t)
  k_MOST_SIGNS : ∃ t, mg "MOST_SIGNS" = some (.int (40) t)
  k_SIGN_UNITS : ∃ t, mg "SIGN_UNITS" = some (.int (8) t)
  k_MOST_STRETCH : ∃ t, mg "MOST_STRETCH" = some (.int (32) t)
  g_WorldError : mg "WorldError" = some (.ref (ga K "WorldError"))
  x_WorldError : OexC K (ga K "WorldError")
  i_WorldError : PySem.W.findIn K (.ref (ga K "WorldError")) "__init__" = some (some (.ref (ma K (ga K "WorldError") "__init__"))) ∧ PySem.W.typeIn K (.ref (ma K (ga K "WorldError") "__init__")) = some (.type "function")
  g_NoNumber : mg "NoNumber" = some (.ref (ga K "NoNumber"))
  x_NoNumber : OexC K (ga K "NoNumber")
  i_NoNumber : PySem.W.findIn K (.ref (ga K "NoNumber")) "__init__" = some (some (.ref (ma K (ga K "WorldError") "__init__"))) ∧ PySem.W.typeIn K (.ref (ma K (ga K "WorldError") "__init__")) = some (.type "function")
  g_BadGround : mg "BadGround" = some (.ref (ga K "BadGround"))
  x_BadGround : OexC K (ga K "BadGround")
  i_BadGround : PySem.W.findIn K (.ref (ga K "BadGround")) "__init__" = some (some (.ref (ma K (ga K "BadGround") "__init__"))) ∧ PySem.W.typeIn K (.ref (ma K (ga K "BadGround") "__init__")) = some (.type "function")
  g_Ground : mg "Ground" = some (.ref (ga K "Ground"))
  m_WorldError_BadGround : PySem.W.exmOne K (.ref (ga K "WorldError")) (.ref (ga K "BadGround")) = some false
  m_WorldError_NoNumber : PySem.W.exmOne K (.ref (ga K "WorldError")) (.ref (ga K "NoNumber")) = some false
  m_NoNumber_BadGround : PySem.W.exmOne K (.ref (ga K "NoNumber")) (.ref (ga K "BadGround")) = some false
  m_NoNumber_NoNumber : PySem.W.exmOne K (.ref (ga K "NoNumber")) (.ref (ga K "NoNumber")) = some true
  m_BadGround_BadGround : PySem.W.exmOne K (.ref (ga K "BadGround")) (.ref (ga K "BadGround")) = some true
  m_BadGround_NoNumber : PySem.W.exmOne K (.ref (ga K "BadGround")) (.ref (ga K "NoNumber")) = some false
  f_BadGround : XfC K (ga K "BadGround")
  n_BadGround_part : NoAttr K (ga K "BadGround") "part"
  c_Ground : ClsT K (ga K "Ground") (ma K (ga K "Ground") "__init__") (ma K (ga K "Ground") "__eq__")
  o_Ground : InsT K (ga K "Ground")
  n_Ground_rows : NoAttr K (ga K "Ground") "rows"
  n_Ground_wide : NoAttr K (ga K "Ground") "wide"
  n_Ground_high : NoAttr K (ga K "Ground") "high"
  g_is_plain_integer : mg "is_plain_integer" = some (.ref (ga K "is_plain_integer"))
  g_is_between : mg "is_between" = some (.ref (ga K "is_between"))
  g_is_row : mg "is_row" = some (.ref (ga K "is_row"))
  g_sign_at : mg "sign_at" = some (.ref (ga K "sign_at"))
  g_is_open : mg "is_open" = some (.ref (ga K "is_open"))
  g_l_hand : mg "_law_hand" = some (.ref (ga K "_law_hand"))
  g_l_take : mg "_law_take" = some (.ref (ga K "_law_take"))
  g_l_pick : mg "_law_pick" = some (.ref (ga K "_law_pick"))
  g_l_great : mg "_law_great" = some (.ref (ga K "_law_great"))
  g_l_is_integer : mg "_law_is_integer" = some (.ref (ga K "_law_is_integer"))
  g_l_is_within : mg "_law_is_within" = some (.ref (ga K "_law_is_within"))
  g_l_same : mg "_law_same" = some (.ref (ga K "_law_same"))
  g_l_odd : mg "_law_odd" = some (.ref (ga K "_law_odd"))
  g_l_ground_sign : mg "_law_ground_sign" = some (.ref (ga K "_law_ground_sign"))
  g_l_rows : mg "_law_rows" = some (.ref (ga K "_law_rows"))
  g_l_ground : mg "_law_ground" = some (.ref (ga K "_law_ground"))
  g_l_sign : mg "_law_sign" = some (.ref (ga K "_law_sign"))
  g_l_first_bad : mg "_law_first_bad" = some (.ref (ga K "_law_first_bad"))
  g_l_large : mg "_law_large" = some (.ref (ga K "_law_large"))
  g_l_spoiled : mg "_law_spoiled" = some (.ref (ga K "_law_spoiled"))
  g_l_made : mg "_law_made" = some (.ref (ga K "_law_made"))
  g_l_signed : mg "_law_signed" = some (.ref (ga K "_law_signed"))
  g_l_opened : mg "_law_opened" = some (.ref (ga K "_law_opened"))
  g_l_units_open : mg "_law_units_open" = some (.ref (ga K "_law_units_open"))
  g_l_where : mg "_law_where" = some (.ref (ga K "_law_where"))
  g_l_side : mg "_law_side" = some (.ref (ga K "_law_side"))
  g_l_asked : mg "_law_asked" = some (.ref (ga K "_law_asked"))
  g_law : mg "law" = some (.ref (ga K "law"))
theorem txt {K : PySem.W.Frag} {h : Heap} {mg : Str → Option Value} (X : K.In h) (G : h.Ns mainGlobals mg) (c : SaysX fx fn K) : Txt K mg := {
  d_WorldError_init := dm_of (c.def_ 0 (d := d_s_WorldError_init) rfl) fun _ _ _ _ _ _ us hl => match us, hl with | [_], _ => rfl
  d_BadGround_init := dm_of (c.def_ 1 (d := d_s_BadGround_init) rfl) fun _ _ _ _ _ _ us hl => match us, hl with | [_, _], _ => rfl
  d_is_plain_integer := dk_of (c.def_ 2 (d := d_s_is_plain_integer) rfl) (He.glo_ok X G (c.fact 41 (f := gloX "is_plain_integer") rfl)) fun _ _ _ _ _ _ us hl => match us, hl with | [_], _ => rfl
  d_is_between := dk_of (c.def_ 3 (d := d_s_is_between) rfl) (He.glo_ok X G (c.fact 42 (f := gloX "is_between") rfl)) fun _ _ _ _ _ _ us hl => match us, hl with | [_, _, _], _ => rfl
  d_is_row := dk_of (c.def_ 4 (d := d_s_is_row) rfl) (He.glo_ok X G (c.fact 43 (f := gloX "is_row") rfl)) fun _ _ _ _ _ _ us hl => match us, hl with | [_], _ => rfl
  d_Ground_init := dm_of (c.def_ 5 (d := d_s_Ground_init) rfl) fun _ _ _ _ _ _ us hl => match us, hl with | [_, _], _ => rfl
  d_Ground_eq := dm_of (c.def_ 6 (d := d_s_Ground_eq) rfl) fun _ _ _ _ _ _ us hl => match us, hl with | [_, _], _ => rfl
  d_sign_at := dk_of (c.def_ 7 (d := d_s_sign_at) rfl) (He.glo_ok X G (c.fact 44 (f := gloX "sign_at") rfl)) fun _ _ _ _ _ _ us hl => match us, hl with | [_, _, _], _ => rfl
  d_is_open := dk_of (c.def_ 8 (d := d_s_is_open) rfl) (He.glo_ok X G (c.fact 45 (f := gloX "is_open") rfl)) fun _ _ _ _ _ _ us hl => match us, hl with | [_, _, _, _, _], _ => rfl
  d_l_hand := dk_of (c.def_ 9 (d := d_s_l_hand) rfl) (He.glo_ok X G (c.fact 46 (f := gloX "_law_hand") rfl)) fun _ _ _ _ _ _ us hl => match us, hl with | [_], _ => rfl
  d_l_take := dk_of (c.def_ 10 (d := d_s_l_take) rfl) (He.glo_ok X G (c.fact 47 (f := gloX "_law_take") rfl)) fun _ _ _ _ _ _ us hl => match us, hl with | [_, _], _ => rfl
  d_l_pick := dk_of (c.def_ 11 (d := d_s_l_pick) rfl) (He.glo_ok X G (c.fact 48 (f := gloX "_law_pick") rfl)) fun _ _ _ _ _ _ us hl => match us, hl with | [_, _], _ => rfl
  d_l_great := dk_of (c.def_ 12 (d := d_s_l_great) rfl) (He.glo_ok X G (c.fact 49 (f := gloX "_law_great") rfl)) fun _ _ _ _ _ _ us hl => match us, hl with | [_], _ => rfl
  d_l_is_integer := dk_of (c.def_ 13 (d := d_s_l_is_integer) rfl) (He.glo_ok X G (c.fact 50 (f := gloX "_law_is_integer") rfl)) fun _ _ _ _ _ _ us hl => match us, hl with | [_], _ => rfl
  d_l_is_within := dk_of (c.def_ 14 (d := d_s_l_is_within) rfl) (He.glo_ok X G (c.fact 51 (f := gloX "_law_is_within") rfl)) fun _ _ _ _ _ _ us hl => match us, hl with | [_, _, _], _ => rfl
  d_l_same := dk_of (c.def_ 15 (d := d_s_l_same) rfl) (He.glo_ok X G (c.fact 52 (f := gloX "_law_same") rfl)) fun _ _ _ _ _ _ us hl => match us, hl with | [_, _], _ => rfl
  d_l_odd := dk_of (c.def_ 16 (d := d_s_l_odd) rfl) (He.glo_ok X G (c.fact 53 (f := gloX "_law_odd") rfl)) fun _ _ _ _ _ _ us hl => match us, hl with | [_], _ => rfl
  d_l_ground_sign := dk_of (c.def_ 17 (d := d_s_l_ground_sign) rfl) (He.glo_ok X G (c.fact 54 (f := gloX "_law_ground_sign") rfl)) fun _ _ _ _ _ _ us hl => match us, hl with | [_, _], _ => rfl
  d_l_rows := dk_of (c.def_ 18 (d := d_s_l_rows) rfl) (He.glo_ok X G (c.fact 55 (f := gloX "_law_rows") rfl)) fun _ _ _ _ _ _ us hl => match us, hl with | [_, _, _], _ => rfl
  d_l_ground := dk_of (c.def_ 19 (d := d_s_l_ground) rfl) (He.glo_ok X G (c.fact 56 (f := gloX "_law_ground") rfl)) fun _ _ _ _ _ _ us hl => match us, hl with | [_], _ => rfl
  d_l_sign := dk_of (c.def_ 20 (d := d_s_l_sign) rfl) (He.glo_ok X G (c.fact 57 (f := gloX "_law_sign") rfl)) fun _ _ _ _ _ _ us hl => match us, hl with | [_, _, _], _ => rfl
  d_l_first_bad := dk_of (c.def_ 21 (d := d_s_l_first_bad) rfl) (He.glo_ok X G (c.fact 58 (f := gloX "_law_first_bad") rfl)) fun _ _ _ _ _ _ us hl => match us, hl with | [_], _ => rfl
  d_l_large := dk_of (c.def_ 22 (d := d_s_l_large) rfl) (He.glo_ok X G (c.fact 59 (f := gloX "_law_large") rfl)) fun _ _ _ _ _ _ us hl => match us, hl with | [_], _ => rfl
  d_l_spoiled := dk_of (c.def_ 23 (d := d_s_l_spoiled) rfl) (He.glo_ok X G (c.fact 60 (f := gloX "_law_spoiled") rfl)) fun _ _ _ _ _ _ us hl => match us, hl with | [_, _], _ => rfl
  d_l_made := dk_of (c.def_ 24 (d := d_s_l_made) rfl) (He.glo_ok X G (c.fact 61 (f := gloX "_law_made") rfl)) fun _ _ _ _ _ _ us hl => match us, hl with | [_], _ => rfl
  d_l_signed := dk_of (c.def_ 25 (d := d_s_l_signed) rfl) (He.glo_ok X G (c.fact 62 (f := gloX "_law_signed") rfl)) fun _ _ _ _ _ _ us hl => match us, hl with | [_, _, _], _ => rfl
  d_l_opened := dk_of (c.def_ 26 (d := d_s_l_opened) rfl) (He.glo_ok X G (c.fact 63 (f := gloX "_law_opened") rfl)) fun _ _ _ _ _ _ us hl => match us, hl with | [_, _, _, _, _], _ => rfl
  d_l_units_open := dk_of (c.def_ 27 (d := d_s_l_units_open) rfl) (He.glo_ok X G (c.fact 64 (f := gloX "_law_units_open") rfl)) fun _ _ _ _ _ _ us hl => match us, hl with | [_, _, _, _, _], _ => rfl
  d_l_where := dk_of (c.def_ 28 (d := d_s_l_where) rfl) (He.glo_ok X G (c.fact 65 (f := gloX "_law_where") rfl)) fun _ _ _ _ _ _ us hl => match us, hl with | [_, _], _ => rfl
  d_l_side := dk_of (c.def_ 29 (d := d_s_l_side) rfl) (He.glo_ok X G (c.fact 66 (f := gloX "_law_side") rfl)) fun _ _ _ _ _ _ us hl => match us, hl with | [_], _ => rfl
  d_l_asked := dk_of (c.def_ 30 (d := d_s_l_asked) rfl) (He.glo_ok X G (c.fact 67 (f := gloX "_law_asked") rfl)) fun _ _ _ _ _ _ us hl => match us, hl with | [_, _, _], _ => rfl
  d_law := dk_of (c.def_ 31 (d := d_s_law) rfl) (He.glo_ok X G (c.fact 68 (f := gloX "law") rfl)) fun _ _ _ _ _ _ us hl => match us, hl with | [_], _ => rfl
  b_ValueError := He.free_ok X G (c.fact 0 (f := freeX "ValueError") rfl)
  b_isinstance := He.free_ok X G (c.fact 1 (f := freeX "isinstance") rfl)
  b_int := He.free_ok X G (c.fact 2 (f := freeX "int") rfl)
  b_bool := He.free_ok X G (c.fact 3 (f := freeX "bool") rfl)
  b_all := He.free_ok X G (c.fact 4 (f := freeX "all") rfl)
  b_str := He.free_ok X G (c.fact 5 (f := freeX "str") rfl)
  b_len := He.free_ok X G (c.fact 6 (f := freeX "len") rfl)
  b_enumerate := He.free_ok X G (c.fact 7 (f := freeX "enumerate") rfl)
  b_tuple := He.free_ok X G (c.fact 8 (f := freeX "tuple") rfl)
  b_range := He.free_ok X G (c.fact 9 (f := freeX "range") rfl)
  b_list := He.free_ok X G (c.fact 10 (f := freeX "list") rfl)
  b_zip := He.free_ok X G (c.fact 11 (f := freeX "zip") rfl)
  k_WALL := He.str_ok X G (c.fact 12 (f := strX "WALL" "#") rfl)
  k_SIGNS := He.str_ok X G (c.fact 13 (f := strX "SIGNS" ".#0123456789") rfl)
  k_MOST_ROWS := He.int_ok X G (c.fact 14 (f := intX "MOST_ROWS" (30)) rfl)
  k_MOST_SIGNS := He.int_ok X G (c.fact 15 (f := intX "MOST_SIGNS" (40)) rfl)
  k_SIGN_UNITS := He.int_ok X G (c.fact 16 (f := intX "SIGN_UNITS" (8)) rfl)
  k_MOST_STRETCH := He.int_ok X G (c.fact 17 (f := intX "MOST_STRETCH" (32)) rfl)
  g_WorldError := He.glo_ok X G (c.fact 18 (f := gloX "WorldError") rfl)
  x_WorldError := oex_ok (c.fact 19 (f := fun K => oexB K (ga K "WorldError")) rfl)
  i_WorldError := init_ok (c.fact 20 (f := fun K => initB K (ga K "WorldError") (ma K (ga K "WorldError") "__init__")) rfl)
  g_NoNumber := He.glo_ok X G (c.fact 21 (f := gloX "NoNumber") rfl)
  x_NoNumber := oex_ok (c.fact 22 (f := fun K => oexB K (ga K "NoNumber")) rfl)
  i_NoNumber := init_ok (c.fact 23 (f := fun K => initB K (ga K "NoNumber") (ma K (ga K "WorldError") "__init__")) rfl)
  g_BadGround := He.glo_ok X G (c.fact 24 (f := gloX "BadGround") rfl)
  x_BadGround := oex_ok (c.fact 25 (f := fun K => oexB K (ga K "BadGround")) rfl)
  i_BadGround := init_ok (c.fact 26 (f := fun K => initB K (ga K "BadGround") (ma K (ga K "BadGround") "__init__")) rfl)
  g_Ground := He.glo_ok X G (c.fact 27 (f := gloX "Ground") rfl)
  m_WorldError_BadGround := He.exm_ok (c.fact 28 (f := exmX "WorldError" "BadGround" false) rfl)
  m_WorldError_NoNumber := He.exm_ok (c.fact 29 (f := exmX "WorldError" "NoNumber" false) rfl)
  m_NoNumber_BadGround := He.exm_ok (c.fact 30 (f := exmX "NoNumber" "BadGround" false) rfl)
  m_NoNumber_NoNumber := He.exm_ok (c.fact 31 (f := exmX "NoNumber" "NoNumber" true) rfl)
  m_BadGround_BadGround := He.exm_ok (c.fact 32 (f := exmX "BadGround" "BadGround" true) rfl)
  m_BadGround_NoNumber := He.exm_ok (c.fact 33 (f := exmX "BadGround" "NoNumber" false) rfl)
  f_BadGround := xfB_ok (c.fact 34 (f := fun K => xfB K (ga K "BadGround")) rfl)
  n_BadGround_part := noB_ok (c.fact 35 (f := fun K => noB K (ga K "BadGround") "part") rfl)
  c_Ground := clsB_ok (c.fact 36 (f := fun K => clsB K (ga K "Ground") (ma K (ga K "Ground") "__init__") (ma K (ga K "Ground") "__eq__")) rfl)
  o_Ground := insB_ok (c.fact 37 (f := fun K => insB K (ga K "Ground")) rfl)
  n_Ground_rows := noB_ok (c.fact 38 (f := fun K => noB K (ga K "Ground") "rows") rfl)
  n_Ground_wide := noB_ok (c.fact 39 (f := fun K => noB K (ga K "Ground") "wide") rfl)
  n_Ground_high := noB_ok (c.fact 40 (f := fun K => noB K (ga K "Ground") "high") rfl)
  g_is_plain_integer := He.glo_ok X G (c.fact 41 (f := gloX "is_plain_integer") rfl)
  g_is_between := He.glo_ok X G (c.fact 42 (f := gloX "is_between") rfl)
  g_is_row := He.glo_ok X G (c.fact 43 (f := gloX "is_row") rfl)
  g_sign_at := He.glo_ok X G (c.fact 44 (f := gloX "sign_at") rfl)
  g_is_open := He.glo_ok X G (c.fact 45 (f := gloX "is_open") rfl)
  g_l_hand := He.glo_ok X G (c.fact 46 (f := gloX "_law_hand") rfl)
  g_l_take := He.glo_ok X G (c.fact 47 (f := gloX "_law_take") rfl)
  g_l_pick := He.glo_ok X G (c.fact 48 (f := gloX "_law_pick") rfl)
  g_l_great := He.glo_ok X G (c.fact 49 (f := gloX "_law_great") rfl)
  g_l_is_integer := He.glo_ok X G (c.fact 50 (f := gloX "_law_is_integer") rfl)
  g_l_is_within := He.glo_ok X G (c.fact 51 (f := gloX "_law_is_within") rfl)
  g_l_same := He.glo_ok X G (c.fact 52 (f := gloX "_law_same") rfl)
  g_l_odd := He.glo_ok X G (c.fact 53 (f := gloX "_law_odd") rfl)
  g_l_ground_sign := He.glo_ok X G (c.fact 54 (f := gloX "_law_ground_sign") rfl)
  g_l_rows := He.glo_ok X G (c.fact 55 (f := gloX "_law_rows") rfl)
  g_l_ground := He.glo_ok X G (c.fact 56 (f := gloX "_law_ground") rfl)
  g_l_sign := He.glo_ok X G (c.fact 57 (f := gloX "_law_sign") rfl)
  g_l_first_bad := He.glo_ok X G (c.fact 58 (f := gloX "_law_first_bad") rfl)
  g_l_large := He.glo_ok X G (c.fact 59 (f := gloX "_law_large") rfl)
  g_l_spoiled := He.glo_ok X G (c.fact 60 (f := gloX "_law_spoiled") rfl)
  g_l_made := He.glo_ok X G (c.fact 61 (f := gloX "_law_made") rfl)
  g_l_signed := He.glo_ok X G (c.fact 62 (f := gloX "_law_signed") rfl)
  g_l_opened := He.glo_ok X G (c.fact 63 (f := gloX "_law_opened") rfl)
  g_l_units_open := He.glo_ok X G (c.fact 64 (f := gloX "_law_units_open") rfl)
  g_l_where := He.glo_ok X G (c.fact 65 (f := gloX "_law_where") rfl)
  g_l_side := He.glo_ok X G (c.fact 66 (f := gloX "_law_side") rfl)
  g_l_asked := He.glo_ok X G (c.fact 67 (f := gloX "_law_asked") rfl)
  g_law := He.glo_ok X G (c.fact 68 (f := gloX "law") rfl)
}
end K02

set_option Elab.async false
set_option linter.all false
set_option maxRecDepth 100000
set_option maxHeartbeats 4000000
namespace K02
open PySem PySem.Spec PyProof.Rows L2 He Gw
theorem run (w : World) : HandSHeadRun.RunEq R (PySem.W.view R.prog [41]) hk ob 20000 loose w := by
  intro os
  kernel_rfl
end K02

set_option Elab.async false
set_option linter.all false
set_option maxRecDepth 100000
set_option maxHeartbeats 4000000
namespace K02
open PySem PySem.Spec PyProof.Rows L2 He Gw
local macro_rules | `(tactic| walk_at "side") => `(tactic| (first | (show (0 : Int) < _; first | decide | omega) | exact ⟨by decide, by decide⟩ | exact ⟨by decide, by decide, by decide⟩ | exact ⟨by omega, by omega⟩ | exact .inl ⟨by omega, by omega⟩ | exact .inr ⟨by omega, by omega⟩))
local macro_rules | `(tactic| walk_at "g1") => `(tactic| (first
  | refine ⟨_, rfl, ?_⟩
  | (refine ⟨_, ?xs, _, ?v, rfl, rfl, SqL.of ?h, ?e, ?r⟩; (case h => assumption); (case e => first | exact rfl | assumption))
  | (refine ⟨_, ?xs, _, ?j, rfl, rfl, ?h, ?e, ?r⟩; (case h => assumption); (case e => first | exact rfl | assumption))
  | refine ⟨_, _, rfl, rfl, ?_⟩
  | refine .inl ⟨_, rfl, ?_⟩
  | refine ⟨rfl, ?_⟩
  | (refine ⟨_, ?xs, rfl, .inl (SqL.of ?h), ?r⟩; (case h => assumption))
  | (refine And.intro ?c ?r; (case c => walk_at "side"))))
local macro_rules | `(tactic| walk_at "go") => `(tactic| repeat walk_at "g1")
section
variable {P : Program} {w : World} {K : PySem.W.Frag} {mg : Str → Option Value} {base : Heap}
theorem ok_l_take (T : Txt K mg) : okAt P w K mg base CX0 1 "_law_take" ["_law_hand_here", "_law_many"] spTake := by
  refine T.d_l_take.F.ok sc_l_take (fun vs H Q E h => ?_) (fun cdv A outer s H vs Q E hr h => ?_)
  · obtain ⟨h, n, rfl, _⟩ := h
    rfl
  · obtain ⟨h, n, rfl, ⟨l, ns, i, b, s, c, A, i0, b0, s0, s1⟩, n0, n1, q⟩ := h
    refine ⟨_, PSs.nox (pss_cons (ps_asg (pe_op op_add (pe_ix ix_list (pv 0) pe_int (fun _ _ => rfl)) pe_int) (pg_sub (pv 0) pe_int set_list))
      (Evl.pss_cut (ps_if (PW.pt (pw_and (pt_cmpR op_eq (pe_ix ix_list (pv 0) pe_int (fun _ _ => rfl)) pe_int (nomark _)) (pw_and1 (pt_cmpR op_lt (pe_ix ix_list (pv 0) pe_int (fun _ _ => rfl)) (pe_callB call_len_seq (by rfl) T.b_len PySem.boot_len (pa_cons (pe_ix ix_list (pv 0) pe_int (fun _ _ => rfl)) pa_nil)) (nomark _)))))
        (pss_cons (ps_set (i := 2) sc_l_take.nd rfl (.inl rfl) (pe_callTy call_int1 (by rfl) T.b_int (by decide +kernel) (pa_cons (pe_ix ix_list (pe_ix ix_list (pv 0) pe_int (fun _ _ => rfl)) (pe_ix ix_list (pv 0) pe_int (fun _ _ => rfl)) (fun _ _ => rfl)) pa_nil)))
        (pss_cons (ps_asg (pe_op op_add (pe_ix ix_list (pv 0) pe_int (fun _ _ => rfl)) pe_int) (pg_sub (pv 0) pe_int set_list))
        (pss_one (ps_if (pt_cmpR op_ge (pv 2) (pe_op op_pow pe_int pe_int) (nomark _))
          (pss_one (ps_asg (pv 2) (pg_sub (pv 0) pe_int set_list)))
          (pss_one (ps_asg (pe_op op_mod (pe_callTy call_int1 (by rfl) T.b_int (by decide +kernel) (pa_cons (pe_op op_add (pe_op op_add (pe_op op_mul (pe_ix ix_list (pv 0) pe_int (fun _ _ => rfl)) pe_int) (pe_op op_mod (pe_callTy call_int1 (by rfl) T.b_int (by decide +kernel) (pa_cons (pv 2) pa_nil)) pe_int)) pe_int) pa_nil)) pe_int) (pg_sub (pv 0) pe_int set_list)))))))
        pss_nil)
      (pss_cons (ps_if (pt_cmpR op_gt (pe_ix ix_list (pv 0) pe_int (fun _ _ => rfl)) pe_int (nomark _))
        (pss_cons (ps_set (i := 3) sc_l_take.nd rfl (.inl rfl) (pe_op op_mod (pe_callTy call_int1 (by rfl) T.b_int (by decide +kernel) (pa_cons (pe_ix ix_list (pv 0) pe_int (fun _ _ => rfl)) pa_nil)) (pv 1)))
        (pss_cons (ps_asg (pe_op op_fdiv (pe_callTy call_int1 (by rfl) T.b_int (by decide +kernel) (pa_cons (pe_ix ix_list (pv 0) pe_int (fun _ _ => rfl)) pa_nil)) (pv 1)) (pg_sub (pv 0) pe_int set_list))
        (pss_one (ps_ret (pv 3)))))
        pss_nil)
      (pss_cons (ps_asg (pe_op op_mod (pe_callTy call_int1 (by rfl) T.b_int (by decide +kernel) (pa_cons (pe_op op_add (pe_op op_mul (pe_ix ix_list (pv 0) pe_int (fun _ _ => rfl)) pe_int) (pe_op op_mul pe_int (pe_ix ix_list (pv 0) pe_int (fun _ _ => rfl)))) pa_nil)) pe_int) (pg_sub (pv 0) pe_int set_list))
      (pss_cons (ps_set (i := 4) sc_l_take.nd rfl (.inl rfl) (pe_op op_mod (pe_callTy call_int1 (by rfl) T.b_int (by decide +kernel) (pa_cons (pe_op op_mul (pe_ix ix_list (pv 0) pe_int (fun _ _ => rfl)) (pe_op op_add (pe_op op_fdiv (pe_ix ix_list (pv 0) pe_int (fun _ _ => rfl)) pe_int) pe_int)) pa_nil)) pe_int))
      (pss_cons (ps_set (i := 4) sc_l_take.nd rfl (.inl rfl) (pe_op op_mod (pe_callTy call_int1 (by rfl) T.b_int (by decide +kernel) (pa_cons (pe_op op_mul (pv 4) (pe_op op_add (pe_op op_fdiv (pv 4) pe_int) pe_int)) pa_nil)) pe_int))
      (pss_one (ps_ret (pe_op op_mod (pe_callTy call_int1 (by rfl) T.b_int (by decide +kernel) (pa_cons (pe_op op_fdiv (pv 4) pe_int) pa_nil)) (pv 1)))))))))), ?_⟩
    -- hand[4] = hand[4] + 1
    have hh := A.hh
    walk_at "go"
    generalize hH1 : upd H h _ = H1
    obtain ⟨A1, B1⟩ := A.set hH1 i b s (c + 1)
    clear hH1 hh
    have hh := A1.hh
    have hl := A1.hl
    refine ⟨fun σ' H' => ∃ y i' b' s', σ' = [some (.ref h), some (.int n), y, none, none] ∧ HandAt H' h l ns i' b' s' (c + 1) ∧ 0 ≤ i' ∧ 0 ≤ b' ∧ 0 ≤ s' ∧ s' < 2147483647 ∧ But h H H', ?_, ?_⟩
    · walk_at "go"
      refine ite2 (fun e => ?_) (fun e => ?_)
      · walk_at "go"
        refine ite2 (fun e2 => ?_) (fun e2 => ?_)
        · have i1 : i < ((ns.map V.int).length : Int) := of_decide_eq_true e2
          obtain ⟨x, hx⟩ := atI_ints i0 i1
          walk_at "go"
          generalize hH2 : upd H1 h _ = H2
          obtain ⟨A2, B2⟩ := A1.set hH2 (i + 1) b s (c + 1)
          clear hH2 hh hl
          have hh := A2.hh
          have hl := A2.hl
          walk_at "go"
          refine ite2 (fun e3 => ?_) (fun e3 => ?_)
          · have x1 := of_decide_eq_true (show decide _ = true from e3)
            have z18 : (10 : Int) ^ (18 : Int).toNat = 1000000000000000000 := by decide
            rw [z18] at x1
            walk_at "go"
            generalize hH3 : upd H2 h _ = H3
            obtain ⟨A3, B3⟩ := A2.set hH3 (i + 1) x s (c + 1)
            exact ⟨_, _, _, _, rfl, A3, by omega, by omega, s0, s1, (B1.trans B2).trans B3⟩
          · walk_at "go"
            generalize hH3 : upd H2 h _ = H3
            obtain ⟨A3, B3⟩ := A2.set hH3 (i + 1) b ((s * 48271 + x % 2147483647 + 1) % 2147483647) (c + 1)
            exact ⟨_, _, _, _, rfl, A3, by omega, by omega, by omega, by omega, (B1.trans B2).trans B3⟩
        · exact ⟨_, _, _, _, rfl, A1, i0, b0, s0, s1, B1⟩
      · exact ⟨_, _, _, _, rfl, A1, i0, b0, s0, s1, B1⟩
    · rintro σ' H' ⟨y, i', b', s', rfl, A2, i0', b0', s0', s1', B2⟩
      have hh := A2.hh
      have hl := A2.hl
      walk_at "go"
      refine ite2 (fun e3 => ?_) (fun e3 => ?_)
      · have x1 := of_decide_eq_true (show decide _ = true from e3)
        walk_at "go"
        generalize hH3 : upd H' h _ = H3
        obtain ⟨A3, B3⟩ := A2.set hH3 i' (b' / n) s' (c + 1)
        refine q _ _ (Int.emod_nonneg _ (by omega)) (Int.emod_lt_of_pos _ n0) ⟨⟨_, _, _, _, _, _, A3, i0', Int.ediv_nonneg b0' (by omega), s0', s1'⟩, B2.trans B3, ⟨_, _, _, _, _, _, A, i0, b0, s0, s1⟩, fun l2 ys e => by rw [A.hh] at e; cases e; exact ⟨_, A3.hh⟩⟩
      · walk_at "go"
        generalize hH3 : upd H' h _ = H3
        obtain ⟨A3, B3⟩ := A2.set hH3 i' b' ((s' * 69621 + 7919 * (c + 1)) % 2147483647) (c + 1)
        clear hH3 hh hl
        have hh := A3.hh
        walk_at "go"
        refine q _ _ (Int.emod_nonneg _ (by omega)) (Int.emod_lt_of_pos _ n0) ⟨⟨_, _, _, _, _, _, A3, i0', b0', by omega, by omega⟩, B2.trans B3, ⟨_, _, _, _, _, _, A, i0, b0, s0, s1⟩, fun l2 ys e => by rw [A.hh] at e; cases e; exact ⟨_, A3.hh⟩⟩
end
end K02

set_option Elab.async false
set_option linter.all false
set_option maxRecDepth 100000
set_option maxHeartbeats 4000000
namespace K02
open PySem PySem.Spec PyProof.Rows L2 He Gw
local macro_rules | `(tactic| walk_at "side") => `(tactic| (first | (with_reducible assumption) | ((with_reducible show _ ≤ sizeLine); exact sz_b rfl) | (show (_ : Int) < (_ : Int); first | decide | omega) | (show (0 : Int) < _; first | decide | omega) | exact ⟨by decide, by decide⟩ | exact ⟨by decide, by decide, by decide⟩ | exact ⟨by omega, by omega⟩ | exact .inl ⟨by omega, by omega⟩ | exact .inr ⟨by omega, by omega⟩))
local macro_rules | `(tactic| walk_at "isi") => `(tactic| (first
  | (refine ei_int (by assumption) ?_)
  | (refine ei_bool (by assumption) ?_)
  | (refine ei_str (by assumption) ?_)
  | (refine ei_tuple (by assumption) ?_)
  | (refine ei_list (by assumption) ?_)
  | (refine ei_dict (by assumption) ?_)))
local macro_rules | `(tactic| walk_at "g1") => `(tactic| (first
  | ((with_reducible refine And.intro ?c ?r); (case c => walk_at "side"))
  | refine ⟨_, rfl, ?_⟩
  | (refine ⟨_, ?xs, rfl, .inl (SqL.of ?h), ?r⟩; (case h => with_reducible assumption))
  | (refine ⟨_, ?xs, rfl, .inr (SqT.of ?h), ?r⟩; (case h => with_reducible assumption))
  | (refine ⟨_, ?xs, _, ?v, rfl, rfl, SqL.of ?h, ?e, ?r⟩; (case h => with_reducible assumption); (case e => first | exact rfl | (with_reducible assumption)))
  | (refine ⟨_, ?xs, _, ?j, rfl, rfl, ?h, ?e, ?r⟩; (case h => with_reducible assumption); (case e => first | exact rfl | (with_reducible assumption)))
  | refine ⟨_, _, rfl, rfl, ?_⟩
  | refine .inl ⟨_, rfl, ?_⟩
  | refine ⟨rfl, ?_⟩
  | walk_at "isi"
  | refine ⟨_, _, rfl, ?_⟩
  | refine ⟨_, _, _, rfl, ?_⟩
  | (refine And.intro ?c ?r; (case c => walk_at "side"))))
local macro_rules | `(tactic| walk_at "go") => `(tactic| repeat walk_at "g1")
section
variable {P : Program} {w : World} {K : PySem.W.Frag} {mg : Str → Option Value} {base : Heap}
theorem ok_WorldError_init (T : Txt K mg) : FnOk P w K mg base CX0 1 (ma K (ga K "WorldError") "__init__") (fdAt K (ma K (ga K "WorldError") "__init__")) ["self"] (spErr0 K) := by
  refine T.d_WorldError_init.F.ok sc_WorldError_init (fun vs H Q E h => ?_) (fun cdv A outer s H vs Q E hr h => ?_)
  · obtain ⟨_, _, rfl, _⟩ := h
    rfl
  · obtain ⟨a, C, rfl, x, e, q⟩ := h
    refine ⟨_, (PSs.nox (pss_one (ps_expr (pe_veinit (by rfl) T.b_ValueError (by rfl) (pa_cons (pv 0) pa_nil))))), ?_⟩
    exact ⟨_, rfl, a, C, [], rfl, by decide, x, e, q⟩
theorem ok_is_plain_integer (T : Txt K mg) : okAt P w K mg base CX0 1 "is_plain_integer" ["thing"] spPlain := by
  refine T.d_is_plain_integer.F.ok sc_is_plain_integer (fun vs H Q E h => ?_) (fun cdv A outer s H vs Q E hr h => ?_)
  · obtain ⟨_, rfl, _⟩ := h
    rfl
  · obtain ⟨v, rfl, W, q⟩ := h
    refine ⟨_, (PSs.nox (pss_one (ps_ret (pe_and (pe_callB call_isi (by rfl) T.b_isinstance (by decide +kernel) (pa_cons (pv 0) (pa_cons (pe_ty "int" T.b_int) pa_nil))) (pe_one (pe_not (pe_callB call_isi (by rfl) T.b_isinstance (by decide +kernel) (pa_cons (pv 0) (pa_cons (pe_ty "bool" T.b_bool) pa_nil))))))))), ?_⟩
    walk_at "go"
    refine ite2 (fun e => ?_) (fun e => ?_)
    · walk_at "go"
      cases W <;> first | exact q | cases e
    · cases W <;> first | exact q | exact absurd rfl e
theorem ok_is_between (T : Txt K mg) : okAt P w K mg base CX0 2 "is_between" ["least", "most", "thing"] spBetween := by
  have G_is_plain_integer : okAt P w K mg base CX0 1 "is_plain_integer" ["thing"] spPlain := ok_is_plain_integer T
  refine T.d_is_between.F.ok sc_is_between (fun vs H Q E h => ?_) (fun cdv A outer s H vs Q E hr h => ?_)
  · obtain ⟨_, _, _, rfl, _⟩ := h
    rfl
  · obtain ⟨a, b, v, rfl, W, q⟩ := h
    refine ⟨_, (PSs.nox (pss_one (ps_ret (pe_and (pc T.d_is_plain_integer G_is_plain_integer (hr.mono (by decide)) (pa_cons (pv 2) pa_nil)) (pe_one (pe_chain op_le op_le (pv 0) (pv 2) (pv 1))))))), ?_⟩
    walk_at "go"
    refine ite2 (fun e => ?_) (fun e => ?_)
    · cases W <;> try cases e
      rename_i i
      have q' : Q (.bl (decide (a ≤ i) && decide (i ≤ b))) H := q
      walk_at "go"
      refine ite2 (fun e => ?_) (fun e => ?_)
      · walk_at "go"
        rw [e] at q'
        exact q'
      · rw [Bool.eq_false_iff.mpr e] at q'
        exact q'
    · cases W <;> first | exact q | exact absurd rfl e
theorem ok_l_hand (T : Txt K mg) : okAt P w K mg base CX0 1 "_law_hand" ["_law_script"] (spHand K) := by
  refine T.d_l_hand.F.ok sc_l_hand (fun vs H Q E h => ?_) (fun cdv A outer s H vs Q E hr h => ?_)
  · obtain ⟨_, _, rfl, _⟩ := h
    rfl
  · obtain ⟨a, ns, rfl, hS, q⟩ := h
    refine ⟨_, (PSs.nox (pss_one (ps_ret (pe_lst (pa_cons (pe_callTy call_list_of (by rfl) T.b_list (by decide +kernel) (pa_cons (pv 0) pa_nil)) (pa_cons pe_int (pa_cons pe_int (pa_cons pe_int (pa_cons pe_int pa_nil))))))))), ?_⟩
    refine ⟨_, rfl, _, _, rfl, .inl hS, fun l hl => ?_⟩
    walk_at "go"
    intro h hh
    have nl : l ≠ h := fun z => by rw [z, upd_same] at hh; cases hh
    have hn : H h = none := by rw [upd_ne nl.symm] at hh; exact hh
    refine q h _ hn ⟨l, ns, 0, 0, 1, 0, ⟨upd_same, by rw [upd_ne nl, upd_same], nl⟩, by decide, by decide, by decide, by decide⟩ ?_
    exact (Same.new hl).trans (Same.new hh)
theorem ok_l_pick (T : Txt K mg) : okAt P w K mg base CX0 2 "_law_pick" ["_law_hand_here", "_law_things"] (spPick K) := by
  have G_l_take : okAt P w K mg base CX0 1 "_law_take" ["_law_hand_here", "_law_many"] spTake := ok_l_take T
  refine T.d_l_pick.F.ok sc_l_pick (fun vs H Q E h => ?_) (fun cdv A outer s H vs Q E hr h => ?_)
  · obtain ⟨_, _, _, rfl, _⟩ := h
    rfl
  · obtain ⟨h, a, xs, rfl, A, na, ha, x0, x1, q⟩ := h
    refine ⟨_, (PSs.nox (pss_one (ps_ret (pe_ix ix_list (pv 1) (pc T.d_l_take G_l_take (hr.mono (by decide)) (pa_cons (pv 0) (pa_cons (pe_callB call_len_seq (by rfl) T.b_len PySem.boot_len (pa_cons (pv 1) pa_nil)) pa_nil))) (fun _ _ => rfl))))), ?_⟩
    have e0 : (0 : Int) < (xs.length : Int) := by omega
    have e1 : (xs.length : Int) < 1073741824 := by omega
    walk_at "go"
    intro r H1 r0 r1 k1
    obtain ⟨j, rfl⟩ : ∃ j : Nat, r = (j : Int) := ⟨r.toNat, by omega⟩
    have hj : j < xs.length := by omega
    have hx := List.getElem?_eq_getElem hj
    have ha1 := k1.keep ha na
    have hx1 := atI_nat hx
    walk_at "go"
    exact q j _ H1 hx k1
theorem ok_l_great (T : Txt K mg) : okAt P w K mg base CX0 2 "_law_great" ["_law_hand_here"] (spDraw 0 99999999999999999999) := by
  have G_l_take : okAt P w K mg base CX0 1 "_law_take" ["_law_hand_here", "_law_many"] spTake := ok_l_take T
  refine T.d_l_great.F.ok sc_l_great (fun vs H Q E h => ?_) (fun cdv A outer s H vs Q E hr h => ?_)
  · obtain ⟨_, rfl, _⟩ := h
    rfl
  · obtain ⟨h, rfl, A, q⟩ := h
    refine ⟨_, (PSs.nox (pss_one (ps_ret (pe_op op_add (pe_op op_mul (pe_op op_add (pe_op op_mul (pc T.d_l_take G_l_take (hr.mono (by decide)) (pa_cons (pv 0) (pa_cons (pe_op op_pow pe_int pe_int) pa_nil))) (pe_op op_pow pe_int pe_int)) (pc T.d_l_take G_l_take (hr.mono (by decide)) (pa_cons (pv 0) (pa_cons (pe_op op_pow pe_int pe_int) pa_nil)))) (pe_op op_pow pe_int pe_int)) (pe_op op_add (pe_op op_mul (pc T.d_l_take G_l_take (hr.mono (by decide)) (pa_cons (pv 0) (pa_cons (pe_op op_pow pe_int pe_int) pa_nil))) (pe_op op_pow pe_int pe_int)) (pc T.d_l_take G_l_take (hr.mono (by decide)) (pa_cons (pv 0) (pa_cons (pe_op op_pow pe_int pe_int) pa_nil)))))))), ?_⟩
    have z5 : (10 : Int) ^ (5 : Int).toNat = 100000 := by decide
    have z10 : (10 : Int) ^ (10 : Int).toNat = 10000000000 := by decide
    walk_at "go"
    rw [z5]
    intro r H1 r0 r1 k1
    have A1 := k1.hand
    walk_at "go"
    rw [z5]
    intro r2 H2 r20 r21 k2
    have A2 := k2.hand
    walk_at "go"
    rw [z5]
    intro r3 H3 r30 r31 k3
    have A3 := k3.hand
    walk_at "go"
    rw [z5]
    intro r4 H4 r40 r41 k4
    walk_at "go"
    refine q _ _ ?_ ?_ (((k1.trans k2).trans k3).trans k4)
    all_goals
      rw [z10]
      omega
end

end K02

set_option Elab.async false
set_option linter.all false
set_option maxRecDepth 100000
set_option maxHeartbeats 4000000
namespace K02
open PySem PySem.Spec PyProof.Rows L2 He Gw
local macro_rules | `(tactic| walk_at "side") => `(tactic| (first | (with_reducible assumption) | ((with_reducible show _ ≤ sizeLine); exact sz_b rfl) | (show (_ : Int) < (_ : Int); first | decide | omega) | (show (0 : Int) < _; first | decide | omega) | exact ⟨by decide, by decide⟩ | exact ⟨by decide, by decide, by decide⟩ | exact ⟨by omega, by omega⟩ | exact .inl ⟨by omega, by omega⟩ | exact .inr ⟨by omega, by omega⟩))
local macro_rules | `(tactic| walk_at "isi") => `(tactic| (first
  | (refine ei_int (by assumption) ?_)
  | (refine ei_bool (by assumption) ?_)
  | (refine ei_str (by assumption) ?_)
  | (refine ei_tuple (by assumption) ?_)
  | (refine ei_list (by assumption) ?_)
  | (refine ei_dict (by assumption) ?_)))
local macro_rules | `(tactic| walk_at "g1") => `(tactic| (first
  | ((with_reducible refine And.intro ?c ?r); (case c => walk_at "side"))
  | refine ⟨_, rfl, ?_⟩
  | (refine ⟨_, ?xs, rfl, .inl (SqL.of ?h), ?r⟩; (case h => with_reducible assumption))
  | (refine ⟨_, ?xs, rfl, .inr (SqT.of ?h), ?r⟩; (case h => with_reducible assumption))
  | (refine ⟨_, ?xs, _, ?v, rfl, rfl, SqL.of ?h, ?e, ?r⟩; (case h => with_reducible assumption); (case e => first | exact rfl | (with_reducible assumption)))
  | (refine ⟨_, ?xs, _, ?j, rfl, rfl, ?h, ?e, ?r⟩; (case h => with_reducible assumption); (case e => first | exact rfl | (with_reducible assumption)))
  | refine ⟨_, _, rfl, rfl, ?_⟩
  | refine .inl ⟨_, rfl, ?_⟩
  | refine ⟨rfl, ?_⟩
  | walk_at "isi"
  | refine ⟨_, _, rfl, ?_⟩
  | refine ⟨_, _, _, rfl, ?_⟩
  | (refine And.intro ?c ?r; (case c => walk_at "side"))))
local macro_rules | `(tactic| walk_at "go") => `(tactic| repeat walk_at "g1")
section
variable {P : Program} {w : World} {K : PySem.W.Frag} {mg : Str → Option Value} {base : Heap}
theorem ok_l_is_integer (T : Txt K mg) : okAt P w K mg base CX0 1 "_law_is_integer" ["_law_thing"] spPlain := by
  refine T.d_l_is_integer.F.ok sc_l_is_integer (fun vs H Q E h => ?_) (fun cdv A outer s H vs Q E hr h => ?_)
  · obtain ⟨_, rfl, _⟩ := h
    rfl
  · obtain ⟨v, rfl, W, q⟩ := h
    refine ⟨_, (PSs.nox (pss_one (ps_ret (pe_and (pe_callB call_isi (by rfl) T.b_isinstance (by decide +kernel) (pa_cons (pv 0) (pa_cons (pe_ty "int" T.b_int) pa_nil))) (pe_one (pe_not (pe_callB call_isi (by rfl) T.b_isinstance (by decide +kernel) (pa_cons (pv 0) (pa_cons (pe_ty "bool" T.b_bool) pa_nil))))))))), ?_⟩
    walk_at "go"
    refine ite2 (fun e => ?_) (fun e => ?_)
    · walk_at "go"
      cases W <;> first | exact q | cases e
    · cases W <;> first | exact q | exact absurd rfl e
theorem ok_l_is_within (T : Txt K mg) : okAt P w K mg base CX0 2 "_law_is_within" ["_law_thing", "_law_least", "_law_most"] spWithin := by
  have G_l_is_integer : okAt P w K mg base CX0 1 "_law_is_integer" ["_law_thing"] spPlain := ok_l_is_integer T
  refine T.d_l_is_within.F.ok sc_l_is_within (fun vs H Q E h => ?_) (fun cdv A outer s H vs Q E hr h => ?_)
  · obtain ⟨_, _, _, rfl, _⟩ := h
    rfl
  · obtain ⟨a, b, v, rfl, W, q⟩ := h
    refine ⟨_, (PSs.nox (pss_one (ps_ret (pe_and (pc T.d_l_is_integer G_l_is_integer (hr.mono (by decide)) (pa_cons (pv 0) pa_nil)) (pe_and (pe_cmpR op_le (pv 1) (pv 0) (nomark _)) (pe_one (pe_cmpR op_le (pv 0) (pv 2) (nomark _)))))))), ?_⟩
    walk_at "go"
    refine ite2 (fun e => ?_) (fun e => ?_)
    · cases W <;> try cases e
      rename_i i
      have q' : Q (.bl (decide (a ≤ i) && decide (i ≤ b))) H := q
      walk_at "go"
      refine ite2 (fun e => ?_) (fun e => ?_)
      · walk_at "go"
        rw [e] at q'
        exact q'
      · rw [Bool.eq_false_iff.mpr e] at q'
        exact q'
    · cases W <;> first | exact q | exact absurd rfl e
theorem ok_l_same_step (T : Txt K mg) {k n : Nat} (G_l_same : okAt P w K mg base CX0 (k + 1) "_law_same" ["_law_actual", "_law_due"] (spSameB n)) : okAt P w K mg base CX0 (k + 2) "_law_same" ["_law_actual", "_law_due"] (spSameB (n + 1)) := by
  have G_l_is_integer : okAt P w K mg base CX0 1 "_law_is_integer" ["_law_thing"] spPlain := ok_l_is_integer T
  refine T.d_l_same.F.ok sc_l_same (fun vs H Q E h => ?_) (fun cdv A outer s H vs Q E hr h => ?_)
  · obtain ⟨_, _, rfl, _⟩ := h
    rfl
  · obtain ⟨v, u, rfl, S, q⟩ := h
    refine ⟨_, (PSs.nox (pss_cons (ps_if (pt_cmpR op_isN (pv 1) pe_non (nomark _)) (pss_one (ps_ret (pe_cmpR op_isN (pv 0) pe_non (nomark _)))) pss_nil)
      (pss_cons (ps_if (pt_cmpR op_isC (pv 1) pe_bl (nomark _)) (pss_one (ps_ret (pe_cmpR op_isC (pv 0) pe_bl (nomark _)))) pss_nil)
      (pss_cons (ps_if (pt_cmpR op_isC (pv 1) pe_bl (nomark _)) (pss_one (ps_ret (pe_cmpR op_isC (pv 0) pe_bl (nomark _)))) pss_nil)
      (pss_cons (ps_if (pt_val (pe_callB call_isi (by rfl) T.b_isinstance (by decide +kernel) (pa_cons (pv 1) (pa_cons (pe_ty "int" T.b_int) pa_nil)))) (pss_one (ps_ret (pe_and (pc T.d_l_is_integer G_l_is_integer (hr.mono (by omega)) (pa_cons (pv 0) pa_nil)) (pe_one (pe_cmpR op_eq (pv 0) (pv 1) (nomark _)))))) pss_nil)
      (pss_cons (ps_if (pt_val (pe_callB call_isi (by rfl) T.b_isinstance (by decide +kernel) (pa_cons (pv 1) (pa_cons (pe_ty "str" T.b_str) pa_nil)))) (pss_one (ps_ret (pe_and (pe_callB call_isi (by rfl) T.b_isinstance (by decide +kernel) (pa_cons (pv 0) (pa_cons (pe_ty "str" T.b_str) pa_nil))) (pe_one (pe_cmpR op_eq (pv 0) (pv 1) (nomark _)))))) pss_nil)
      (pss_cons (ps_if (PW.pt (pw_or (pt_cmpR op_ne (pe_callB call_isi (by rfl) T.b_isinstance (by decide +kernel) (pa_cons (pv 1) (pa_cons (pe_ty "tuple" T.b_tuple) pa_nil))) (pe_callB call_isi (by rfl) T.b_isinstance (by decide +kernel) (pa_cons (pv 0) (pa_cons (pe_ty "tuple" T.b_tuple) pa_nil))) (nomark _)) (pw_or1 (pt_cmpR op_ne (pe_callB call_isi (by rfl) T.b_isinstance (by decide +kernel) (pa_cons (pv 1) (pa_cons (pe_ty "list" T.b_list) pa_nil))) (pe_callB call_isi (by rfl) T.b_isinstance (by decide +kernel) (pa_cons (pv 0) (pa_cons (pe_ty "list" T.b_list) pa_nil))) (nomark _))))) (pss_one (ps_ret pe_bl)) pss_nil)
      (pss_cons (ps_if (pt_cmpR op_ne (pe_callB call_len_seq (by rfl) T.b_len PySem.boot_len (pa_cons (pv 0) pa_nil)) (pe_callB call_len_seq (by rfl) T.b_len PySem.boot_len (pa_cons (pv 1) pa_nil)) (nomark _)) (pss_one (ps_ret pe_bl)) pss_nil)
      (pss_cons (ps_for PassesOwn.never rfl (RZ.pi_zipA (by rfl) T.b_zip (pa_cons (pv 0) (pa_cons (pv 1) pa_nil))) (pg_tup (by rfl) (pgs_cons (pg_name (i := 2) sc_l_same.nd rfl (.inl rfl)) (pgs_cons (pg_name (i := 3) sc_l_same.nd rfl (.inl rfl)) pgs_nil))) (pss_one (ps_if (pt_not (pt_val (pc T.d_l_same G_l_same (hr.mono (by omega)) (pa_cons (pv 2) (pa_cons (pv 3) pa_nil))))) (pss_one (ps_ret pe_bl)) pss_nil)))
      (pss_one (ps_ret pe_bl))))))))))), ?_⟩
    obtain ⟨W, Wu⟩ := Sm.wt S
    have S2 : (v = u ∧ (isI u || isS u || isN u || isB u) = true) ∨ ∃ a b xs ys, v = .ref a ∧ u = .ref b ∧ H a = some (.tup xs) ∧ H b = some (.tup ys) ∧ xs.length = ys.length ∧ ∀ (i : Nat) x y, xs[i]? = some x → ys[i]? = some y → SmB H n x y := by
      cases n with
      | zero => exact .inl S
      | succ n => exact S
    have qH := q H (Same.refl H)
    rcases S2 with ⟨rfl, fl⟩ | ⟨a, b, xs, ys, rfl, rfl, ha, hb, hl, hs⟩
    · cases v <;> try cases fl
      · walk_at "go"
        exact qH
      · rename_i b
        cases b
        · walk_at "go"
          exact qH
        · walk_at "go"
          exact qH
      · rename_i i
        have e : decide (V.int i = V.int i) = true := decide_eq_true rfl
        walk_at "go"
        rw [e]
        exact qH
      · rename_i x
        have e : decide (V.str x = V.str x) = true := decide_eq_true rfl
        walk_at "go"
        rw [e]
        exact qH
    · have ea := isT_tup ha
      have eb := isT_tup hb
      have la := isL_tup ha
      have lb := isL_tup hb
      walk_at "go"
      rw [eb]
      walk_at "go"
      rw [ea]
      walk_at "go"
      rw [la, lb]
      walk_at "go"
      refine iteNS (congrArg (fun m : Nat => V.int (m : Int)) hl) ?_
      walk_at "go"
      refine ⟨a, b, xs, ys, rfl, .inr ⟨SqT.of ha, SqT.of hb, ?_⟩⟩
      refine RZ.for_zipT hl (fun i σ' H2 => ∃ o1 o2, σ' = [some (.ref a), some (.ref b), o1, o2] ∧ Same H H2) ⟨_, _, rfl, Same.refl H⟩ (fun i σ' H2 z => ?_) (fun i x y t σ' H2 hx hy z ht => ?_) (fun σ' H2 z => ?_)
      · obtain ⟨o1, o2, rfl, sm⟩ := z
        exact ⟨SqT.of (sm _ _ ha), SqT.of (sm _ _ hb)⟩
      · obtain ⟨o1, o2, rfl, sm⟩ := z
        have s3 := (hs i x y hx hy).same (sm.trans (Same.new (o := .tup [x, y]) ht))
        refine ⟨t, [x, y], rfl, SqT.of upd_same, rfl, x, [y], rfl, y, [], rfl, rfl, ?_⟩
        walk_at "go"
        intro H3 sm3
        walk_at "go"
        exact (sm.trans (Same.new ht)).trans sm3
      · obtain ⟨o1, o2, rfl, sm⟩ := z
        walk_at "go"
        exact q H2 sm
theorem ok_l_same (T : Txt K mg) : ∀ n, okAt P w K mg base CX0 (n + 1) "_law_same" ["_law_actual", "_law_due"] (spSameB n)
  | 0 => ⟨fun _ _ _ _ h => by obtain ⟨_, _, _, h, _⟩ := h; exact h.elim, fun _ _ _ _ _ _ _ _ _ _ _ _ _ h => by obtain ⟨_, _, _, h, _⟩ := h; exact h.elim⟩
  | n + 1 => ok_l_same_step T (k := n) (ok_l_same T n)
end

end K02

set_option Elab.async false
set_option linter.all false
set_option maxRecDepth 100000
set_option maxHeartbeats 4000000
namespace K02
open PySem PySem.Spec PyProof.Rows L2 He Gw
local macro_rules | `(tactic| walk_at "side") => `(tactic| (first | (with_reducible assumption) | ((with_reducible show _ ≤ sizeLine); exact sz_b rfl) | (show (_ : Int) < (_ : Int); first | decide | omega) | (show (0 : Int) < _; first | decide | omega) | exact ⟨by decide, by decide⟩ | exact ⟨by decide, by decide, by decide⟩ | exact ⟨by omega, by omega⟩ | exact .inl ⟨by omega, by omega⟩ | exact .inr ⟨by omega, by omega⟩))
local macro_rules | `(tactic| walk_at "isi") => `(tactic| (first
  | (refine ei_int (by assumption) ?_)
  | (refine ei_bool (by assumption) ?_)
  | (refine ei_str (by assumption) ?_)
  | (refine ei_tuple (by assumption) ?_)
  | (refine ei_list (by assumption) ?_)
  | (refine ei_dict (by assumption) ?_)))
local macro_rules | `(tactic| walk_at "g1") => `(tactic| (first
  | ((with_reducible refine And.intro ?c ?r); (case c => walk_at "side"))
  | refine ⟨_, rfl, ?_⟩
  | (refine ⟨_, ?xs, rfl, .inl (SqL.of ?h), ?r⟩; (case h => with_reducible assumption))
  | (refine ⟨_, ?xs, rfl, .inr (SqT.of ?h), ?r⟩; (case h => with_reducible assumption))
  | (refine ⟨_, ?xs, _, ?v, rfl, rfl, SqL.of ?h, ?e, ?r⟩; (case h => with_reducible assumption); (case e => first | exact rfl | (with_reducible assumption)))
  | (refine ⟨_, ?xs, _, ?j, rfl, rfl, ?h, ?e, ?r⟩; (case h => with_reducible assumption); (case e => first | exact rfl | (with_reducible assumption)))
  | refine ⟨_, _, rfl, rfl, ?_⟩
  | refine .inl ⟨_, rfl, ?_⟩
  | refine ⟨rfl, ?_⟩
  | walk_at "isi"
  | refine ⟨_, _, rfl, ?_⟩
  | refine ⟨_, _, _, rfl, ?_⟩
  | (refine And.intro ?c ?r; (case c => walk_at "side"))))
local macro_rules | `(tactic| walk_at "go") => `(tactic| repeat walk_at "g1")
section
variable {P : Program} {w : World} {K : PySem.W.Frag} {mg : Str → Option Value} {base : Heap}
theorem ok_l_odd (T : Txt K mg) : okAt P w K mg base CX0 2 "_law_odd" ["_law_hand_here"] spOddT := by
  have G_l_take : okAt P w K mg base CX0 1 "_law_take" ["_law_hand_here", "_law_many"] spTake := ok_l_take T
  refine T.d_l_odd.F.ok sc_l_odd (fun vs H Q E h => ?_) (fun cdv A outer s H vs Q E hr h => ?_)
  · obtain ⟨_, rfl, _⟩ := h
    rfl
  · obtain ⟨h, rfl, A, q⟩ := h
    refine ⟨_, (PSs.nox (pss_cons (ps_set (i := 1) sc_l_odd.nd rfl (.inl rfl) (pc T.d_l_take G_l_take (hr.mono (by decide)) (pa_cons (pv 0) (pa_cons pe_int pa_nil))))
      (pss_cons (ps_if (pt_cmpR op_lt (pv 1) pe_int (nomark _)) (pss_one (ps_ret (pe_ix ix_list (pe_lst (pa_cons pe_non (pa_cons pe_bl (pa_cons pe_bl (pa_cons pe_str (pa_cons pe_str (pa_cons pe_str pa_nil))))))) (pv 1) (fun _ _ => rfl)))) pss_nil)
      (pss_cons (ps_if (pt_cmpR op_lt (pv 1) pe_int (nomark _)) (pss_one (ps_ret (pe_ix ix_list (pe_lst (pa_cons (pe_tup pa_nil) (pa_cons (pe_lst pa_nil) (pa_cons pe_dnewK (pa_cons (pe_tup (pa_cons pe_int pa_nil)) (pa_cons (pe_lst (pa_cons pe_int pa_nil)) (pa_cons (pe_tup (pa_cons (pe_tup pa_nil) pa_nil)) pa_nil))))))) (pe_op op_sub (pv 1) pe_int) (fun _ _ => rfl)))) pss_nil)
      (pss_cons (ps_if (pt_cmpR op_lt (pv 1) pe_int (nomark _)) (pss_one (ps_ret (pe_ix ix_list (pe_lst (pa_cons (pe_un un_neg pe_int) (pa_cons pe_int (pa_cons (pe_un un_neg pe_int) (pa_cons (pe_op op_sub (pe_op op_pow pe_int pe_int) pe_int) (pa_cons (pe_op op_sub pe_int (pe_op op_pow pe_int pe_int)) (pa_cons pe_int pa_nil))))))) (pe_op op_sub (pv 1) pe_int) (fun _ _ => rfl)))) pss_nil)
      (pss_cons (ps_if (pt_cmpR op_eq (pv 1) pe_int (nomark _)) (pss_one (ps_ret (pe_lst (pa_cons (pe_op op_mulS pe_str pe_int) (pa_cons (pe_tup (pa_cons pe_non (pa_cons pe_int pa_nil))) pa_nil))))) pss_nil)
      (pss_one (ps_ret (pe_disp (pps_cons pe_str (pe_tup pa_nil) pps_nil) (by rfl) (by rfl) (fun z => by cases z) (by decide)))))))))), ?_⟩
    walk_at "go"
    intro r H1 r0 r1 k1
    have A1 := k1.hand
    have nr : ∀ p, H1 p = none → Off h (.ref p) := fun p hp z => A1.ne hp (V.ref.inj z)
    walk_at "go"
    refine ite2 (fun e => ?_) (fun e => ?_)
    · have e1 : r < 6 := of_decide_eq_true (show decide _ = true from e)
      walk_at "go"
      intro l hl
      generalize hL : upd H1 l _ = HL
      obtain ⟨sm, hl2⟩ := new_at hl hL
      have K2 := k1.same sm
      have cs : r = 0 ∨ r = 1 ∨ r = 2 ∨ r = 3 ∨ r = 4 ∨ r = 5 := by omega
      rcases cs with rfl | rfl | rfl | rfl | rfl | rfl
      all_goals
        walk_at "go"
        refine q _ _ ?_ (fun _ z => nomatch z) K2
        first | exact Th.fl .non (fun _ z => nomatch z) (fun _ z => nomatch z) | exact Th.fl (.bl _) (fun _ z => nomatch z) (fun _ z => nomatch z) | exact Th.fl (.str _) (fun _ z => by cases z; decide) (fun _ z => nomatch z)
    · walk_at "go"
      refine ite2 (fun e => ?_) (fun e => ?_)
      · have e0 : ¬ r < 6 := of_decide_eq_false (show decide _ = false from Bool.eq_false_iff.mpr (by assumption))
        have e1 : r < 12 := of_decide_eq_true (show decide _ = true from e)
        walk_at "go"
        intro p0 hp0
        generalize hP0 : upd H1 p0 _ = G0
        obtain ⟨sm0, hq0⟩ := new_at hp0 hP0
        clear hP0
        walk_at "go"
        intro p1 hp1
        generalize hP1 : upd G0 p1 _ = G1
        obtain ⟨sm1, hq1⟩ := new_at hp1 hP1
        clear hP1
        walk_at "go"
        intro p2 hp2
        generalize hP2 : upd G1 p2 _ = G2
        obtain ⟨sm2, hq2⟩ := new_at hp2 hP2
        clear hP2
        walk_at "go"
        intro p3 hp3
        generalize hP3 : upd G2 p3 _ = G3
        obtain ⟨sm3, hq3⟩ := new_at hp3 hP3
        clear hP3
        walk_at "go"
        intro p4 hp4
        generalize hP4 : upd G3 p4 _ = G4
        obtain ⟨sm4, hq4⟩ := new_at hp4 hP4
        clear hP4
        walk_at "go"
        intro p5 hp5
        generalize hP5 : upd G4 p5 _ = G5
        obtain ⟨sm5, hq5⟩ := new_at hp5 hP5
        clear hP5
        walk_at "go"
        intro p6 hp6
        generalize hP6 : upd G5 p6 _ = G6
        obtain ⟨sm6, hq6⟩ := new_at hp6 hP6
        clear hP6
        walk_at "go"
        intro p7 hp7
        generalize hP7 : upd G6 p7 _ = G7
        obtain ⟨sm7, hq7⟩ := new_at hp7 hP7
        clear hP7
        have sF : Same H1 G7 := (((((((sm0.trans sm1).trans sm2).trans sm3).trans sm4).trans sm5).trans sm6).trans sm7)
        have K2 := k1.same sF
        have f0 := ((((((sm1.trans sm2).trans sm3).trans sm4).trans sm5).trans sm6).trans sm7) _ _ hq0
        have f1 := (((((sm2.trans sm3).trans sm4).trans sm5).trans sm6).trans sm7) _ _ hq1
        have f2 := ((((sm3.trans sm4).trans sm5).trans sm6).trans sm7) _ _ hq2
        have f3 := (((sm4.trans sm5).trans sm6).trans sm7) _ _ hq3
        have f4 := ((sm5.trans sm6).trans sm7) _ _ hq4
        have f5 := (sm6.trans sm7) _ _ hq5
        have f6 := sm7 _ _ hq6
        have n0 := nr p0 hp0
        have n1 := nr p1 (sm0.free hp1)
        have n2 := nr p2 ((sm0.trans sm1).free hp2)
        have n3 := nr p3 (((sm0.trans sm1).trans sm2).free hp3)
        have n4 := nr p4 ((((sm0.trans sm1).trans sm2).trans sm3).free hp4)
        have n5 := nr p5 (((((sm0.trans sm1).trans sm2).trans sm3).trans sm4).free hp5)
        have n6 := nr p6 ((((((sm0.trans sm1).trans sm2).trans sm3).trans sm4).trans sm5).free hp6)
        have cs : r = 6 ∨ r = 7 ∨ r = 8 ∨ r = 9 ∨ r = 10 ∨ r = 11 := by omega
        rcases cs with rfl | rfl | rfl | rfl | rfl | rfl
        · walk_at "go"
          exact q _ _ (.tp f0 n0 (by decide) (fun x hx => nomatch hx)) (fun _ z => nomatch z) K2
        · walk_at "go"
          exact q _ _ (.ls f1 n1) (fun _ z => nomatch z) K2
        · walk_at "go"
          exact q _ _ (.dk f2 n2) (fun _ z => nomatch z) K2
        · walk_at "go"
          exact q _ _ (.tp f3 n3 (by decide) (fun x hx => by simp only [List.mem_cons, List.not_mem_nil, or_false] at hx; subst hx; exact ⟨⟨.int _, fun _ z => nomatch z⟩, fun z => nomatch z⟩)) (fun _ z => nomatch z) K2
        · walk_at "go"
          exact q _ _ (.ls f4 n4) (fun _ z => nomatch z) K2
        · walk_at "go"
          exact q _ _ (.tp f6 n6 (Nat.le_of_ble_eq_true rfl) (fun x hx => by simp only [List.mem_cons, List.not_mem_nil, or_false] at hx; subst hx; exact ⟨⟨.tup f5, fun _ z => nomatch z⟩, n5⟩)) (fun _ z => nomatch z) K2
      · walk_at "go"
        refine ite2 (fun e => ?_) (fun e => ?_)
        · have e0 : ¬ r < 12 := of_decide_eq_false (show decide _ = false from Bool.eq_false_iff.mpr (by assumption))
          have e1 : r < 18 := of_decide_eq_true (show decide _ = true from e)
          walk_at "go"
          intro l hl
          generalize hL : upd H1 l _ = HL
          obtain ⟨sm, hl2⟩ := new_at hl hL
          have K2 := k1.same sm
          have cs : r = 12 ∨ r = 13 ∨ r = 14 ∨ r = 15 ∨ r = 16 ∨ r = 17 := by omega
          rcases cs with rfl | rfl | rfl | rfl | rfl | rfl
          all_goals
            walk_at "go"
            refine q _ _ (.fl (.int _) (fun _ z => nomatch z) (fun _ z => nomatch z)) (fun i z => ?_) K2
            have z' := V.int.inj z
            subst z'
            decide
        · walk_at "go"
          refine ite2 (fun e => ?_) (fun e => ?_)
          · refine ⟨⟨#[46]⟩, 3, rfl, rfl, ⟨by decide, fun _ _ => by decide, fun _ _ => by decide⟩, ?_⟩
            walk_at "go"
            intro p0 hp0
            generalize hP0 : upd H1 p0 _ = G0
            obtain ⟨sm0, hq0⟩ := new_at hp0 hP0
            clear hP0
            walk_at "go"
            intro p1 hp1
            generalize hP1 : upd G0 p1 _ = G1
            obtain ⟨sm1, hq1⟩ := new_at hp1 hP1
            exact q _ _ (.ls hq1 (nr p1 (sm0.free hp1))) (fun _ z => nomatch z) (k1.same (sm0.trans sm1))
          · intro p0 hp0
            generalize hP0 : upd H1 p0 _ = G0
            obtain ⟨sm0, hq0⟩ := new_at hp0 hP0
            clear hP0
            walk_at "go"
            intro p1 hp1
            generalize hP1 : upd G0 p1 _ = G1
            obtain ⟨sm1, hq1⟩ := new_at hp1 hP1
            refine ⟨sm1 _ _ hq0, [((Sum.inr "tick" : Key), V.ref p1)], rfl, Nat.le_of_ble_eq_true rfl, ?_⟩
            exact q _ _ (.dk upd_same (nr p0 hp0)) (fun _ z => nomatch z) (k1.same (same_mut (sm0.trans sm1) hp0))
end

end K02

set_option Elab.async false
set_option linter.all false
set_option maxRecDepth 100000
set_option maxHeartbeats 4000000
namespace K02
open PySem PySem.Spec PyProof.Rows L2 He Gw
local macro_rules | `(tactic| walk_at "side") => `(tactic| (first | (with_reducible assumption) | ((with_reducible show _ ≤ sizeLine); exact sz_b rfl) | (show (_ : Int) < (_ : Int); first | decide | omega) | (show (0 : Int) < _; first | decide | omega) | exact ⟨by decide, by decide⟩ | exact ⟨by decide, by decide, by decide⟩ | exact ⟨by omega, by omega⟩ | exact .inl ⟨by omega, by omega⟩ | exact .inr ⟨by omega, by omega⟩))
local macro_rules | `(tactic| walk_at "isi") => `(tactic| (first
  | (refine ei_int (by assumption) ?_)
  | (refine ei_bool (by assumption) ?_)
  | (refine ei_str (by assumption) ?_)
  | (refine ei_tuple (by assumption) ?_)
  | (refine ei_list (by assumption) ?_)
  | (refine ei_dict (by assumption) ?_)))
local macro_rules | `(tactic| walk_at "g1") => `(tactic| (first
  | ((with_reducible refine And.intro ?c ?r); (case c => walk_at "side"))
  | refine ⟨_, rfl, ?_⟩
  | (refine ⟨_, ?xs, rfl, .inl (SqL.of ?h), ?r⟩; (case h => with_reducible assumption))
  | (refine ⟨_, ?xs, rfl, .inr (SqT.of ?h), ?r⟩; (case h => with_reducible assumption))
  | (refine ⟨_, ?xs, _, ?v, rfl, rfl, SqL.of ?h, ?e, ?r⟩; (case h => with_reducible assumption); (case e => first | exact rfl | (with_reducible assumption)))
  | (refine ⟨_, ?xs, _, ?j, rfl, rfl, ?h, ?e, ?r⟩; (case h => with_reducible assumption); (case e => first | exact rfl | (with_reducible assumption)))
  | refine ⟨_, _, rfl, rfl, ?_⟩
  | refine .inl ⟨_, rfl, ?_⟩
  | refine ⟨rfl, ?_⟩
  | walk_at "isi"
  | refine ⟨_, _, rfl, ?_⟩
  | refine ⟨_, _, _, rfl, ?_⟩
  | (refine And.intro ?c ?r; (case c => walk_at "side"))))
local macro_rules | `(tactic| walk_at "go") => `(tactic| repeat walk_at "g1")
section
variable {P : Program} {w : World} {K : PySem.W.Frag} {mg : Str → Option Value} {base : Heap}
theorem ok_BadGround_init (T : Txt K mg) : FnOk P w K mg base CX0 1 (ma K (ga K "BadGround") "__init__") (fdAt K (ma K (ga K "BadGround") "__init__")) ["self", "part"] (spBadG K) := by
  refine T.d_BadGround_init.F.ok sc_BadGround_init (fun vs H Q E h => ?_) (fun cdv A outer s H vs Q E hr h => ?_)
  · obtain ⟨_, _, _, rfl, _⟩ := h
    rfl
  · obtain ⟨a, C, v, rfl, x, na, e, q⟩ := h
    refine ⟨_, (PSs.nox (pss_one (ps_ost (pv 0) (pv 1)))), ?_⟩
    refine ⟨_, rfl, _, rfl, a, C, rfl, x, na, .inl ⟨e, fun dx h1 h2 => ?_⟩⟩
    exact q dx h1 h2
theorem ok_is_row (T : Txt K mg) : okAt P w K mg base CX0 1 "is_row" ["thing"] spRow := by
  refine T.d_is_row.F.ok sc_is_row (fun vs H Q E h => ?_) (fun cdv A outer s H vs Q E hr h => ?_)
  · obtain ⟨_, rfl, _⟩ := h
    rfl
  · obtain ⟨v, rfl, ⟨W, l⟩, q⟩ := h
    refine ⟨_, (PSs.nox (pss_cons (ps_if (PW.pt (pw_or (pt_not (pt_val (pe_callB call_isi (by rfl) T.b_isinstance (by decide +kernel) (pa_cons (pv 0) (pa_cons (pe_ty "str" T.b_str) pa_nil))))) (pw_or1 (pt_not (pt_chain op_le op_le pe_int (pe_callB call_len_str (by rfl) T.b_len PySem.boot_len (pa_cons (pv 0) pa_nil)) (pe_kint T.k_MOST_SIGNS)))))) (pss_one (ps_ret pe_bl)) pss_nil)
      (pss_one (ps_ret (pe_callB (cr_all rfl) (by rfl) T.b_all (by decide +kernel) (pa_cons (pe_lc (own := [("sign", 1)]) (g := gName 1) (tt := tYes) (by rfl) sc_is_row.nd (pi_str (pv 0)) (blkOk_by (own := [("sign", 1)]) (N := ["thing", "sign"]) (sc := defScope s_is_row) (by decide +kernel)) (fun _ _ _ _ _ => pg_name (i := 1) sc_is_row.nd rfl (Or.inl rfl)) (fun _ _ _ _ _ => pts_nil) (fun _ _ _ _ _ => (pe_cmpR op_in_sign (pv 1) (pe_kstr T.k_SIGNS) (by rfl)))) pa_nil)))))), ?_⟩
    walk_at "go"
    refine ite2 (fun e => ?_) (fun e => ?_)
    · walk_at "go"
      have e2 : rowOk v = false := by cases W <;> first | rfl | cases e
      have q2 := q H (Same.refl H)
      rw [e2] at q2
      exact q2
    · cases W <;> first | exact absurd rfl e | skip
      rename_i z
      have hz : z.length ≤ sizeLine := Nat.le_trans (l z rfl) (by decide)
      have lz : z.cps.toList.length = z.length := by simp [Str.length]
      walk_at "go"
      refine ite2 (fun e1 => ?_) (fun e1 => ?_)
      · have f1 : 1 ≤ z.length := by have := of_decide_eq_true e1; omega
        walk_at "go"
        refine ite2 (fun e2 => ?_) (fun e2 => ?_)
        · walk_at "go"
          have f2 : ¬ z.length ≤ 40 := by
            have := (by simpa using e2 : (40 : Int) < (z.length : Int))
            omega
          have e3 : rowOk (.str z) = false := by
            show (decide _ && (decide _ && allS z)) = false
            rw [decide_eq_false f2, Bool.false_and, Bool.and_false]
          have q2 := q H (Same.refl H)
          rw [e3] at q2
          exact q2
        · have f2 : z.length ≤ 40 := by
            have := (by simpa using e2 : (z.length : Int) ≤ 40)
            omega
          walk_at "go"
          intro D hD
          refine lc_str (fun i G => Same H G ∧ G D = some (.lst (((z.cps.toList.take i).map sgB).map V.bl))) ⟨Same.new hD, upd_same⟩ (fun i c G hc p => ?_) (fun G p => ?_)
          · obtain ⟨sm, hd⟩ := p
            walk_at "go"
            refine ⟨_, hd, ?_, same_mut sm hD, ?_⟩
            · rw [List.length_map, List.length_map, List.length_take]
              exact Nat.lt_of_le_of_lt (Nat.le_trans (Nat.min_le_right _ _) (Nat.le_trans (Nat.le_of_eq lz) f2)) (by decide)
            · rw [upd_same, take_one hc, List.map_append, List.map_append, sg1]; rfl
          · obtain ⟨sm, hd⟩ := p
            walk_at "go"
            rw [List.take_length] at hd
            refine ⟨D, _, rfl, SqL.of hd, ?_⟩
            have e3 : rowOk (.str z) = ((z.cps.toList.map sgB).all id) := by
              show (decide _ && (decide _ && allS z)) = _
              rw [decide_eq_true f1, decide_eq_true f2, Bool.true_and, Bool.true_and, List.all_map]; rfl
            have q2 := q G sm
            rw [e3] at q2
            exact q2
      · walk_at "go"
        have f1 : ¬ 1 ≤ z.length := by have := of_decide_eq_false (Bool.eq_false_iff.mpr e1); omega
        have e3 : rowOk (.str z) = false := by
          show (decide _ && (decide _ && allS z)) = false
          rw [decide_eq_false f1, Bool.false_and]
        have q2 := q H (Same.refl H)
        rw [e3] at q2
        refine ite2 (fun _ => q2) (fun e5 => absurd rfl e5)
end

end K02

set_option Elab.async false
set_option linter.all false
set_option maxRecDepth 100000
set_option maxHeartbeats 4000000
namespace K02
open PySem PySem.Spec PyProof.Rows L2 He Gw
local macro_rules | `(tactic| walk_at "side") => `(tactic| (first | (with_reducible assumption) | ((with_reducible show _ ≤ sizeLine); exact sz_b rfl) | (show (_ : Int) < (_ : Int); first | decide | omega) | (show (0 : Int) < _; first | decide | omega) | exact ⟨by decide, by decide⟩ | exact ⟨by decide, by decide, by decide⟩ | exact ⟨by omega, by omega⟩ | exact .inl ⟨by omega, by omega⟩ | exact .inr ⟨by omega, by omega⟩))
local macro_rules | `(tactic| walk_at "isi") => `(tactic| (first
  | (refine ei_int (by assumption) ?_)
  | (refine ei_bool (by assumption) ?_)
  | (refine ei_str (by assumption) ?_)
  | (refine ei_tuple (by assumption) ?_)
  | (refine ei_list (by assumption) ?_)
  | (refine ei_dict (by assumption) ?_)))
local macro_rules | `(tactic| walk_at "g1") => `(tactic| (first
  | ((with_reducible refine And.intro ?c ?r); (case c => walk_at "side"))
  | refine ⟨_, rfl, ?_⟩
  | (refine ⟨_, ?xs, rfl, .inl (SqL.of ?h), ?r⟩; (case h => with_reducible assumption))
  | (refine ⟨_, ?xs, rfl, .inr (SqT.of ?h), ?r⟩; (case h => with_reducible assumption))
  | (refine ⟨_, ?xs, _, ?v, rfl, rfl, SqL.of ?h, ?e, ?r⟩; (case h => with_reducible assumption); (case e => first | exact rfl | (with_reducible assumption)))
  | (refine ⟨_, ?xs, _, ?j, rfl, rfl, ?h, ?e, ?r⟩; (case h => with_reducible assumption); (case e => first | exact rfl | (with_reducible assumption)))
  | refine ⟨_, _, rfl, rfl, ?_⟩
  | refine .inl ⟨_, rfl, ?_⟩
  | refine ⟨rfl, ?_⟩
  | walk_at "isi"
  | refine ⟨_, _, rfl, ?_⟩
  | refine ⟨_, _, _, rfl, ?_⟩
  | (refine And.intro ?c ?r; (case c => walk_at "side"))))
local macro_rules | `(tactic| walk_at "go") => `(tactic| repeat walk_at "g1")
section
variable {P : Program} {w : World} {K : PySem.W.Frag} {mg : Str → Option Value} {base : Heap}
theorem ok_Ground_init (T : Txt K mg) : FnOk P w K mg base (L2.CX P w) 3 (ma K (ga K "Ground") "__init__") (fdAt K (ma K (ga K "Ground") "__init__")) ["self", "rows"] (spGI K) := by
  have G_is_row : okAt P w K mg base CX0 1 "is_row" ["thing"] spRow := ok_is_row T
  refine T.d_Ground_init.F.ok sc_Ground_init (fun vs H Q E h => ?_) (fun cdv A outer s H vs Q E hr h => ?_)
  · obtain ⟨_, _, _, _, rfl, _⟩ := h
    rfl
  · obtain ⟨p, dx, h, v, rfl, hp, t, q, hE⟩ := h
    refine ⟨_, (pss_cons (ps_if (PW.pt (pw_or (pt_not (pt_val (pe_callB call_isi (by rfl) T.b_isinstance (by decide +kernel) (pa_cons (pv 1) (pa_cons (pe_ty "tuple" T.b_tuple) pa_nil))))) (pw_or1 (pt_not (pt_chain op_le op_le pe_int (pe_callB call_len_seq (by rfl) T.b_len PySem.boot_len (pa_cons (pv 1) pa_nil)) (pe_kint T.k_MOST_ROWS)))))) (pss_one (ps_raise rfl (takes_of rfl rfl rfl rfl) (pmk_oex T.x_BadGround T.i_BadGround.1 T.i_BadGround.2 (ok_BadGround_init T) (hr.mono (by decide)) T.d_BadGround_init.b .nil pass0 (by rfl) T.g_BadGround (pa_cons (pe_un un_neg pe_int) pa_nil)))) pss_nil)
      (pss_cons (ps_for (passes_of rfl) rfl (pi_enumT (by rfl) T.b_enumerate (pa_cons (pv 1) pa_nil)) (pg_tup (by rfl) (pgs_cons (pg_name (i := 2) sc_Ground_init.nd rfl (.inl rfl)) (pgs_cons (pg_name (i := 3) sc_Ground_init.nd rfl (.inl rfl)) pgs_nil))) (pss_one (ps_if (PW.pt (pw_or (pt_not (pt_val (pc T.d_is_row G_is_row (hr.mono (by decide)) (pa_cons (pv 3) pa_nil)))) (pw_or1 (pt_cmpR op_ne (pe_callB call_len_str (by rfl) T.b_len PySem.boot_len (pa_cons (pv 3) pa_nil)) (pe_callB call_len_str (by rfl) T.b_len PySem.boot_len (pa_cons (pe_ix ix_tup (pv 1) pe_int (fun _ _ => rfl)) pa_nil)) (nomark _))))) (pss_one (ps_raise rfl (takes_of rfl rfl rfl rfl) (pmk_oex T.x_BadGround T.i_BadGround.1 T.i_BadGround.2 (ok_BadGround_init T) (hr.mono (by decide)) T.d_BadGround_init.b .nil pass0 (by rfl) T.g_BadGround (pa_cons (pv 2) pa_nil)))) pss_nil)))
      (pss_cons (ps_fld (pv 0) (pv 1) rfl)
      (pss_cons (ps_fld (pv 0) (pe_op op_mul (pe_kint T.k_SIGN_UNITS) (pe_callB call_len_str (by rfl) T.b_len PySem.boot_len (pa_cons (pe_ix ix_tup (pv 1) pe_int (fun _ _ => rfl)) pa_nil))) rfl)
      (pss_one (ps_fld (pv 0) (pe_op op_mul (pe_kint T.k_SIGN_UNITS) (pe_callB call_len_seq (by rfl) T.b_len PySem.boot_len (pa_cons (pv 1) pa_nil))) rfl)))))), ?_⟩
    have W := t.nc.1
    walk_at "go"
    refine ite2 (fun e => ?_) (fun e => ?_)
    · have hb : badOf H v = some (-1) := badOf_not (by simpa using e)
      walk_at "go"
      refine raiseBG T.x_BadGround T.n_BadGround_part (fun d hd => ?_)
      exact hE _ hb d _ (But.same (Same.new hd)) upd_same
    · obtain ⟨a, xs, rfl, ha⟩ := isT_ex (by simpa using e)
      have lx := t.its a xs rfl ha
      have hb := badOf_tup ha
      walk_at "go"
      refine ite2 (fun e1 => ?_) (fun e1 => ?_)
      · have f1 : 1 ≤ xs.length := by have := of_decide_eq_true e1; omega
        walk_at "go"
        refine ite2 (fun e2 => ?_) (fun e2 => ?_)
        · walk_at "go"
          have f2 : ¬ xs.length ≤ 30 := by
            have := (by simpa using e2 : (30 : Int) < (xs.length : Int))
            omega
          rw [badL_len (fun z => f2 z.2)] at hb
          refine raiseBG T.x_BadGround T.n_BadGround_part (fun d hd => ?_)
          exact hE _ hb d _ (But.same (Same.new hd)) upd_same
        · have f2 : xs.length ≤ 30 := by
            have := (by simpa using e2 : (xs.length : Int) ≤ 30)
            omega
          have h0 : 0 < xs.length := f1
          obtain ⟨x0, hx0⟩ : ∃ x0, xs[0]? = some x0 := ⟨_, List.getElem?_eq_getElem h0⟩
          have w0 : wid xs = slen x0 := by
            cases xs with
            | nil => cases hx0
            | cons y ys =>
              have hy : y = x0 := Option.some.inj hx0
              subst hy
              rfl
          have at0 : atI xs 0 = some x0 := atI_nat (j := 0) hx0
          walk_at "go"
          refine ⟨a, xs, rfl, SqT.of ha, ?_⟩
          refine for_enumT (fun i σ' G => ∃ o2 o3, σ' = [some (.ref p), some (.ref a), o2, o3] ∧ Same H G ∧ Pre xs i) ⟨_, _, rfl, Same.refl H, Pre.zero⟩ (fun i σ' G z => ?_) (fun i x u σ' G hx z hu => ?_) (fun σ' G z => ?_)
          · obtain ⟨o2, o3, rfl, sm, pr⟩ := z
            exact SqT.of (sm _ _ ha)
          · obtain ⟨o2, o3, rfl, sm, pr⟩ := z
            refine ⟨u, [.int (i : Nat), x], rfl, SqT.of upd_same, rfl, .int (i : Nat), [x], rfl, x, [], rfl, rfl, ?_⟩
            generalize eG : upd G u _ = G1
            obtain ⟨s1, t1⟩ := new_at hu eG
            have sG := sm.trans s1
            have nx := (lx.2 x (List.mem_of_getElem? hx)).1.same sG
            walk_at "go"
            intro G2 s2
            have sG2 := sG.trans s2
            walk_at "go"
            refine ite2 (fun e3 => ?_) (fun e3 => ?_)
            · walk_at "go"
              have hr0 : rowB (wid xs) x = false := by
                unfold rowB
                rw [show rowOk x = false by simpa using e3, Bool.false_and]
              refine raiseBG T.x_BadGround T.n_BadGround_part (fun d hd => ?_)
              exact hE _ (hb.trans (badL_at f1 f2 pr hx hr0)) d _ (But.same (sG2.trans (Same.new hd))) upd_same
            · have hr1 : rowOk x = true := by simpa using e3
              obtain ⟨z, rfl, z1, z2, z3⟩ := rowOk_str hr1
              obtain ⟨z0, rfl, hz0⟩ : ∃ z0, x0 = .str z0 ∧ z0.length ≤ sizeLine := by
                by_cases hi : i = 0
                · subst hi
                  rw [hx0] at hx
                  cases hx
                  exact ⟨z, rfl, Nat.le_trans z2 (by decide)⟩
                · obtain ⟨y, hy, _, y2, _⟩ := rowB_str (pr 0 x0 (by omega) hx0)
                  exact ⟨y, hy, Nat.le_trans y2 (by decide)⟩
              have hz : z.length ≤ sizeLine := Nat.le_trans z2 (by decide)
              have ha2 := sG2 _ _ ha
              walk_at "go"
              refine ⟨a, xs, 0, _, rfl, rfl, SqT.of ha2, at0, ?_⟩
              walk_at "go"
              refine ite2 (fun e4 => ?_) (fun e4 => ?_)
              · have hr0 : rowB (wid xs) (.str z) = false := by
                  unfold rowB
                  rw [w0]
                  have : ¬ z.length = z0.length := fun q => by
                    rw [q] at e4
                    simp at e4
                  rw [show decide (slen (.str z) = slen (.str z0)) = false from decide_eq_false this, Bool.and_false]
                walk_at "go"
                refine raiseBG T.x_BadGround T.n_BadGround_part (fun d hd => ?_)
                exact hE _ (hb.trans (badL_at f1 f2 pr hx hr0)) d _ (But.same (sG2.trans (Same.new hd))) upd_same
              · have hr2 : rowB (wid xs) (.str z) = true := by
                  unfold rowB
                  rw [w0, hr1]
                  have : z.length = z0.length := by
                    have q := (by simpa using e4 : (z.length : Int) = (z0.length : Int))
                    omega
                  rw [show decide (slen (.str z) = slen (.str z0)) = true from decide_eq_true this, Bool.and_true]
                exact ⟨_, _, rfl, sG2, pr.succ hx hr2⟩
          · obtain ⟨o2, o3, rfl, sm, pr⟩ := z
            walk_at "go"
            refine ⟨p, _, dx, _, rfl, sm _ _ hp, T.c_Ground.cl, T.n_Ground_rows, (show (0 : Nat) < 1000 by decide), ?_⟩
            generalize eG : upd G p _ = G1
            obtain ⟨b1, p1⟩ := put_at eG (But.same sm)
            clear eG
            have nap : a ≠ p := fun z => by rw [z, hp] at ha; cases ha
            have ha1 := b1 _ _ nap ha
            obtain ⟨z0, rfl, y1, y2, _⟩ := rowB_str (pr 0 x0 h0 hx0)
            have hz : z0.length ≤ sizeLine := Nat.le_trans y2 (by decide)
            walk_at "go"
            refine ⟨a, xs, 0, _, rfl, rfl, SqT.of ha1, at0, ?_⟩
            walk_at "go"
            refine ⟨p, _, dx, _, rfl, p1, T.c_Ground.cl, T.n_Ground_wide, (show (1 : Nat) < 1000 by decide), ?_⟩
            generalize eG2 : upd G1 p _ = G2
            obtain ⟨b2, p2⟩ := put_at eG2 b1
            clear eG2
            have ha2 := b2 _ _ nap ha
            walk_at "go"
            refine ⟨p, _, dx, _, rfl, p2, T.c_Ground.cl, T.n_Ground_high, (show (2 : Nat) < 1000 by decide), ?_⟩
            generalize eG3 : upd G2 p _ = G3
            obtain ⟨b3, p3⟩ := put_at eG3 b2
            clear eG3
            have ha3 := b3 _ _ nap ha
            obtain ⟨hn, hg⟩ := badL_none f1 f2 pr
            refine q (hb.trans hn) a xs rfl ha G3 b3 ⟨ha3, hg, dx, _, p3, rfl, ?_, rfl⟩
            rw [w0]
            rfl
      · have f1 : ¬ 1 ≤ xs.length := by have := of_decide_eq_false (Bool.eq_false_iff.mpr e1); omega
        rw [badL_len (fun z => f1 z.1)] at hb
        walk_at "go"
        refine raiseBG T.x_BadGround T.n_BadGround_part (fun d hd => ?_)
        exact hE _ hb d _ (But.same (Same.new hd)) upd_same
end

end K02

set_option Elab.async false
set_option linter.all false
set_option maxRecDepth 100000
set_option maxHeartbeats 4000000
namespace K02
open PySem PySem.Spec PyProof.Rows L2 He Gw
local macro_rules | `(tactic| walk_at "side") => `(tactic| (first | (with_reducible assumption) | ((with_reducible show _ ≤ sizeLine); exact sz_b rfl) | (show (_ : Int) < (_ : Int); first | decide | omega) | (show (0 : Int) < _; first | decide | omega) | exact ⟨by decide, by decide⟩ | exact ⟨by decide, by decide, by decide⟩ | exact ⟨by omega, by omega⟩ | exact .inl ⟨by omega, by omega⟩ | exact .inr ⟨by omega, by omega⟩))
local macro_rules | `(tactic| walk_at "isi") => `(tactic| (first
  | (refine ei_int (by assumption) ?_)
  | (refine ei_bool (by assumption) ?_)
  | (refine ei_str (by assumption) ?_)
  | (refine ei_tuple (by assumption) ?_)
  | (refine ei_list (by assumption) ?_)
  | (refine ei_dict (by assumption) ?_)))
local macro_rules | `(tactic| walk_at "g1") => `(tactic| (first
  | ((with_reducible refine And.intro ?c ?r); (case c => walk_at "side"))
  | refine ⟨_, rfl, ?_⟩
  | (refine ⟨_, ?xs, rfl, .inl (SqL.of ?h), ?r⟩; (case h => with_reducible assumption))
  | (refine ⟨_, ?xs, rfl, .inr (SqT.of ?h), ?r⟩; (case h => with_reducible assumption))
  | (refine ⟨_, ?xs, _, ?v, rfl, rfl, SqL.of ?h, ?e, ?r⟩; (case h => with_reducible assumption); (case e => first | exact rfl | (with_reducible assumption)))
  | (refine ⟨_, ?xs, _, ?j, rfl, rfl, ?h, ?e, ?r⟩; (case h => with_reducible assumption); (case e => first | exact rfl | (with_reducible assumption)))
  | refine ⟨_, _, rfl, rfl, ?_⟩
  | refine .inl ⟨_, rfl, ?_⟩
  | refine ⟨rfl, ?_⟩
  | walk_at "isi"
  | refine ⟨_, _, rfl, ?_⟩
  | refine ⟨_, _, _, rfl, ?_⟩
  | (refine And.intro ?c ?r; (case c => walk_at "side"))))
local macro_rules | `(tactic| walk_at "go") => `(tactic| repeat walk_at "g1")
section
variable {P : Program} {w : World} {K : PySem.W.Frag} {mg : Str → Option Value} {base : Heap}
theorem ok_Ground_eq (T : Txt K mg) : FnOk P w K mg base CX0 1 (ma K (ga K "Ground") "__eq__") (fdAt K (ma K (ga K "Ground") "__eq__")) ["self", "other"] (spGEq K) := by
  refine T.d_Ground_eq.F.ok sc_Ground_eq (fun vs H Q E h => ?_) (fun cdv A outer s H vs Q E hr h => ?_)
  · obtain ⟨_, _, _, _, _, _, rfl, _⟩ := h
    rfl
  · obtain ⟨p, q, a, b, xs, ys, rfl, gp, gq, qq⟩ := h
    refine ⟨_, (PSs.nox (pss_one (ps_ret (pe_and (pe_callB call_isi (by rfl) T.b_isinstance (by decide +kernel) (pa_cons (pv 1) (pa_cons (pe_gref T.g_Ground) pa_nil))) (pe_one (pe_cmpR (op_eqD hr.units) (pe_fld (pv 0) rfl) (pe_fld (pv 1) rfl) (nomark _))))))), ?_⟩
    obtain ⟨ha, gx, dx, fs, hp, l1, l2, l3⟩ := gp
    obtain ⟨hb, gy, dy, gs, hq, m1, m2, m3⟩ := gq
    walk_at "go"
    refine ei_ins hq T.c_Ground.cl T.o_Ground ?_
    walk_at "go"
    refine ⟨p, _, dx, fs, _, rfl, hp, T.c_Ground.cl, T.n_Ground_rows, l1, ?_⟩
    walk_at "go"
    refine ⟨q, _, dy, gs, _, rfl, hq, T.c_Ground.cl, T.n_Ground_rows, m1, ?_⟩
    exact eqD_good gx gy ha hb qq
theorem ok_sign_at (T : Txt K mg) : okAt P w K mg base (L2.CX P w) 3 "sign_at" ["ground", "x", "y"] (spSA K) := by
  have G_is_plain_integer : okAt P w K mg base CX0 1 "is_plain_integer" ["thing"] spPlain := ok_is_plain_integer T
  refine T.d_sign_at.F.ok sc_sign_at (fun vs H Q E h => ?_) (fun cdv A outer s H vs Q E hr h => ?_)
  · obtain ⟨_, _, _, _, _, rfl, _⟩ := h
    rfl
  · obtain ⟨p, a, xs, v, u, rfl, g, W, Wu, q, hE⟩ := h
    refine ⟨_, (pss_cons (ps_if (PW.pt (pw_or (pt_not (pt_val (pc T.d_is_plain_integer G_is_plain_integer (hr.mono (by decide)) (pa_cons (pv 1) pa_nil)))) (pw_or1 (pt_not (pt_val (pc T.d_is_plain_integer G_is_plain_integer (hr.mono (by decide)) (pa_cons (pv 2) pa_nil))))))) (pss_one (ps_raise rfl (takes_of rfl rfl rfl rfl) (pmk_oex0 T.x_NoNumber T.i_NoNumber (ok_WorldError_init T) (hr.mono (by decide)) T.d_WorldError_init.b pass0 T.g_NoNumber))) pss_nil)
      (pss_cons (ps_if (PW.pt (pw_and (pt_chain op_le op_lt pe_int (pv 1) (pe_fld (pv 0) rfl)) (pw_and1 (pt_chain op_le op_lt pe_int (pv 2) (pe_fld (pv 0) rfl))))) (pss_one (ps_ret (pe_ix ix_str (pe_ix ix_tup (pe_fld (pv 0) rfl) (pe_op op_fdivW (pv 2) (pe_kint T.k_SIGN_UNITS)) (fun _ _ => rfl)) (pe_op op_fdivW (pv 1) (pe_kint T.k_SIGN_UNITS)) (fun _ _ => rfl)))) pss_nil)
      (pss_one (ps_ret (pe_kstr T.k_WALL))))), ?_⟩
    obtain ⟨ha, gx, dx, fs, hp, l1, l2, l3⟩ := g
    walk_at "go"
    refine ite2 (fun e => ?_) (fun e => ?_)
    · refine raise0 (σ := []) T.x_NoNumber ?_
      exact hE (by rw [show isI v = false by simpa using e]; rfl)
    · walk_at "go"
      refine ite2 (fun e1 => ?_) (fun e1 => ?_)
      · refine raise0 (σ := []) T.x_NoNumber ?_
        exact hE (by rw [show isI u = false by simpa using e1, Bool.and_false])
      · cases W <;> first | exact absurd rfl e | skip
        cases Wu <;> first | exact absurd rfl e1 | skip
        rename_i x y
        have qq := q x y rfl rfl
        walk_at "go"
        have o1 : ∀ z : V, z = .str ⟨#[35]⟩ → ¬ (0 ≤ x / 8 ∧ x / 8 < (wid xs : Nat) ∧ 0 ≤ y / 8 ∧ y / 8 < (xs.length : Nat)) → Q z H := fun z ez no => by
          rw [ez]
          rw [gs_out no] at qq
          exact qq
        refine ite2 (fun e2 => ?_) (fun e2 => ?_)
        · have x0 : 0 ≤ x := of_decide_eq_true e2
          walk_at "go"
          refine ⟨p, _, dx, fs, _, rfl, hp, T.c_Ground.cl, T.n_Ground_wide, l2, ?_⟩
          walk_at "go"
          refine ite2 (fun e3 => ?_) (fun e3 => ?_)
          · have x1 : x < 8 * (wid xs : Nat) := of_decide_eq_true e3
            walk_at "go"
            refine ite2 (fun e4 => ?_) (fun e4 => ?_)
            · have y0 : 0 ≤ y := of_decide_eq_true e4
              walk_at "go"
              refine ⟨p, _, dx, fs, _, rfl, hp, T.c_Ground.cl, T.n_Ground_high, l3, ?_⟩
              walk_at "go"
              refine ite2 (fun e5 => ?_) (fun e5 => ?_)
              · have y1 : y < 8 * (xs.length : Nat) := of_decide_eq_true e5
                obtain ⟨z, hz1, hz2, hz3⟩ := gs_in gx (p := x / 8) (r := y / 8) (by omega) (by omega) (by omega) (by omega)
                have hz4 : z.length ≤ sizeLine := Nat.le_trans hz2 (by decide)
                walk_at "go"
                refine ⟨p, _, dx, fs, _, rfl, hp, T.c_Ground.cl, T.n_Ground_rows, l1, ?_⟩
                walk_at "go"
                refine ⟨a, xs, y / 8, _, rfl, rfl, SqT.of ha, hz1, ?_⟩
                walk_at "go"
                refine ⟨z, x / 8, _, rfl, rfl, hz4, hz3, ?_⟩
                exact qq
              · have y1 : ¬ y < 8 * (xs.length : Nat) := of_decide_eq_false (Bool.eq_false_iff.mpr e5)
                walk_at "go"
                refine o1 _ rfl (by omega)
            · have y0 : ¬ 0 ≤ y := of_decide_eq_false (Bool.eq_false_iff.mpr e4)
              walk_at "go"
              refine o1 _ rfl (by omega)
          · have x1 : ¬ x < 8 * (wid xs : Nat) := of_decide_eq_false (Bool.eq_false_iff.mpr e3)
            walk_at "go"
            refine o1 _ rfl (by omega)
        · have x0 : ¬ 0 ≤ x := of_decide_eq_false (Bool.eq_false_iff.mpr e2)
          walk_at "go"
          refine o1 _ rfl (by omega)
theorem ok_sign_at0 (T : Txt K mg) : okAt P w K mg base CX0 3 "sign_at" ["ground", "x", "y"] (spSA0 K) := noraise (ok_sign_at T) fun vs H Q E h => by
  obtain ⟨p, a, xs, x, y, rfl, g, q⟩ := h
  exact ⟨p, a, xs, .int x, .int y, rfl, g, .int x, .int y, fun x' y' h1 h2 => by cases h1; cases h2; exact q, fun z => nomatch z⟩
end

end K02

set_option Elab.async false
set_option linter.all false
set_option maxRecDepth 100000
set_option maxHeartbeats 4000000
namespace K02
open PySem PySem.Spec PyProof.Rows L2 He Gw
local macro_rules | `(tactic| walk_at "side") => `(tactic| (first | (with_reducible assumption) | ((with_reducible show _ ≤ sizeLine); exact sz_b rfl) | (show (_ : Int) < (_ : Int); first | decide | omega) | (show (0 : Int) < _; first | decide | omega) | exact ⟨by decide, by decide⟩ | exact ⟨by decide, by decide, by decide⟩ | exact ⟨by omega, by omega⟩ | exact .inl ⟨by omega, by omega⟩ | exact .inr ⟨by omega, by omega⟩))
local macro_rules | `(tactic| walk_at "isi") => `(tactic| (first
  | (refine ei_int (by assumption) ?_)
  | (refine ei_bool (by assumption) ?_)
  | (refine ei_str (by assumption) ?_)
  | (refine ei_tuple (by assumption) ?_)
  | (refine ei_list (by assumption) ?_)
  | (refine ei_dict (by assumption) ?_)))
local macro_rules | `(tactic| walk_at "g1") => `(tactic| (first
  | ((with_reducible refine And.intro ?c ?r); (case c => walk_at "side"))
  | refine ⟨_, rfl, ?_⟩
  | (refine ⟨_, ?xs, rfl, .inl (SqL.of ?h), ?r⟩; (case h => with_reducible assumption))
  | (refine ⟨_, ?xs, rfl, .inr (SqT.of ?h), ?r⟩; (case h => with_reducible assumption))
  | (refine ⟨_, ?xs, _, ?v, rfl, rfl, SqL.of ?h, ?e, ?r⟩; (case h => with_reducible assumption); (case e => first | exact rfl | (with_reducible assumption)))
  | (refine ⟨_, ?xs, _, ?j, rfl, rfl, ?h, ?e, ?r⟩; (case h => with_reducible assumption); (case e => first | exact rfl | (with_reducible assumption)))
  | refine ⟨_, _, rfl, rfl, ?_⟩
  | refine .inl ⟨_, rfl, ?_⟩
  | refine ⟨rfl, ?_⟩
  | walk_at "isi"
  | refine ⟨_, _, rfl, ?_⟩
  | refine ⟨_, _, _, rfl, ?_⟩
  | (refine And.intro ?c ?r; (case c => walk_at "side"))))
local macro_rules | `(tactic| walk_at "go") => `(tactic| repeat walk_at "g1")
section
variable {P : Program} {w : World} {K : PySem.W.Frag} {mg : Str → Option Value} {base : Heap}
theorem ok_is_open (T : Txt K mg) : okAt P w K mg base (L2.CX P w) 4 "is_open" ["ground", "x", "y", "wide", "high"] (spIO K) := by
  have G_sign_at : okAt P w K mg base CX0 3 "sign_at" ["ground", "x", "y"] (spSA0 K) := ok_sign_at0 T
  have G_is_between : okAt P w K mg base CX0 2 "is_between" ["least", "most", "thing"] spBetween := ok_is_between T
  have G_is_plain_integer : okAt P w K mg base CX0 1 "is_plain_integer" ["thing"] spPlain := ok_is_plain_integer T
  refine T.d_is_open.F.ok sc_is_open (fun vs H Q E h => ?_) (fun cdv A outer s H vs Q E hr h => ?_)
  · obtain ⟨_, _, _, _, _, _, _, rfl, _⟩ := h
    rfl
  · obtain ⟨p, a, xs, v, u, w1, h1, rfl, g, Wv, Wu, Ww, Wh, q, hE⟩ := h
    refine ⟨_, (pss_cons (ps_if (PW.pt (pw_or (pt_not (pt_val (pc T.d_is_plain_integer G_is_plain_integer (hr.mono (by decide)) (pa_cons (pv 1) pa_nil)))) (pw_or1 (pt_not (pt_val (pc T.d_is_plain_integer G_is_plain_integer (hr.mono (by decide)) (pa_cons (pv 2) pa_nil))))))) (pss_one (ps_raise rfl (takes_of rfl rfl rfl rfl) (pmk_oex0 T.x_NoNumber T.i_NoNumber (ok_WorldError_init T) (hr.mono (by decide)) T.d_WorldError_init.b pass0 T.g_NoNumber))) pss_nil)
      (pss_cons (ps_if (PW.pt (pw_or (pt_not (pt_val (pc T.d_is_between G_is_between (hr.mono (by decide)) (pa_cons pe_int (pa_cons (pe_kint T.k_MOST_STRETCH) (pa_cons (pv 3) pa_nil)))))) (pw_or1 (pt_not (pt_val (pc T.d_is_between G_is_between (hr.mono (by decide)) (pa_cons pe_int (pa_cons (pe_kint T.k_MOST_STRETCH) (pa_cons (pv 4) pa_nil))))))))) (pss_one (ps_raise rfl (takes_of rfl rfl rfl rfl) (pmk_oex0 T.x_NoNumber T.i_NoNumber (ok_WorldError_init T) (hr.mono (by decide)) T.d_WorldError_init.b pass0 T.g_NoNumber))) pss_nil)
      (pss_cons (ps_for (passes_of rfl) rfl (pi_range2W (by rfl) T.b_range (pa_cons (pe_op op_fdivW (pv 2) (pe_kint T.k_SIGN_UNITS)) (pa_cons (pe_op op_add (pe_op op_fdivW (pe_op op_sub (pe_op op_add (pv 2) (pv 4)) pe_int) (pe_kint T.k_SIGN_UNITS)) pe_int) pa_nil))) (pg_name (i := 5) sc_is_open.nd rfl (.inl rfl)) (pss_one (ps_for (passes_of rfl) rfl (pi_range2W (by rfl) T.b_range (pa_cons (pe_op op_fdivW (pv 1) (pe_kint T.k_SIGN_UNITS)) (pa_cons (pe_op op_add (pe_op op_fdivW (pe_op op_sub (pe_op op_add (pv 1) (pv 3)) pe_int) (pe_kint T.k_SIGN_UNITS)) pe_int) pa_nil))) (pg_name (i := 6) sc_is_open.nd rfl (.inl rfl)) (pss_one (ps_if (pt_cmpR op_eq (pc T.d_sign_at G_sign_at (hr.mono (by decide)) (pa_cons (pv 0) (pa_cons (pe_op op_mul (pv 6) (pe_kint T.k_SIGN_UNITS)) (pa_cons (pe_op op_mul (pv 5) (pe_kint T.k_SIGN_UNITS)) pa_nil)))) (pe_kstr T.k_WALL) (nomark _)) (pss_one (ps_ret pe_bl)) pss_nil)))))
      (pss_one (ps_ret pe_bl))))), ?_⟩
    walk_at "go"
    refine ite2 (fun e => ?_) (fun e => ?_)
    · refine raise0 (σ := []) T.x_NoNumber ?_
      exact hE (by rw [show isI v = false by simpa using e]; rfl)
    · walk_at "go"
      refine ite2 (fun e1 => ?_) (fun e1 => ?_)
      · refine raise0 (σ := []) T.x_NoNumber ?_
        exact hE (by rw [show isI u = false by simpa using e1, Bool.and_false]; rfl)
      · walk_at "go"
        refine ite2 (fun e2 => ?_) (fun e2 => ?_)
        · refine raise0 (σ := []) T.x_NoNumber ?_
          exact hE (by rw [show stre w1 = false from (by simpa using e2 : btw 1 32 w1 = false), Bool.false_and, Bool.and_false])
        · walk_at "go"
          refine ite2 (fun e3 => ?_) (fun e3 => ?_)
          · refine raise0 (σ := []) T.x_NoNumber ?_
            exact hE (by rw [show stre h1 = false from (by simpa using e3 : btw 1 32 h1 = false), Bool.and_false, Bool.and_false])
          · obtain ⟨m, rfl, m1, m2⟩ := btw_int (by simpa using e2)
            obtain ⟨n, rfl, n1, n2⟩ := btw_int (by simpa using e3)
            cases Wv <;> first | exact absurd rfl e | skip
            cases Wu <;> first | exact absurd rfl e1 | skip
            rename_i x y
            have qq := q x y m n rfl rfl rfl rfl m1 m2 n1 n2
            walk_at "go"
            refine for_range (lo := y / 8) (n := ((y + n - 1) / 8 + 1 - y / 8).toNat) (fun i σ' G => G = H ∧ (∃ o5 o6, σ' = [some (.ref p), some (.int x), some (.int y), some (.int m), some (.int n), o5, o6]) ∧ ∀ c r : Int, y / 8 ≤ r → r < y / 8 + (i : Nat) → x / 8 ≤ c → c < (x + m - 1) / 8 + 1 → gs xs c r ≠ 35) ⟨rfl, ⟨_, _, rfl⟩, fun c r _ _ _ _ => by omega⟩ (fun i σ' G hi z => ?_) (fun σ' G z => ?_)
            · obtain ⟨rfl, ⟨o5, o6, rfl⟩, hall⟩ := z
              walk_at "go"
              refine for_range (lo := x / 8) (n := ((x + m - 1) / 8 + 1 - x / 8).toNat) (fun j σ' G' => G' = G ∧ (∃ o6, σ' = [some (.ref p), some (.int x), some (.int y), some (.int m), some (.int n), some (.int (y / 8 + (i : Nat))), o6]) ∧ ∀ c : Int, x / 8 ≤ c → c < x / 8 + (j : Nat) → gs xs c (y / 8 + (i : Nat)) ≠ 35) ⟨rfl, ⟨_, rfl⟩, fun c _ _ => by omega⟩ (fun j σ' G' hj z => ?_) (fun σ' G' z => ?_)
              · obtain ⟨rfl, ⟨o6, rfl⟩, hrow⟩ := z
                walk_at "go"
                refine ⟨p, a, xs, _, _, rfl, g, ?_⟩
                have ex : (x / 8 + (j : Nat)) * 8 / 8 = x / 8 + (j : Nat) := by omega
                have ey : (y / 8 + (i : Nat)) * 8 / 8 = y / 8 + (i : Nat) := by omega
                rw [ex, ey]
                walk_at "go"
                refine ite2 (fun e5 => ?_) (fun e5 => ?_)
                · have ec := sharp (of_decide_eq_true e5)
                  walk_at "go"
                  refine qq false ⟨(fun z => nomatch z), fun o => ?_⟩
                  exact absurd ec ((open_iff m1 n1).mp o _ _ (by omega) (by omega) (by omega) (by omega))
                · have ec : gs xs (x / 8 + (j : Nat)) (y / 8 + (i : Nat)) ≠ 35 := fun z => e5 (decide_eq_true (by rw [z]; exact sharp'))
                  refine ⟨rfl, ⟨_, rfl⟩, fun c h1 h2 => ?_⟩
                  by_cases hc : c = x / 8 + (j : Nat)
                  · rw [hc]; exact ec
                  · exact hrow c h1 (by omega)
              · obtain ⟨rfl, ⟨o6, rfl⟩, hrow⟩ := z
                refine ⟨rfl, ⟨_, _, rfl⟩, fun c r h1 h2 h3 h4 => ?_⟩
                by_cases hc : r = y / 8 + (i : Nat)
                · rw [hc]; exact hrow c h3 (by omega)
                · exact hall c r h1 (by omega) h3 h4
            · obtain ⟨rfl, ⟨o5, o6, rfl⟩, hall⟩ := z
              walk_at "go"
              refine qq true ⟨fun _ => ?_, fun _ => rfl⟩
              refine (open_iff m1 n1).mpr fun c r h1 h2 h3 h4 => hall c r h3 (by omega) h1 h2
end

end K02

set_option Elab.async false
set_option linter.all false
set_option maxRecDepth 100000
set_option maxHeartbeats 4000000
namespace K02
open PySem PySem.Spec PyProof.Rows L2 He Gw
local macro_rules | `(tactic| walk_at "side") => `(tactic| (first | (with_reducible assumption) | ((with_reducible show _ ≤ sizeLine); exact sz_b rfl) | (show (_ : Int) < (_ : Int); first | decide | omega) | (show (0 : Int) < _; first | decide | omega) | exact ⟨by decide, by decide⟩ | exact ⟨by decide, by decide, by decide⟩ | exact ⟨by omega, by omega⟩ | exact .inl ⟨by omega, by omega⟩ | exact .inr ⟨by omega, by omega⟩))
local macro_rules | `(tactic| walk_at "isi") => `(tactic| (first
  | (refine ei_int (by assumption) ?_)
  | (refine ei_bool (by assumption) ?_)
  | (refine ei_str (by assumption) ?_)
  | (refine ei_tuple (by assumption) ?_)
  | (refine ei_list (by assumption) ?_)
  | (refine ei_dict (by assumption) ?_)))
local macro_rules | `(tactic| walk_at "g1") => `(tactic| (first
  | ((with_reducible refine And.intro ?c ?r); (case c => walk_at "side"))
  | refine ⟨_, rfl, ?_⟩
  | (refine ⟨_, ?xs, rfl, .inl (SqL.of ?h), ?r⟩; (case h => with_reducible assumption))
  | (refine ⟨_, ?xs, rfl, .inr (SqT.of ?h), ?r⟩; (case h => with_reducible assumption))
  | (refine ⟨_, ?xs, _, ?v, rfl, rfl, SqL.of ?h, ?e, ?r⟩; (case h => with_reducible assumption); (case e => first | exact rfl | (with_reducible assumption)))
  | (refine ⟨_, ?xs, _, ?j, rfl, rfl, ?h, ?e, ?r⟩; (case h => with_reducible assumption); (case e => first | exact rfl | (with_reducible assumption)))
  | refine ⟨_, _, rfl, rfl, ?_⟩
  | refine .inl ⟨_, rfl, ?_⟩
  | refine ⟨rfl, ?_⟩
  | walk_at "isi"
  | refine ⟨_, _, rfl, ?_⟩
  | refine ⟨_, _, _, rfl, ?_⟩
  | (refine And.intro ?c ?r; (case c => walk_at "side"))))
local macro_rules | `(tactic| walk_at "go") => `(tactic| repeat walk_at "g1")
section
variable {P : Program} {w : World} {K : PySem.W.Frag} {mg : Str → Option Value} {base : Heap}
theorem ok_l_ground_sign (T : Txt K mg) : okAt P w K mg base CX0 2 "_law_ground_sign" ["_law_hand_here", "_law_full"] spSign := by
  have G_l_take : okAt P w K mg base CX0 1 "_law_take" ["_law_hand_here", "_law_many"] spTake := ok_l_take T
  refine T.d_l_ground_sign.F.ok sc_l_ground_sign (fun vs H Q E h => ?_) (fun cdv A outer s H vs Q E hr h => ?_)
  · obtain ⟨_, _, rfl, _⟩ := h
    rfl
  · obtain ⟨h, n, rfl, A, q⟩ := h
    refine ⟨_, (PSs.nox (pss_cons (ps_set (i := 2) sc_l_ground_sign.nd rfl (.inl rfl) (pc T.d_l_take G_l_take (hr.mono (by decide)) (pa_cons (pv 0) (pa_cons pe_int pa_nil))))
      (pss_cons (ps_if (pt_cmpR op_lt (pv 2) (pv 1) (nomark _)) (pss_one (ps_ret pe_str)) pss_nil)
      (pss_cons (ps_if (pt_cmpR op_eq (pv 2) pe_int (nomark _)) (pss_one (ps_ret (pe_ix ix_str pe_str (pc T.d_l_take G_l_take (hr.mono (by decide)) (pa_cons (pv 0) (pa_cons pe_int pa_nil))) (fun _ _ => rfl)))) pss_nil)
      (pss_one (ps_ret pe_str)))))), ?_⟩
    walk_at "go"
    intro r H1 r0 r1 k1
    have A1 := k1.hand
    walk_at "go"
    refine ite2 (fun e => ?_) (fun e => ?_)
    · walk_at "go"
      have e1 : (⟨#[35]⟩ : Str) = ("#" : Str) := by decide +kernel
      have qq := q 35 H1 rfl k1
      rw [e1] at qq
      exact qq
    · walk_at "go"
      refine ite2 (fun e => ?_) (fun e => ?_)
      · walk_at "go"
        intro r2 H2 r20 r21 k2
        walk_at "go"
        obtain ⟨c, hc, hs⟩ : ∃ c, atI ("0123456789" : Str).cps.toList r2 = some c ∧ sgB c = true := by
          have e : ("0123456789" : Str).cps.toList = [48, 49, 50, 51, 52, 53, 54, 55, 56, 57] := by decide +kernel
          rw [e]
          have cs : r2 = 0 ∨ r2 = 1 ∨ r2 = 2 ∨ r2 = 3 ∨ r2 = 4 ∨ r2 = 5 ∨ r2 = 6 ∨ r2 = 7 ∨ r2 = 8 ∨ r2 = 9 := by omega
          rcases cs with rfl | rfl | rfl | rfl | rfl | rfl | rfl | rfl | rfl | rfl <;> exact ⟨_, rfl, rfl⟩
        refine ⟨_, _, c, rfl, rfl, (by decide +kernel), hc, ?_⟩
        exact q c H2 hs (k1.trans k2)
      · walk_at "go"
        have e1 : (⟨#[46]⟩ : Str) = ("." : Str) := by decide +kernel
        have qq := q 46 H1 rfl k1
        rw [e1] at qq
        exact qq
theorem ok_l_sign (T : Txt K mg) : okAt P w K mg base CX0 1 "_law_sign" ["_law_rows_here", "_law_x", "_law_y"] spLSign := by
  refine T.d_l_sign.F.ok sc_l_sign (fun vs H Q E h => ?_) (fun cdv A outer s H vs Q E hr h => ?_)
  · obtain ⟨_, _, _, _, rfl, _⟩ := h
    rfl
  · obtain ⟨a, xs, x, y, rfl, ha, g, q⟩ := h
    refine ⟨_, (PSs.nox (pss_cons (ps_if (PW.pt (pw_or (pt_cmpR op_lt (pv 1) pe_int (nomark _)) (pw_or (pt_cmpR op_lt (pv 2) pe_int (nomark _)) (pw_or (pt_cmpR op_ge (pv 1) (pe_op op_mul pe_int (pe_callB call_len_str (by rfl) T.b_len PySem.boot_len (pa_cons (pe_ix ix_tup (pv 0) pe_int (fun _ _ => rfl)) pa_nil))) (nomark _)) (pw_or1 (pt_cmpR op_ge (pv 2) (pe_op op_mul pe_int (pe_callB call_len_seq (by rfl) T.b_len PySem.boot_len (pa_cons (pv 0) pa_nil))) (nomark _))))))) (pss_one (ps_ret pe_str)) pss_nil)
      (pss_one (ps_ret (pe_ix ix_str (pe_ix ix_tup (pv 0) (pe_op op_fdivW (pv 2) pe_int) (fun _ _ => rfl)) (pe_op op_fdivW (pv 1) pe_int) (fun _ _ => rfl)))))), ?_⟩
    have o1 : ∀ z : V, z = .str ("#" : Str) → ¬ (0 ≤ x / 8 ∧ x / 8 < (wid xs : Nat) ∧ 0 ≤ y / 8 ∧ y / 8 < (xs.length : Nat)) → Q z H := fun z ez no => by
      rw [ez, ← sharp']
      rw [gs_out no] at q
      exact q
    have h0 : 0 < xs.length := g.l1
    obtain ⟨z0, hz0, y1, y2, _, y3⟩ := g.at (List.getElem?_eq_getElem h0)
    have hx0 : atI xs 0 = some (.str z0) := by rw [← hz0]; exact atI_nat (j := 0) (List.getElem?_eq_getElem h0)
    have hz : z0.length ≤ sizeLine := Nat.le_trans y2 (by decide)
    walk_at "go"
    refine ite2 (fun e => ?_) (fun e => ?_)
    · have e' : x < 0 := of_decide_eq_true e
      walk_at "go"
      exact o1 _ rfl (by omega)
    · have e' : ¬ x < 0 := of_decide_eq_false (Bool.eq_false_iff.mpr e)
      walk_at "go"
      refine ite2 (fun e1 => ?_) (fun e1 => ?_)
      · have e1' : y < 0 := of_decide_eq_true e1
        walk_at "go"
        exact o1 _ rfl (by omega)
      · have e1' : ¬ y < 0 := of_decide_eq_false (Bool.eq_false_iff.mpr e1)
        walk_at "go"
        refine ⟨a, xs, 0, _, rfl, rfl, SqT.of ha, hx0, ?_⟩
        walk_at "go"
        refine ite2 (fun e2 => ?_) (fun e2 => ?_)
        · have e2' : 8 * (z0.length : Int) ≤ x := of_decide_eq_true e2
          walk_at "go"
          exact o1 _ rfl (by omega)
        · have e2' : ¬ 8 * (z0.length : Int) ≤ x := of_decide_eq_false (Bool.eq_false_iff.mpr e2)
          walk_at "go"
          refine ite2 (fun e3 => ?_) (fun e3 => ?_)
          · have e3' : 8 * (xs.length : Int) ≤ y := of_decide_eq_true e3
            walk_at "go"
            exact o1 _ rfl (by omega)
          · have e3' : ¬ 8 * (xs.length : Int) ≤ y := of_decide_eq_false (Bool.eq_false_iff.mpr e3)
            obtain ⟨z, hz1, hz2, hz3⟩ := gs_in g (p := x / 8) (r := y / 8) (by omega) (by omega) (by omega) (by omega)
            have hz4 : z.length ≤ sizeLine := Nat.le_trans hz2 (by decide)
            walk_at "go"
            refine ⟨a, xs, y / 8, _, rfl, rfl, SqT.of ha, hz1, ?_⟩
            walk_at "go"
            refine ⟨z, x / 8, _, rfl, rfl, hz4, hz3, ?_⟩
            exact q
theorem ok_l_where (T : Txt K mg) : okAt P w K mg base CX0 3 "_law_where" ["_law_hand_here", "_law_long"] spWhere := by
  have G_l_take : okAt P w K mg base CX0 1 "_law_take" ["_law_hand_here", "_law_many"] spTake := ok_l_take T
  have G_l_pick : okAt P w K mg base CX0 2 "_law_pick" ["_law_hand_here", "_law_things"] (spPick K) := ok_l_pick T
  have G_l_great : okAt P w K mg base CX0 2 "_law_great" ["_law_hand_here"] (spDraw 0 99999999999999999999) := ok_l_great T
  refine T.d_l_where.F.ok sc_l_where (fun vs H Q E h => ?_) (fun cdv A outer s H vs Q E hr h => ?_)
  · obtain ⟨_, _, rfl, _⟩ := h
    rfl
  · obtain ⟨h, l, rfl, A, l1, l2, q⟩ := h
    refine ⟨_, (PSs.nox (pss_cons (ps_set (i := 2) sc_l_where.nd rfl (.inl rfl) (pc T.d_l_take G_l_take (hr.mono (by decide)) (pa_cons (pv 0) (pa_cons pe_int pa_nil))))
      (pss_cons (ps_if (pt_cmpR op_eq (pv 2) pe_int (nomark _)) (pss_one (ps_ret (pe_op op_mul (pc T.d_l_great G_l_great (hr.mono (by decide)) (pa_cons (pv 0) pa_nil)) (pe_op op_sub pe_int (pe_op op_mul pe_int (pc T.d_l_take G_l_take (hr.mono (by decide)) (pa_cons (pv 0) (pa_cons pe_int pa_nil)))))))) pss_nil)
      (pss_cons (ps_if (pt_cmpR op_eq (pv 2) pe_int (nomark _)) (pss_one (ps_ret (pc T.d_l_pick G_l_pick (hr.mono (by decide)) (pa_cons (pv 0) (pa_cons (pe_lst (pa_cons (pe_un un_neg pe_int) (pa_cons pe_int (pa_cons (pe_op op_sub (pe_op op_mul pe_int (pv 1)) pe_int) (pa_cons (pe_op op_mul pe_int (pv 1)) (pa_cons (pe_op op_sub (pe_op op_mul pe_int (pv 1)) pe_int) pa_nil)))))) pa_nil))))) pss_nil)
      (pss_one (ps_ret (pe_op op_sub (pc T.d_l_take G_l_take (hr.mono (by decide)) (pa_cons (pv 0) (pa_cons (pe_op op_add (pe_op op_mul pe_int (pv 1)) pe_int) pa_nil))) pe_int))))))), ?_⟩
    walk_at "go"
    intro r H1 r0 r1 k1
    have A1 := k1.hand
    walk_at "go"
    refine ite2 (fun e => ?_) (fun e => ?_)
    · walk_at "go"
      intro r2 H2 r20 r21 k2
      have A2 := k2.hand
      walk_at "go"
      intro r3 H3 r30 r31 k3
      walk_at "go"
      have cs : r3 = 0 ∨ r3 = 1 := by omega
      rcases cs with rfl | rfl
      · exact q _ _ (by omega) (by omega) ((k1.trans k2).trans k3)
      · exact q _ _ (by omega) (by omega) ((k1.trans k2).trans k3)
    · walk_at "go"
      refine ite2 (fun e => ?_) (fun e => ?_)
      · walk_at "go"
        intro p hp
        generalize eG : upd H1 p _ = G
        obtain ⟨s1, t1⟩ := new_at hp eG
        have K2 := k1.same s1
        have A2 := K2.hand
        refine ⟨_, _, _, rfl, A2, A1.ne hp, t1, by show 0 < 5; decide, by show 5 < 1073741824; decide, fun j v H3 hj k3 => ?_⟩
        obtain ⟨i, rfl, i1, i2⟩ : ∃ i : Int, v = .int i ∧ -100000000000000000000 ≤ i ∧ i ≤ 100000000000000000000 := by
          have hm := List.mem_of_getElem? hj
          simp only [List.mem_cons, List.not_mem_nil, or_false] at hm
          rcases hm with rfl | rfl | rfl | rfl | rfl <;> exact ⟨_, rfl, by omega, by omega⟩
        exact q _ _ i1 i2 (K2.trans k3)
      · walk_at "go"
        intro r2 H2 r20 r21 k2
        walk_at "go"
        exact q _ _ (by omega) (by omega) (k1.trans k2)
theorem ok_l_side (T : Txt K mg) : okAt P w K mg base CX0 3 "_law_side" ["_law_hand_here"] spSide := by
  have G_l_take : okAt P w K mg base CX0 1 "_law_take" ["_law_hand_here", "_law_many"] spTake := ok_l_take T
  have G_l_pick : okAt P w K mg base CX0 2 "_law_pick" ["_law_hand_here", "_law_things"] (spPick K) := ok_l_pick T
  refine T.d_l_side.F.ok sc_l_side (fun vs H Q E h => ?_) (fun cdv A outer s H vs Q E hr h => ?_)
  · obtain ⟨_, rfl, _⟩ := h
    rfl
  · obtain ⟨h, rfl, A, q⟩ := h
    refine ⟨_, (PSs.nox (pss_cons (ps_if (pt_cmpR op_eq (pc T.d_l_take G_l_take (hr.mono (by decide)) (pa_cons (pv 0) (pa_cons pe_int pa_nil))) pe_int (nomark _)) (pss_one (ps_ret (pc T.d_l_pick G_l_pick (hr.mono (by decide)) (pa_cons (pv 0) (pa_cons (pe_lst (pa_cons pe_int (pa_cons pe_int (pa_cons pe_int (pa_cons pe_int (pa_cons (pe_un un_neg pe_int) (pa_cons pe_bl (pa_cons pe_non (pa_cons pe_int (pa_cons pe_int pa_nil)))))))))) pa_nil))))) pss_nil)
      (pss_one (ps_ret (pe_op op_add pe_int (pc T.d_l_take G_l_take (hr.mono (by decide)) (pa_cons (pv 0) (pa_cons pe_int pa_nil)))))))), ?_⟩
    walk_at "go"
    intro r H1 r0 r1 k1
    have A1 := k1.hand
    walk_at "go"
    refine ite2 (fun e => ?_) (fun e => ?_)
    · walk_at "go"
      intro p hp
      generalize eG : upd H1 p _ = G
      obtain ⟨s1, t1⟩ := new_at hp eG
      have K2 := k1.same s1
      have A2 := K2.hand
      refine ⟨_, _, _, rfl, A2, A1.ne hp, t1, by show 0 < 9; decide, by show 9 < 1073741824; decide, fun j v H3 hj k3 => ?_⟩
      have W : ∀ G, Wt G v := by
        intro G
        have hm := List.mem_of_getElem? hj
        simp only [List.mem_cons, List.not_mem_nil, or_false] at hm
        rcases hm with rfl | rfl | rfl | rfl | rfl | rfl | rfl | rfl | rfl <;> first | exact .int _ | exact .bl _ | exact .non
      exact q _ _ W (K2.trans k3)
    · walk_at "go"
      intro r2 H2 r20 r21 k2
      walk_at "go"
      exact q _ _ (fun _ => .int _) (k1.trans k2)
end

end K02

set_option Elab.async false
set_option linter.all false
set_option maxRecDepth 100000
set_option maxHeartbeats 4000000
namespace K02
open PySem PySem.Spec PyProof.Rows L2 He Gw
local macro_rules | `(tactic| walk_at "side") => `(tactic| (first | (with_reducible assumption) | ((with_reducible show _ ≤ sizeLine); exact sz_b rfl) | (show (_ : Int) < (_ : Int); first | decide | omega) | (show (0 : Int) < _; first | decide | omega) | exact ⟨by decide, by decide⟩ | exact ⟨by decide, by decide, by decide⟩ | exact ⟨by omega, by omega⟩ | exact .inl ⟨by omega, by omega⟩ | exact .inr ⟨by omega, by omega⟩))
local macro_rules | `(tactic| walk_at "isi") => `(tactic| (first
  | (refine ei_int (by assumption) ?_)
  | (refine ei_bool (by assumption) ?_)
  | (refine ei_str (by assumption) ?_)
  | (refine ei_tuple (by assumption) ?_)
  | (refine ei_list (by assumption) ?_)
  | (refine ei_dict (by assumption) ?_)))
local macro_rules | `(tactic| walk_at "g1") => `(tactic| (first
  | ((with_reducible refine And.intro ?c ?r); (case c => walk_at "side"))
  | refine ⟨_, rfl, ?_⟩
  | (refine ⟨_, ?xs, rfl, .inl (SqL.of ?h), ?r⟩; (case h => with_reducible assumption))
  | (refine ⟨_, ?xs, rfl, .inr (SqT.of ?h), ?r⟩; (case h => with_reducible assumption))
  | (refine ⟨_, ?xs, _, ?v, rfl, rfl, SqL.of ?h, ?e, ?r⟩; (case h => with_reducible assumption); (case e => first | exact rfl | (with_reducible assumption)))
  | (refine ⟨_, ?xs, _, ?j, rfl, rfl, ?h, ?e, ?r⟩; (case h => with_reducible assumption); (case e => first | exact rfl | (with_reducible assumption)))
  | refine ⟨_, _, rfl, rfl, ?_⟩
  | refine .inl ⟨_, rfl, ?_⟩
  | refine ⟨rfl, ?_⟩
  | walk_at "isi"
  | refine ⟨_, _, rfl, ?_⟩
  | refine ⟨_, _, _, rfl, ?_⟩
  | (refine And.intro ?c ?r; (case c => walk_at "side"))))
local macro_rules | `(tactic| walk_at "go") => `(tactic| repeat walk_at "g1")
section
variable {P : Program} {w : World} {K : PySem.W.Frag} {mg : Str → Option Value} {base : Heap}
theorem ok_l_rows (T : Txt K mg) : okAt P w K mg base CX0 3 "_law_rows" ["_law_hand_here", "_law_wide", "_law_high"] spRows := by
  have G_l_ground_sign : okAt P w K mg base CX0 2 "_law_ground_sign" ["_law_hand_here", "_law_full"] spSign := ok_l_ground_sign T
  have G_l_take : okAt P w K mg base CX0 1 "_law_take" ["_law_hand_here", "_law_many"] spTake := ok_l_take T
  refine T.d_l_rows.F.ok sc_l_rows (fun vs H Q E h => ?_) (fun cdv A outer s H vs Q E hr h => ?_)
  · obtain ⟨_, _, _, rfl, _⟩ := h
    rfl
  · obtain ⟨h, m, n, rfl, A, m1, m2, n1, n2, q⟩ := h
    refine ⟨_, (PSs.nox (pss_cons (ps_set (i := 3) sc_l_rows.nd rfl (.inr rfl) (pc T.d_l_take G_l_take (hr.mono (by decide)) (pa_cons (pv 0) (pa_cons pe_int pa_nil))))
      (pss_cons (ps_set (i := 4) sc_l_rows.nd rfl (.inl rfl) (pe_lst pa_nil))
      (pss_cons (ps_for PassesOwn.never rfl (pi_range1 (by rfl) T.b_range (pa_cons (pv 2) pa_nil)) (pg_name (i := 5) sc_l_rows.nd rfl (.inl rfl)) (pss_one (ps_expr (pe_bm PySem.F.plainAttrs_list PySem.F.slot_list_append PySem.F.type_list_append mt_append (pv 4) (pa_cons (pe_join pe_str (pe_lc (own := [("_law_j", 6)]) (g := gName 6) (tt := tYes) (by rfl) sc_l_rows.nd (pi_range1 (by rfl) T.b_range (pa_cons (pv 1) pa_nil)) (blkOk_by (own := [("_law_j", 6)]) (N := ["_law_hand_here", "_law_wide", "_law_high", "_law_full", "_law_found", "_law_k", "_law_j"]) (sc := defScope s_l_rows) (by decide +kernel)) (fun _ _ _ _ _ => pg_name (i := 6) sc_l_rows.nd rfl (Or.inl rfl)) (fun _ _ _ _ _ => pts_nil) (fun _ _ _ _ _ => (pc T.d_l_ground_sign G_l_ground_sign (hr.mono (by decide)) (pa_cons (pv 0) (pa_cons (pv 3) pa_nil)))))) pa_nil)))))
      (pss_one (ps_ret (pe_callTy call_tuple_of (by rfl) T.b_tuple (by decide +kernel) (pa_cons (pv 4) pa_nil)))))))), ?_⟩
    walk_at "go"
    intro full H1 f0 f1 k1
    have A1 := k1.hand
    walk_at "go"
    intro f hf
    have hf0 : H f = none := k1.free hf
    generalize ef : upd H1 f _ = G1
    obtain ⟨s1, t1⟩ := new_at hf ef
    have K1 := k1.same s1
    walk_at "go"
    refine ⟨by omega, by omega, ?_⟩
    refine for_range (lo := 0) (n := n.toNat) (fun i σ' G => (∃ o5 o6, σ' = [some (.ref h), some (.int m), some (.int n), some (.int full), some (.ref f), o5, o6]) ∧ Kp h H G ∧ ∃ zs : List Str, G f = some (.lst (zs.map V.str)) ∧ zs.length = i ∧ Rws m.toNat zs) ⟨⟨_, _, rfl⟩, K1, [], t1, rfl, fun _ hz => nomatch hz⟩ (fun i σ' G hi z => ?_) (fun σ' G z => ?_)
    · obtain ⟨⟨o5, o6, rfl⟩, KG, zs, hfz, lz, rz⟩ := z
      have AG := KG.hand
      walk_at "go"
      refine ⟨.inl ⟨rfl, _, SqL.of hfz⟩, ?_⟩
      refine ⟨⟨_, rfl⟩, ?_⟩
      walk_at "go"
      refine ⟨by omega, by omega, ?_⟩
      intro D hD
      have hDf : D ≠ f := fun z => by rw [z, hfz] at hD; cases hD
      have hDh : D ≠ h := AG.ne hD
      refine lc_range (lo := 0) (n := m.toNat) (fun j G' => Kp h G G' ∧ ∃ ws : List Str, G' D = some (.lst (ws.map V.str)) ∧ ws.length = j ∧ ∀ w ∈ ws, ∃ c, w = ⟨#[c]⟩ ∧ sgB c = true) ⟨(Kp.refl AG).put hD, [], upd_same, rfl, fun _ hz => nomatch hz⟩ (fun j G' hj p => ?_) (fun G' p => ?_)
      · obtain ⟨KG', ws, hd, lw, aw⟩ := p
        have AG' := KG'.hand
        walk_at "go"
        intro c H4 hc k4
        refine ⟨_, k4.keep hd hDh, ?_, (KG'.trans k4).put hD, ws ++ [⟨#[c]⟩], ?_, ?_, fun w hw => ?_⟩
        · rw [List.length_map]
          exact Nat.lt_of_le_of_lt (by omega : ws.length ≤ 40) (by decide)
        · rw [upd_same, List.map_append]; rfl
        · rw [List.length_append, lw]; rfl
        · rcases List.mem_append.mp hw with hw | hw
          · exact aw w hw
          · exact ⟨c, List.mem_singleton.mp hw, hc⟩
      · obtain ⟨KG', ws, hd, lw, aw⟩ := p
        have AG' := KG'.hand
        have hfh : f ≠ h := A1.ne hf
        obtain ⟨j1, j2, j3⟩ := join_signs aw
        have hf' := KG'.keep hfz hfh
        refine ⟨_, D, ws, rfl, rfl, .inl (SqL.of hd), ?_, ?_⟩
        · rw [j3]
          show ws.length + ws.length * 0 ≤ _
          omega
        · refine ⟨f, _, _, rfl, rfl, hf', ?_, ?_⟩
          · rw [List.length_map]
            exact Nat.lt_of_le_of_lt (by omega : zs.length ≤ 40) (by decide)
          · refine ⟨⟨_, _, rfl⟩, (KG.trans KG').put hf0, zs ++ [PySem.Txt.join ("" : Str) ws], ?_, ?_, fun z hz => ?_⟩
            · rw [upd_same, List.map_append]; rfl
            · rw [List.length_append, lz]; rfl
            · rcases List.mem_append.mp hz with hz | hz
              · exact rz z hz
              · rw [List.mem_singleton.mp hz]
                exact ⟨by rw [j1, lw], j2⟩
    · obtain ⟨⟨o5, o6, rfl⟩, KG, zs, hfz, lz, rz⟩ := z
      walk_at "go"
      refine ⟨f, _, rfl, .inl ⟨SqL.of hfz, fun p hp => ?_⟩⟩
      exact q p _ _ upd_same (rz.good (by omega) (by omega) (by omega) (by omega)) (KG.same (Same.new hp))
theorem ok_l_units_open (T : Txt K mg) : okAt P w K mg base CX0 2 "_law_units_open" ["_law_rows_here", "_law_x", "_law_y", "_law_wide", "_law_high"] spUnits := by
  have G_l_sign : okAt P w K mg base CX0 1 "_law_sign" ["_law_rows_here", "_law_x", "_law_y"] spLSign := ok_l_sign T
  refine T.d_l_units_open.F.ok sc_l_units_open (fun vs H Q E h => ?_) (fun cdv A outer s H vs Q E hr h => ?_)
  · obtain ⟨_, _, _, _, _, _, rfl, _⟩ := h
    rfl
  · obtain ⟨a, xs, x, y, m, n, rfl, ha, g, m1, m2, n1, n2, q⟩ := h
    refine ⟨_, (PSs.nox (pss_cons (ps_for PassesOwn.never rfl (pi_range1 (by rfl) T.b_range (pa_cons (pv 3) pa_nil)) (pg_name (i := 5) sc_l_units_open.nd rfl (.inl rfl)) (pss_one (ps_for PassesOwn.never rfl (pi_range1 (by rfl) T.b_range (pa_cons (pv 4) pa_nil)) (pg_name (i := 6) sc_l_units_open.nd rfl (.inl rfl)) (pss_one (ps_if (pt_cmpR op_eq (pc T.d_l_sign G_l_sign (hr.mono (by decide)) (pa_cons (pv 0) (pa_cons (pe_op op_add (pv 1) (pv 5)) (pa_cons (pe_op op_add (pv 2) (pv 6)) pa_nil)))) pe_str (nomark _)) (pss_one (ps_ret pe_bl)) pss_nil)))))
      (pss_one (ps_ret pe_bl)))), ?_⟩
    walk_at "go"
    refine ⟨by omega, by omega, ?_⟩
    refine for_range (lo := 0) (n := m.toNat) (fun i σ' G => G = H ∧ (∃ o5 o6, σ' = [some (.ref a), some (.int x), some (.int y), some (.int m), some (.int n), o5, o6]) ∧ ∀ c r : Int, 0 ≤ c → c < (i : Nat) → 0 ≤ r → r < n → gs xs ((x + c) / 8) ((y + r) / 8) ≠ 35) ⟨rfl, ⟨_, _, rfl⟩, fun c r _ _ => by omega⟩ (fun i σ' G hi z => ?_) (fun σ' G z => ?_)
    · obtain ⟨rfl, ⟨o5, o6, rfl⟩, hall⟩ := z
      walk_at "go"
      refine ⟨by omega, by omega, ?_⟩
      refine for_range (lo := 0) (n := n.toNat) (fun j σ' G' => G' = G ∧ (∃ o6, σ' = [some (.ref a), some (.int x), some (.int y), some (.int m), some (.int n), some (.int (0 + (i : Nat))), o6]) ∧ ∀ r : Int, 0 ≤ r → r < (j : Nat) → gs xs ((x + (0 + (i : Nat))) / 8) ((y + r) / 8) ≠ 35) ⟨rfl, ⟨_, rfl⟩, fun c _ _ => by omega⟩ (fun j σ' G' hj z => ?_) (fun σ' G' z => ?_)
      · obtain ⟨rfl, ⟨o6, rfl⟩, hrow⟩ := z
        walk_at "go"
        refine ⟨a, xs, _, _, rfl, ha, g, ?_⟩
        walk_at "go"
        refine ite2 (fun e5 => ?_) (fun e5 => ?_)
        · have ec := sharp (of_decide_eq_true e5)
          walk_at "go"
          refine q false ⟨(fun z => nomatch z), fun o => ?_⟩
          exact absurd ec (o _ _ (by omega) (by omega) (by omega) (by omega))
        · have ec : gs xs ((x + (0 + (i : Nat))) / 8) ((y + (0 + (j : Nat))) / 8) ≠ 35 := fun z => e5 (decide_eq_true (by rw [z]; exact sharp'))
          refine ⟨rfl, ⟨_, rfl⟩, fun r h1 h2 => ?_⟩
          by_cases hc : r = 0 + (j : Nat)
          · rw [hc]; exact ec
          · exact hrow r h1 (by omega)
      · obtain ⟨rfl, ⟨o6, rfl⟩, hrow⟩ := z
        refine ⟨rfl, ⟨_, _, rfl⟩, fun c r h1 h2 h3 h4 => ?_⟩
        by_cases hc : c = 0 + (i : Nat)
        · rw [hc]; exact hrow r h3 (by omega)
        · exact hall c r h1 (by omega) h3 h4
    · obtain ⟨rfl, ⟨o5, o6, rfl⟩, hall⟩ := z
      walk_at "go"
      exact q true ⟨fun _ => fun c r h1 h2 h3 h4 => hall c r h1 (by omega) h3 h4, fun _ => rfl⟩
end

end K02

set_option Elab.async false
set_option linter.all false
set_option maxRecDepth 100000
set_option maxHeartbeats 4000000
namespace K02
open PySem PySem.Spec PyProof.Rows L2 He Gw
local macro_rules | `(tactic| walk_at "side") => `(tactic| (first | (with_reducible assumption) | ((with_reducible show _ ≤ sizeLine); exact sz_b rfl) | (show (_ : Int) < (_ : Int); first | decide | omega) | (show (0 : Int) < _; first | decide | omega) | exact ⟨by decide, by decide⟩ | exact ⟨by decide, by decide, by decide⟩ | exact ⟨by omega, by omega⟩ | exact .inl ⟨by omega, by omega⟩ | exact .inr ⟨by omega, by omega⟩))
local macro_rules | `(tactic| walk_at "isi") => `(tactic| (first
  | (refine ei_int (by assumption) ?_)
  | (refine ei_bool (by assumption) ?_)
  | (refine ei_str (by assumption) ?_)
  | (refine ei_tuple (by assumption) ?_)
  | (refine ei_list (by assumption) ?_)
  | (refine ei_dict (by assumption) ?_)))
local macro_rules | `(tactic| walk_at "g1") => `(tactic| (first
  | ((with_reducible refine And.intro ?c ?r); (case c => walk_at "side"))
  | refine ⟨_, rfl, ?_⟩
  | (refine ⟨_, ?xs, rfl, .inl (SqL.of ?h), ?r⟩; (case h => with_reducible assumption))
  | (refine ⟨_, ?xs, rfl, .inr (SqT.of ?h), ?r⟩; (case h => with_reducible assumption))
  | (refine ⟨_, ?xs, _, ?v, rfl, rfl, SqL.of ?h, ?e, ?r⟩; (case h => with_reducible assumption); (case e => first | exact rfl | (with_reducible assumption)))
  | (refine ⟨_, ?xs, _, ?j, rfl, rfl, ?h, ?e, ?r⟩; (case h => with_reducible assumption); (case e => first | exact rfl | (with_reducible assumption)))
  | refine ⟨_, _, rfl, rfl, ?_⟩
  | refine .inl ⟨_, rfl, ?_⟩
  | refine ⟨rfl, ?_⟩
  | walk_at "isi"
  | refine ⟨_, _, rfl, ?_⟩
  | refine ⟨_, _, _, rfl, ?_⟩
  | (refine And.intro ?c ?r; (case c => walk_at "side"))))
local macro_rules | `(tactic| walk_at "go") => `(tactic| repeat walk_at "g1")
section
variable {P : Program} {w : World} {K : PySem.W.Frag} {mg : Str → Option Value} {base : Heap}
theorem ok_l_ground (T : Txt K mg) : okAt P w K mg base CX0 4 "_law_ground" ["_law_hand_here"] spGround := by
  have G_l_rows : okAt P w K mg base CX0 3 "_law_rows" ["_law_hand_here", "_law_wide", "_law_high"] spRows := ok_l_rows T
  have G_l_take : okAt P w K mg base CX0 1 "_law_take" ["_law_hand_here", "_law_many"] spTake := ok_l_take T
  refine T.d_l_ground.F.ok sc_l_ground (fun vs H Q E h => ?_) (fun cdv A outer s H vs Q E hr h => ?_)
  · obtain ⟨_, rfl, _⟩ := h
    rfl
  · obtain ⟨h, rfl, A, q⟩ := h
    refine ⟨_, (PSs.nox (pss_cons (ps_set (i := 1) sc_l_ground.nd rfl (.inl rfl) (pc T.d_l_take G_l_take (hr.mono (by decide)) (pa_cons (pv 0) (pa_cons pe_int pa_nil))))
      (pss_cons (ps_if (pt_cmpR op_eq (pv 1) pe_int (nomark _)) (pss_one (ps_ret (pc T.d_l_rows G_l_rows (hr.mono (by decide)) (pa_cons (pv 0) (pa_cons (pe_op op_add pe_int (pc T.d_l_take G_l_take (hr.mono (by decide)) (pa_cons (pv 0) (pa_cons pe_int pa_nil)))) (pa_cons (pe_op op_add pe_int (pc T.d_l_take G_l_take (hr.mono (by decide)) (pa_cons (pv 0) (pa_cons pe_int pa_nil)))) pa_nil)))))) pss_nil)
      (pss_cons (ps_if (pt_cmpR op_eq (pv 1) pe_int (nomark _)) (pss_one (ps_ret (pc T.d_l_rows G_l_rows (hr.mono (by decide)) (pa_cons (pv 0) (pa_cons pe_int (pa_cons pe_int pa_nil)))))) pss_nil)
      (pss_one (ps_ret (pc T.d_l_rows G_l_rows (hr.mono (by decide)) (pa_cons (pv 0) (pa_cons (pe_op op_add pe_int (pc T.d_l_take G_l_take (hr.mono (by decide)) (pa_cons (pv 0) (pa_cons pe_int pa_nil)))) (pa_cons (pe_op op_add pe_int (pc T.d_l_take G_l_take (hr.mono (by decide)) (pa_cons (pv 0) (pa_cons pe_int pa_nil)))) pa_nil)))))))))), ?_⟩
    walk_at "go"
    intro r H1 r0 r1 k1
    have A1 := k1.hand
    walk_at "go"
    refine ite2 (fun e => ?_) (fun e => ?_)
    · walk_at "go"
      intro r2 H2 r20 r21 k2
      have A2 := k2.hand
      walk_at "go"
      intro r3 H3 r30 r31 k3
      have A3 := k3.hand
      walk_at "go"
      refine ⟨by omega, by omega, by omega, ?_⟩
      intro p xs H4 e g k4
      exact q p xs H4 e g (((k1.trans k2).trans k3).trans k4)
    · walk_at "go"
      refine ite2 (fun e => ?_) (fun e => ?_)
      · walk_at "go"
        intro p xs H4 e g k4
        exact q p xs H4 e g (k1.trans k4)
      · walk_at "go"
        intro r2 H2 r20 r21 k2
        have A2 := k2.hand
        walk_at "go"
        intro r3 H3 r30 r31 k3
        have A3 := k3.hand
        walk_at "go"
        refine ⟨by omega, by omega, by omega, ?_⟩
        intro p xs H4 e g k4
        exact q p xs H4 e g (((k1.trans k2).trans k3).trans k4)
theorem ok_l_large (T : Txt K mg) : okAt P w K mg base CX0 5 "_law_large" ["_law_hand_here"] spGround := by
  have G_l_take : okAt P w K mg base CX0 1 "_law_take" ["_law_hand_here", "_law_many"] spTake := ok_l_take T
  have G_l_ground : okAt P w K mg base CX0 4 "_law_ground" ["_law_hand_here"] spGround := ok_l_ground T
  refine T.d_l_large.F.ok sc_l_large (fun vs H Q E h => ?_) (fun cdv A outer s H vs Q E hr h => ?_)
  · obtain ⟨_, rfl, _⟩ := h
    rfl
  · obtain ⟨h, rfl, A, q⟩ := h
    refine ⟨_, (PSs.nox (pss_cons (ps_set (i := 1) sc_l_large.nd rfl (.inl rfl) (pc T.d_l_ground G_l_ground (hr.mono (by decide)) (pa_cons (pv 0) pa_nil)))
      (pss_cons (ps_set (i := 2) sc_l_large.nd rfl (.inl rfl) (pc T.d_l_take G_l_take (hr.mono (by decide)) (pa_cons (pv 0) (pa_cons pe_int pa_nil))))
      (pss_cons (ps_if (pt_cmpR op_eq (pv 2) pe_int (nomark _)) (pss_one (ps_ret (pe_callTy call_tuple_of (by rfl) T.b_tuple (by decide +kernel) (pa_cons (pe_lc (own := [("_law_row", 3)]) (g := gName 3) (tt := tYes) (by rfl) sc_l_large.nd (pi_tup (pv 1)) (blkOk_by (own := [("_law_row", 3)]) (N := ["_law_hand_here", "_law_rows_here", "_law_way", "_law_row"]) (sc := defScope s_l_large) (by decide +kernel)) (fun _ _ _ _ _ => pg_name (i := 3) sc_l_large.nd rfl (Or.inl rfl)) (fun _ _ _ _ _ => pts_nil) (fun _ _ _ _ _ => (pe_slice sl_str (pe_op op_mulS (pv 3) pe_int) po_none (po_some pe_int)))) pa_nil)))) pss_nil)
      (pss_cons (ps_if (pt_cmpR op_eq (pv 2) pe_int (nomark _)) (pss_one (ps_ret (pe_slice sl_tupA (pe_op op_repT (pv 1) pe_int) po_none (po_some pe_int)))) pss_nil)
      (pss_one (ps_ret (pv 1)))))))), ?_⟩
    walk_at "go"
    intro p xs H1 hp g k1
    have A1 := k1.hand
    walk_at "go"
    intro r H2 r0 r1 k2
    have A2 := k2.hand
    have hp2 := k2.tup hp
    walk_at "go"
    refine ite2 (fun e => ?_) (fun e => ?_)
    · walk_at "go"
      refine ⟨⟨_, SqT.of hp2⟩, ?_⟩
      intro D hD
      refine lc_tup (xs := xs) (fun i G => Same H2 G ∧ ∃ zs : List Str, G D = some (.lst (zs.map V.str)) ∧ zs.length = i ∧ Rws 40 zs) ⟨Same.new hD, [], upd_same, rfl, fun _ hz => nomatch hz⟩ (fun i G _ p => SqT.of (p.1 _ _ hp2)) (fun i x G hx p => ?_) (fun G p => ?_)
      · obtain ⟨sm, zs, hd, lz, rz⟩ := p
        obtain ⟨z, rfl, z1, z2, z3, z4⟩ := g.at hx
        have hml := mul_ok z2 (.inl rfl)
        have hl := len_mul' (z := z) (n := 40) (by decide) z1
        have hl2 : (PySem.Txt.mul z 40).length ≤ sizeLine := by
          rw [hl]
          exact Nat.le_trans (show (40 : Int).toNat * z.length ≤ 1600 by show 40 * z.length ≤ 1600; omega) (by decide)
        have hi : i < xs.length := (List.getElem?_eq_some_iff.mp hx).1
        have g2 := g.l2
        obtain ⟨c1, c2⟩ := cut_mul (z := z) (n := 40) (k := 40) (by decide) z1 (by decide) z3
        walk_at "go"
        refine ⟨_, hd, ?_, same_mut sm hD, zs ++ [cutS (PySem.Txt.mul z 40) none (some ((40 : Nat) : Int))], ?_, ?_, fun w hw => ?_⟩
        · rw [List.length_map]
          exact Nat.lt_of_le_of_lt (by omega : zs.length ≤ 40) (by decide)
        · rw [upd_same, List.map_append]; rfl
        · rw [List.length_append, lz]; rfl
        · rcases List.mem_append.mp hw with hw | hw
          · exact rz w hw
          · rw [List.mem_singleton.mp hw]
            exact ⟨c1, c2⟩
      · obtain ⟨sm, zs, hd, lz, rz⟩ := p
        have g1 := g.l1
        have g2 := g.l2
        refine ⟨D, _, rfl, .inl ⟨SqL.of hd, fun t ht => ?_⟩⟩
        exact q t _ _ upd_same (rz.good (by decide) (by decide) (by omega) (by omega)) ((k1.trans k2).same (sm.trans (Same.new ht)))
    · walk_at "go"
      refine ite2 (fun e => ?_) (fun e => ?_)
      · have g1 := g.l1
        have g2 := g.l2
        walk_at "go"
        refine ⟨p, 30, xs, rfl, rfl, SqT.of hp2, (fun z => by rw [z] at g1; cases g1), by decide, by decide, by omega, fun t ht => ?_⟩
        generalize et : upd H2 t _ = G
        obtain ⟨s1, t1⟩ := new_at ht et
        have lf : ((List.replicate (30 : Int).toNat xs).flatten).length = 30 * xs.length := flat_len xs 30
        walk_at "go"
        refine ⟨t, _, rfl, SqT.of t1, fun hw => ?_, fun hw u hu => ?_⟩
        · have e30 : 30 * xs.length = 30 := by
            have := hw.2
            rw [lf, sIx30] at this
            omega
          exact q t _ _ t1 (g.sub (fun y hy => flat_mem hy) (by omega) (by omega)) ((k1.trans k2).same s1)
        · refine q u _ _ upd_same (g.sub (fun y hy => ?_) ?_ ?_) ((k1.trans k2).same (s1.trans (Same.new hu)))
          · unfold cutV at hy
            exact flat_mem (List.mem_of_mem_drop (List.mem_of_mem_take hy))
          · unfold cutV
            rw [List.length_take, List.length_drop, lf, HT.sIx_none, sIx30]
            omega
          · unfold cutV
            rw [List.length_take, List.length_drop, lf, HT.sIx_none, sIx30]
            omega
      · walk_at "go"
        exact q p xs H2 hp2 g (k1.trans k2)
end

end K02

set_option Elab.async false
set_option linter.all false
set_option maxRecDepth 100000
set_option maxHeartbeats 4000000
namespace K02
open PySem PySem.Spec PyProof.Rows L2 He Gw
local macro_rules | `(tactic| walk_at "side") => `(tactic| (first | (with_reducible assumption) | ((with_reducible show _ ≤ sizeLine); exact sz_b rfl) | (show (_ : Int) < (_ : Int); first | decide | omega) | (show (0 : Int) < _; first | decide | omega) | exact ⟨by decide, by decide⟩ | exact ⟨by decide, by decide, by decide⟩ | exact ⟨by omega, by omega⟩ | exact .inl ⟨by omega, by omega⟩ | exact .inr ⟨by omega, by omega⟩))
local macro_rules | `(tactic| walk_at "isi") => `(tactic| (first
  | (refine ei_int (by assumption) ?_)
  | (refine ei_bool (by assumption) ?_)
  | (refine ei_str (by assumption) ?_)
  | (refine ei_tuple (by assumption) ?_)
  | (refine ei_list (by assumption) ?_)
  | (refine ei_dict (by assumption) ?_)))
local macro_rules | `(tactic| walk_at "g1") => `(tactic| (first
  | ((with_reducible refine And.intro ?c ?r); (case c => walk_at "side"))
  | refine ⟨_, rfl, ?_⟩
  | (refine ⟨_, ?xs, rfl, .inl (SqL.of ?h), ?r⟩; (case h => with_reducible assumption))
  | (refine ⟨_, ?xs, rfl, .inr (SqT.of ?h), ?r⟩; (case h => with_reducible assumption))
  | (refine ⟨_, ?xs, _, ?v, rfl, rfl, SqL.of ?h, ?e, ?r⟩; (case h => with_reducible assumption); (case e => first | exact rfl | (with_reducible assumption)))
  | (refine ⟨_, ?xs, _, ?j, rfl, rfl, ?h, ?e, ?r⟩; (case h => with_reducible assumption); (case e => first | exact rfl | (with_reducible assumption)))
  | refine ⟨_, _, rfl, rfl, ?_⟩
  | refine .inl ⟨_, rfl, ?_⟩
  | refine ⟨rfl, ?_⟩
  | walk_at "isi"
  | refine ⟨_, _, rfl, ?_⟩
  | refine ⟨_, _, _, rfl, ?_⟩
  | (refine And.intro ?c ?r; (case c => walk_at "side"))))
local macro_rules | `(tactic| walk_at "go") => `(tactic| repeat walk_at "g1")
section
variable {P : Program} {w : World} {K : PySem.W.Frag} {mg : Str → Option Value} {base : Heap}
theorem ok_l_first_bad (T : Txt K mg) : okAt P w K mg base CX0 1 "_law_first_bad" ["_law_thing"] spFirst := by
  refine T.d_l_first_bad.F.ok sc_l_first_bad (fun vs H Q E h => ?_) (fun cdv A outer s H vs Q E hr h => ?_)
  · obtain ⟨_, _, rfl, _⟩ := h
    rfl
  · obtain ⟨h, v, rfl, t, q⟩ := h
    refine ⟨_, (PSs.nox (pss_cons (ps_if (PW.pt (pw_or (pt_not (pt_val (pe_callB call_isi (by rfl) T.b_isinstance (by decide +kernel) (pa_cons (pv 0) (pa_cons (pe_ty "tuple" T.b_tuple) pa_nil))))) (pw_or (pt_cmpR op_lt (pe_callB call_len_seq (by rfl) T.b_len PySem.boot_len (pa_cons (pv 0) pa_nil)) pe_int (nomark _)) (pw_or1 (pt_cmpR op_gt (pe_callB call_len_seq (by rfl) T.b_len PySem.boot_len (pa_cons (pv 0) pa_nil)) pe_int (nomark _)))))) (pss_one (ps_ret (pe_un un_neg pe_int))) pss_nil)
      (pss_cons (ps_for PassesOwn.never rfl (pi_range1 (by rfl) T.b_range (pa_cons (pe_callB call_len_seq (by rfl) T.b_len PySem.boot_len (pa_cons (pv 0) pa_nil)) pa_nil)) (pg_name (i := 1) sc_l_first_bad.nd rfl (.inl rfl)) (pss_cons (ps_set (i := 2) sc_l_first_bad.nd rfl (.inl rfl) (pe_ix ix_tup (pv 0) (pv 1) (fun _ _ => rfl)))
      (pss_cons (ps_if (PW.pt (pw_or (pt_not (pt_val (pe_callB call_isi (by rfl) T.b_isinstance (by decide +kernel) (pa_cons (pv 2) (pa_cons (pe_ty "str" T.b_str) pa_nil))))) (pw_or (pt_cmpR op_lt (pe_callB call_len_str (by rfl) T.b_len PySem.boot_len (pa_cons (pv 2) pa_nil)) pe_int (nomark _)) (pw_or (pt_cmpR op_gt (pe_callB call_len_str (by rfl) T.b_len PySem.boot_len (pa_cons (pv 2) pa_nil)) pe_int (nomark _)) (pw_or1 (pt_cmpR op_ne (pe_callB call_len_str (by rfl) T.b_len PySem.boot_len (pa_cons (pv 2) pa_nil)) (pe_callB call_len_str (by rfl) T.b_len PySem.boot_len (pa_cons (pe_ix ix_tup (pv 0) pe_int (fun _ _ => rfl)) pa_nil)) (nomark _))))))) (pss_one (ps_ret (pv 1))) pss_nil)
      (pss_one (ps_if (pt_cmpR op_gt (pe_callB call_len_seq (by rfl) T.b_len PySem.boot_len (pa_cons (pe_lc (own := [("_law_sign_here", 3)]) (g := gName 3) (tt := _) (by rfl) sc_l_first_bad.nd (pi_str (pv 2)) (blkOk_by (own := [("_law_sign_here", 3)]) (N := ["_law_thing", "_law_k", "_law_row", "_law_sign_here"]) (sc := defScope s_l_first_bad) (by decide +kernel)) (fun _ _ _ _ _ => pg_name (i := 3) sc_l_first_bad.nd rfl (Or.inl rfl)) (fun _ _ _ _ _ => (pts_one (pt_cmpR op_notIn_sign (pv 3) pe_str (by rfl)))) (fun _ _ _ _ _ => (pv 3))) pa_nil)) pe_int (nomark _)) (pss_one (ps_ret (pv 1))) pss_nil)))))
      (pss_one (ps_ret pe_non))))), ?_⟩
    have W := t.nc.1
    walk_at "go"
    refine ite2 (fun e => ?_) (fun e => ?_)
    · have hb : badOf H v = some (-1) := badOf_not (by simpa using e)
      walk_at "go"
      have qq := q H (Same.refl H)
      rw [hb] at qq
      exact qq
    · obtain ⟨a, xs, rfl, ha⟩ := isT_ex (by simpa using e)
      have lx := t.its a xs rfl ha
      have hb := badOf_tup ha
      walk_at "go"
      refine ite2 (fun e1 => ?_) (fun e1 => ?_)
      · have f1 : ¬ 1 ≤ xs.length := by have := of_decide_eq_true e1; omega
        walk_at "go"
        have qq := q H (Same.refl H)
        rw [hb, badL_len (fun z => f1 z.1)] at qq
        exact qq
      · have f1 : 1 ≤ xs.length := by have := of_decide_eq_false (Bool.eq_false_iff.mpr e1); omega
        walk_at "go"
        refine ite2 (fun e2 => ?_) (fun e2 => ?_)
        · have f2 : ¬ xs.length ≤ 30 := by have := of_decide_eq_true e2; omega
          walk_at "go"
          have qq := q H (Same.refl H)
          rw [hb, badL_len (fun z => f2 z.2)] at qq
          exact qq
        · have f2 : xs.length ≤ 30 := by have := of_decide_eq_false (Bool.eq_false_iff.mpr e2); omega
          have h0 : 0 < xs.length := f1
          obtain ⟨x0, hx0⟩ : ∃ x0, xs[0]? = some x0 := ⟨_, List.getElem?_eq_getElem h0⟩
          have w0 : wid xs = slen x0 := by
            cases xs with
            | nil => cases hx0
            | cons y ys =>
              have hy : y = x0 := Option.some.inj hx0
              subst hy
              rfl
          have at0 : atI xs 0 = some x0 := atI_nat (j := 0) hx0
          walk_at "go"
          refine ⟨by omega, by omega, ?_⟩
          refine for_range (lo := 0) (n := ((xs.length : Nat) : Int).toNat) (fun i σ' G => (∃ o1 o2 o3, σ' = [some (.ref a), o1, o2, o3]) ∧ Same H G ∧ Pre xs i) ⟨⟨_, _, _, rfl⟩, Same.refl H, Pre.zero⟩ (fun i σ' G hi z => ?_) (fun σ' G z => ?_)
          · obtain ⟨⟨o1, o2, o3, rfl⟩, sm, pr⟩ := z
            have hi' : i < xs.length := by omega
            obtain ⟨x, hx⟩ : ∃ x, xs[i]? = some x := ⟨_, List.getElem?_eq_getElem hi'⟩
            have ati : atI xs (0 + (i : Nat)) = some x := by rw [Int.zero_add]; exact atI_nat hx
            have haG := sm _ _ ha
            have nx := (lx.2 x (List.mem_of_getElem? hx)).1.same sm
            have Wx := nx.1
            have fin : ∀ G', Same H G' → rowB (wid xs) x = false → Q (.int (0 + (i : Nat))) G' := fun G' s' hr0 => by
              have qq := q G' s'
              rw [hb, badL_at f1 f2 pr hx hr0] at qq
              rw [Int.zero_add]
              exact qq
            walk_at "go"
            refine ⟨a, xs, _, _, rfl, rfl, SqT.of haG, ati, ?_⟩
            walk_at "go"
            refine ite2 (fun e3 => ?_) (fun e3 => ?_)
            · walk_at "go"
              refine fin G sm ?_
              unfold rowB
              have hx0' : rowOk x = false := by cases Wx <;> first | rfl | cases e3
              rw [hx0', Bool.false_and]
            · cases Wx <;> first | exact absurd rfl e3 | skip
              rename_i z
              have hz : z.length ≤ sizeLine := Nat.le_trans (nx.2 z rfl) (by decide)
              have badz : (¬ (1 ≤ z.length ∧ z.length ≤ 40 ∧ z.length = wid xs ∧ allS z = true)) → rowB (wid xs) (.str z) = false := fun no => by
                cases c : rowB (wid xs) (.str z) with
                | false => rfl
                | true =>
                  obtain ⟨z', ez, b1, b2, b3, b4⟩ := rowB_str c
                  cases ez
                  exact absurd ⟨b1, b2, b4, b3⟩ no
              walk_at "go"
              refine ite2 (fun e4 => ?_) (fun e4 => ?_)
              · have e4' : (z.length : Int) < 1 := of_decide_eq_true e4
                walk_at "go"
                exact fin G sm (badz fun z => by omega)
              · have e4' : ¬ (z.length : Int) < 1 := of_decide_eq_false (Bool.eq_false_iff.mpr e4)
                walk_at "go"
                refine ite2 (fun e5 => ?_) (fun e5 => ?_)
                · have e5' : (40 : Int) < (z.length : Int) := of_decide_eq_true e5
                  walk_at "go"
                  exact fin G sm (badz fun z => by omega)
                · have e5' : ¬ (40 : Int) < (z.length : Int) := of_decide_eq_false (Bool.eq_false_iff.mpr e5)
                  obtain ⟨z0, rfl, hz0⟩ : ∃ z0, x0 = .str z0 ∧ z0.length ≤ sizeLine := by
                    by_cases hi0 : i = 0
                    · subst hi0
                      rw [hx0] at hx
                      cases hx
                      exact ⟨z, rfl, hz⟩
                    · obtain ⟨y, hy, _, y2, _⟩ := rowB_str (pr 0 x0 (by omega) hx0)
                      exact ⟨y, hy, Nat.le_trans y2 (by decide)⟩
                  walk_at "go"
                  refine ⟨a, xs, 0, _, rfl, rfl, SqT.of haG, at0, ?_⟩
                  walk_at "go"
                  refine ite2 (fun e6 => ?_) (fun e6 => ?_)
                  · have e6' : ¬ z.length = z0.length := fun q => by
                      rw [q] at e6
                      simp at e6
                    walk_at "go"
                    exact fin G sm (badz fun z => e6' (z.2.2.1.trans w0))
                  · have e6' : z.length = z0.length := by
                      have q := (by simpa using e6 : (z.length : Int) = (z0.length : Int))
                      omega
                    walk_at "go"
                    intro D hD
                    refine lc_str (fun j G' => Same G G' ∧ ∃ us : List V, G' D = some (.lst us) ∧ us.length ≤ j ∧ (us.length = 0 ↔ (z.cps.toList.take j).all sgB = true)) ⟨Same.new hD, [], upd_same, Nat.le_refl _, by simp⟩ (fun j c G' hc p => ?_) (fun G' p => ?_)
                    · obtain ⟨sD, us, hd, lu, iu⟩ := p
                      have hj : j < z.cps.toList.length := (List.getElem?_eq_some_iff.mp hc).1
                      have lz := len_list z
                      walk_at "go"
                      rw [sg2]
                      refine ite2 (fun e7 => ?_) (fun e7 => ?_)
                      · have s7 : sgB c = false := by simpa using e7
                        walk_at "go"
                        refine ⟨us, hd, Nat.lt_of_le_of_lt (by omega : us.length ≤ 40) (by decide), same_mut sD hD, us ++ [.str ⟨#[c]⟩], upd_same, ?_, ?_⟩
                        · rw [List.length_append]
                          show us.length + 1 ≤ j + 1
                          omega
                        · rw [take_one hc, List.all_append, List.length_append]
                          show us.length + 1 = 0 ↔ _
                          rw [show List.all [c] sgB = false by show (sgB c && true) = false; rw [s7]; rfl, Bool.and_false]
                          constructor <;> intro z <;> first | omega | cases z
                      · have s7 : sgB c = true := by simpa using e7
                        refine ⟨sD, us, hd, by omega, ?_⟩
                        rw [take_one hc, List.all_append, show List.all [c] sgB = true by show (sgB c && true) = true; rw [s7]; rfl, Bool.and_true]
                        exact iu
                    · obtain ⟨sD, us, hd, lu, iu⟩ := p
                      walk_at "go"
                      rw [List.take_length] at iu
                      refine ite2 (fun e7 => ?_) (fun e7 => ?_)
                      · have u7 : (0 : Int) < (us.length : Int) := of_decide_eq_true e7
                        walk_at "go"
                        refine fin G' (sm.trans sD) (badz fun z => ?_)
                        have := iu.mpr z.2.2.2
                        omega
                      · have u7 : ¬ (0 : Int) < (us.length : Int) := of_decide_eq_false (Bool.eq_false_iff.mpr e7)
                        have az : allS z = true := iu.mp (by omega)
                        have hr1 : rowB (wid xs) (.str z) = true := rowB_of (by omega) (by omega) az (e6'.trans w0.symm)
                        exact ⟨⟨_, _, _, rfl⟩, sm.trans sD, pr.succ hx hr1⟩
          · obtain ⟨⟨o1, o2, o3, rfl⟩, sm, pr⟩ := z
            walk_at "go"
            have qq := q G sm
            have pr' : Pre xs xs.length := by
              rw [Int.toNat_natCast] at pr
              exact pr
            rw [hb, (badL_none f1 f2 pr').1] at qq
            exact qq
end

end K02

set_option Elab.async false
set_option linter.all false
set_option maxRecDepth 100000
set_option maxHeartbeats 4000000
namespace K02
open PySem PySem.Spec PyProof.Rows L2 He Gw
local macro_rules | `(tactic| walk_at "side") => `(tactic| (first | (with_reducible assumption) | ((with_reducible show _ ≤ sizeLine); exact sz_b rfl) | (show (_ : Int) < (_ : Int); first | decide | omega) | (show (0 : Int) < _; first | decide | omega) | exact ⟨by decide, by decide⟩ | exact ⟨by decide, by decide, by decide⟩ | exact ⟨by omega, by omega⟩ | exact .inl ⟨by omega, by omega⟩ | exact .inr ⟨by omega, by omega⟩))
local macro_rules | `(tactic| walk_at "isi") => `(tactic| (first
  | (refine ei_int (by assumption) ?_)
  | (refine ei_bool (by assumption) ?_)
  | (refine ei_str (by assumption) ?_)
  | (refine ei_tuple (by assumption) ?_)
  | (refine ei_list (by assumption) ?_)
  | (refine ei_dict (by assumption) ?_)))
local macro_rules | `(tactic| walk_at "g1") => `(tactic| (first
  | ((with_reducible refine And.intro ?c ?r); (case c => walk_at "side"))
  | refine ⟨_, rfl, ?_⟩
  | (refine ⟨_, ?xs, rfl, .inl (SqL.of ?h), ?r⟩; (case h => with_reducible assumption))
  | (refine ⟨_, ?xs, rfl, .inr (SqT.of ?h), ?r⟩; (case h => with_reducible assumption))
  | (refine ⟨_, ?xs, _, ?v, rfl, rfl, SqL.of ?h, ?e, ?r⟩; (case h => with_reducible assumption); (case e => first | exact rfl | (with_reducible assumption)))
  | (refine ⟨_, ?xs, _, ?j, rfl, rfl, ?h, ?e, ?r⟩; (case h => with_reducible assumption); (case e => first | exact rfl | (with_reducible assumption)))
  | refine ⟨_, _, rfl, rfl, ?_⟩
  | refine .inl ⟨_, rfl, ?_⟩
  | refine ⟨rfl, ?_⟩
  | walk_at "isi"
  | refine ⟨_, _, rfl, ?_⟩
  | refine ⟨_, _, _, rfl, ?_⟩
  | (refine And.intro ?c ?r; (case c => walk_at "side"))))
local macro_rules | `(tactic| walk_at "go") => `(tactic| repeat walk_at "g1")
section
variable {P : Program} {w : World} {K : PySem.W.Frag} {mg : Str → Option Value} {base : Heap}
theorem ok_l_spoiled (T : Txt K mg) : okAt P w K mg base CX0 3 "_law_spoiled" ["_law_hand_here", "_law_rows_here"] spSpoil := by
  have G_l_take : okAt P w K mg base CX0 1 "_law_take" ["_law_hand_here", "_law_many"] spTake := ok_l_take T
  have G_l_odd : okAt P w K mg base CX0 2 "_law_odd" ["_law_hand_here"] spOddT := ok_l_odd T
  refine T.d_l_spoiled.F.ok sc_l_spoiled (fun vs H Q E h => ?_) (fun cdv A outer s H vs Q E hr h => ?_)
  · obtain ⟨_, _, _, rfl, _⟩ := h
    rfl
  · obtain ⟨h, a, xs, rfl, A, ha, g, q⟩ := h
    refine ⟨_, (PSs.nox (pss_cons (ps_set (i := 2) sc_l_spoiled.nd rfl (.inr rfl) (pc T.d_l_take G_l_take (hr.mono (by decide)) (pa_cons (pv 0) (pa_cons pe_int pa_nil))))
      (pss_cons (ps_set (i := 3) sc_l_spoiled.nd rfl (.inl rfl) (pc T.d_l_take G_l_take (hr.mono (by decide)) (pa_cons (pv 0) (pa_cons (pe_callB call_len_seq (by rfl) T.b_len PySem.boot_len (pa_cons (pv 1) pa_nil)) pa_nil))))
      (pss_cons (ps_set (i := 4) sc_l_spoiled.nd rfl (.inr rfl) (pc T.d_l_take G_l_take (hr.mono (by decide)) (pa_cons (pv 0) (pa_cons (pe_callB call_len_str (by rfl) T.b_len PySem.boot_len (pa_cons (pe_ix ix_tup (pv 1) (pv 3) (fun _ _ => rfl)) pa_nil)) pa_nil))))
      (pss_cons (ps_set (i := 5) sc_l_spoiled.nd rfl (.inl rfl) (pe_ix ix_tup (pv 1) (pv 3) (fun _ _ => rfl)))
      (Evl.pss_cut (ps_if (pt_cmpR op_eq (pv 2) pe_int (nomark _)) (pss_one (ps_set (i := 5) sc_l_spoiled.nd rfl (.inl rfl) (pe_op op_add_str (pe_op op_add_str (pe_slice sl_str (pv 5) po_none (po_some (pv 4))) (pe_ix ix_str pe_str (pc T.d_l_take G_l_take (hr.mono (by decide)) (pa_cons (pv 0) (pa_cons pe_int pa_nil))) (fun _ _ => rfl))) (pe_slice sl_str (pv 5) (po_some (pe_op op_add (pv 4) pe_int)) po_none)))) (pss_one (ps_if (pt_cmpR op_eq (pv 2) pe_int (nomark _)) (pss_one (ps_set (i := 5) sc_l_spoiled.nd rfl (.inl rfl) (pe_op op_add_str (pe_slice sl_str (pv 5) po_none (po_some (pv 4))) (pe_slice sl_str (pv 5) (po_some (pe_op op_add (pv 4) pe_int)) po_none)))) (pss_one (ps_if (pt_cmpR op_eq (pv 2) pe_int (nomark _)) (pss_one (ps_set (i := 5) sc_l_spoiled.nd rfl (.inl rfl) (pe_op op_add_str (pe_op op_add_str (pe_slice sl_str (pv 5) po_none (po_some (pv 4))) pe_str) (pe_slice sl_str (pv 5) (po_some (pv 4)) po_none)))) (pss_one (ps_if (pt_cmpR op_eq (pv 2) pe_int (nomark _)) (pss_one (ps_set (i := 5) sc_l_spoiled.nd rfl (.inl rfl) (pc T.d_l_odd G_l_odd (hr.mono (by decide)) (pa_cons (pv 0) pa_nil)))) (pss_one (ps_if (pt_cmpR op_eq (pv 2) pe_int (nomark _)) (pss_one (ps_ret (pe_callTy call_list_of (by rfl) T.b_list (by decide +kernel) (pa_cons (pv 1) pa_nil)))) (pss_one (ps_if (pt_cmpR op_eq (pv 2) pe_int (nomark _)) (pss_one (ps_ret (pe_slice sl_tupA (pe_op op_repT (pv 1) pe_int) po_none (po_some (pe_op op_add pe_int (pc T.d_l_take G_l_take (hr.mono (by decide)) (pa_cons (pv 0) (pa_cons pe_int pa_nil)))))))) (pss_one (ps_if (pt_cmpR op_eq (pv 2) pe_int (nomark _)) (pss_one (ps_ret (pe_callTy call_tuple_of (by rfl) T.b_tuple (by decide +kernel) (pa_cons (pe_lc (own := [("_law_row", 6)]) (g := gName 6) (tt := tYes) (by rfl) sc_l_spoiled.nd (pi_tup (pv 1)) (blkOk_by (own := [("_law_row", 6)]) (N := ["_law_hand_here", "_law_rows_here", "_law_way", "_law_at", "_law_place", "_law_other", "_law_row"]) (sc := defScope s_l_spoiled) (by decide +kernel)) (fun _ _ _ _ _ => pg_name (i := 6) sc_l_spoiled.nd rfl (Or.inl rfl)) (fun _ _ _ _ _ => pts_nil) (fun _ _ _ _ _ => (pe_slice sl_str (pe_op op_mulS (pv 6) pe_int) po_none (po_some (pe_op op_add (pe_op op_add pe_int (pe_op op_mod (pv 2) pe_int)) (pe_op op_mod (pv 4) pe_int)))))) pa_nil)))) (pss_one (ps_if (pt_cmpR op_eq (pv 2) pe_int (nomark _)) (pss_one (ps_ret (pc T.d_l_odd G_l_odd (hr.mono (by decide)) (pa_cons (pv 0) pa_nil)))) pss_nil)))))))))))))))
      (pss_one (ps_ret (pe_op op_catA (pe_op op_catA (pe_slice sl_tupA (pv 1) po_none (po_some (pv 3))) (pe_tup (pa_cons (pv 5) pa_nil))) (pe_slice sl_tupA (pv 1) (po_some (pe_op op_add (pv 3) pe_int)) po_none)))))))))), ?_⟩
    have g1 := g.l1
    have g2 := g.l2
    walk_at "go"
    intro way H1 w0 w1 k1
    have A1 := k1.hand
    have ha1 := k1.tup ha
    walk_at "go"
    intro at_ H2 a0 a1 k2
    have A2 := k2.hand
    have ha2 := k2.tup ha1
    obtain ⟨i, rfl⟩ : ∃ i : Nat, at_ = (i : Int) := ⟨at_.toNat, by omega⟩
    have hi : i < xs.length := by omega
    have hx := List.getElem?_eq_getElem hi
    obtain ⟨z, ez, z1, z2, z3, z4⟩ := g.at hx
    rw [ez] at hx
    have ati := atI_nat hx
    have hz : z.length ≤ sizeLine := Nat.le_trans z2 (by decide)
    walk_at "go"
    refine ⟨a, xs, _, _, rfl, rfl, SqT.of ha2, ati, ?_⟩
    walk_at "go"
    intro pl H3 p0 p1 k3
    have A3 := k3.hand
    have ha3 := k3.tup ha2
    have K3 := (k1.trans k2).trans k3
    walk_at "go"
    refine ⟨a, xs, _, _, rfl, rfl, SqT.of ha3, ati, ?_⟩
    walk_at "go"
    refine ⟨fun σ' G => (∃ v o, σ' = [some (.ref h), some (.ref a), some (.int way), some (.int (i : Nat)), some (.int pl), some v, o] ∧ Nc G v ∧ Off h v) ∧ Kp h H G, ?_, fun σ' G md => ?_⟩
    · have fin : ∀ (y : Str) (G : Hp), y.length ≤ 1000 → Kp h H G → (∃ v o, [some (V.ref h), some (.ref a), some (.int way), some (.int (i : Nat)), some (.int pl), some (.str y), none] = [some (.ref h), some (.ref a), some (.int way), some (.int (i : Nat)), some (.int pl), some v, o] ∧ Nc G v ∧ Off h v) ∧ Kp h H G := fun y G hy kG => ⟨⟨_, _, rfl, ⟨.str y, fun z' e => by cases e; exact hy⟩, fun z => nomatch z⟩, kG⟩
      have cl : ∀ lo hi, (cutS z lo hi).length ≤ 40 := fun lo hi => cutS_le z2
      walk_at "go"
      refine ite2 (fun e => ?_) (fun e => ?_)
      · walk_at "go"
        intro r H4 r0 r1 k4
        walk_at "go"
        obtain ⟨c, hc⟩ : ∃ c, atI (" !/:;*-aZ~" : Str).cps.toList r = some c := by
          have e : (" !/:;*-aZ~" : Str).cps.toList = [32, 33, 47, 58, 59, 42, 45, 97, 90, 126] := by decide +kernel
          rw [e]
          have cs : r = 0 ∨ r = 1 ∨ r = 2 ∨ r = 3 ∨ r = 4 ∨ r = 5 ∨ r = 6 ∨ r = 7 ∨ r = 8 ∨ r = 9 := by omega
          rcases cs with rfl | rfl | rfl | rfl | rfl | rfl | rfl | rfl | rfl | rfl <;> exact ⟨_, rfl⟩
        refine ⟨_, _, c, rfl, rfl, (by decide +kernel), hc, ?_⟩
        have l1 : (cutS z none (some pl)).length + (⟨#[c]⟩ : Str).length ≤ 41 := Nat.add_le_add (cl _ _) (Nat.le_refl 1)
        refine ⟨_, _, rfl, rfl, Nat.le_trans l1 (by decide), ?_⟩
        walk_at "go"
        have l2 : (cutS z none (some pl) ++ (⟨#[c]⟩ : Str)).length + (cutS z (some (pl + 1)) none).length ≤ 81 := by
          rw [str_app]
          exact Nat.add_le_add l1 (cl _ _)
        refine ⟨Nat.le_trans l2 (by decide), ?_⟩
        exact fin _ H4 (by rw [str_app]; omega) (K3.trans k4)
      · walk_at "go"
        refine ite2 (fun e => ?_) (fun e => ?_)
        · walk_at "go"
          have l1 : (cutS z none (some pl)).length + (cutS z (some (pl + 1)) none).length ≤ 80 := Nat.add_le_add (cl _ _) (cl _ _)
          refine ⟨Nat.le_trans l1 (by decide), ?_⟩
          exact fin _ H3 (by rw [str_app]; omega) K3
        · walk_at "go"
          refine ite2 (fun e => ?_) (fun e => ?_)
          · walk_at "go"
            have l0 : ("." : Str).length = 1 := by decide +kernel
            have l1 : (cutS z none (some pl)).length + ("." : Str).length ≤ 41 := by rw [l0]; exact Nat.add_le_add (cl _ _) (Nat.le_refl 1)
            refine ⟨Nat.le_trans l1 (by decide), ?_⟩
            walk_at "go"
            have l2 : (cutS z none (some pl) ++ ("." : Str)).length + (cutS z (some pl) none).length ≤ 81 := by
              rw [str_app]
              exact Nat.add_le_add l1 (cl _ _)
            refine ⟨Nat.le_trans l2 (by decide), ?_⟩
            exact fin _ H3 (by rw [str_app]; omega) K3
          · walk_at "go"
            refine ite2 (fun e => ?_) (fun e => ?_)
            · walk_at "go"
              intro v H4 t _ k4
              exact ⟨⟨v, _, rfl, t.nc, t.off⟩, K3.trans k4⟩
            · walk_at "go"
              refine ite2 (fun e => ?_) (fun e => ?_)
              · walk_at "go"
                intro p hp
                exact q _ _ (.ls upd_same (fun z => A3.ne hp (V.ref.inj z))) (K3.same (Same.new hp))
              · walk_at "go"
                refine ite2 (fun e => ?_) (fun e => ?_)
                · walk_at "go"
                  refine ⟨a, 31, xs, rfl, rfl, SqT.of ha3, (fun z => by rw [z] at g1; cases g1), by decide, by decide, by omega, fun t ht => ?_⟩
                  generalize et : upd H3 t _ = G
                  obtain ⟨s1, t1⟩ := new_at ht et
                  have A4 := A3.same s1
                  walk_at "go"
                  intro r H5 r0 r1 k5
                  have t5 := k5.tup t1
                  walk_at "go"
                  refine slA_un t5 (fun p G2 s2 e2 => ?_)
                  have K5 := ((K3.same s1).trans k5).same s2
                  refine q _ _ (.tp e2 (hand_off_tup K5.hand e2) ?_ (fun y hy => g.nc (flat_mem (cutV_mem hy)))) K5
                  refine Nat.le_trans (cutV_length _ _ _) ?_
                  rw [flat_len]
                  show 31 * xs.length ≤ 1000
                  omega
                · walk_at "go"
                  refine ite2 (fun e => ?_) (fun e => ?_)
                  · walk_at "go"
                    obtain ⟨n, hn, hn2⟩ : ∃ n : Nat, 40 + way % 2 + pl % 2 = (n : Int) ∧ n ≤ 42 := ⟨(40 + way % 2 + pl % 2).toNat, by omega, by omega⟩
                    refine ⟨⟨_, SqT.of ha3⟩, ?_⟩
                    intro D hD
                    refine lc_tup (xs := xs) (fun i G => Same H3 G ∧ ∃ us : List V, G D = some (.lst us) ∧ us.length = i ∧ ∀ u ∈ us, Sx u) ⟨Same.new hD, [], upd_same, rfl, fun _ hz => nomatch hz⟩ (fun i G _ p => SqT.of (p.1 _ _ ha3)) (fun i x G hx p => ?_) (fun G p => ?_)
                    · obtain ⟨sm, us, hd, lu, au⟩ := p
                      obtain ⟨y, rfl, y1, y2, y3, y4⟩ := g.at hx
                      have hml := mul_ok y2 (.inr rfl)
                      have hl := len_mul' (z := y) (n := 41) (by decide) y1
                      have hl2 : (PySem.Txt.mul y 41).length ≤ sizeLine := by
                        rw [hl]
                        exact Nat.le_trans (show (41 : Int).toNat * y.length ≤ 1640 by show 41 * y.length ≤ 1640; omega) (by decide)
                      have hi' : i < xs.length := (List.getElem?_eq_some_iff.mp hx).1
                      walk_at "go"
                      rw [hn]
                      walk_at "go"
                      refine ⟨us, hd, Nat.lt_of_le_of_lt (by omega : us.length ≤ 40) (by decide), same_mut sm hD, us ++ [_], upd_same, by rw [List.length_append, lu]; rfl, fun u hu => ?_⟩
                      rcases List.mem_append.mp hu with hu | hu
                      · exact au u hu
                      · rw [List.mem_singleton.mp hu]
                        exact ⟨_, rfl, Nat.le_trans (cut_le _ n) (by omega)⟩
                    · obtain ⟨sm, us, hd, lu, au⟩ := p
                      refine ⟨D, _, rfl, .inl ⟨SqL.of hd, fun t ht => ?_⟩⟩
                      have KF := K3.same (sm.trans (Same.new (o := .tup us) ht))
                      exact q _ _ (.tp upd_same (hand_off_tup KF.hand upd_same) (by omega) (fun u hu => (au u hu).nc)) KF
                  · walk_at "go"
                    refine ite2 (fun e => ?_) (fun e => ?_)
                    · walk_at "go"
                      intro v H4 t _ k4
                      exact q v H4 t (K3.trans k4)
                    · exact fin z H3 (by omega) K3
    · obtain ⟨⟨v, o, rfl, nv, ov⟩, kG⟩ := md
      have haG := kG.tup ha
      have AG := kG.hand
      have lc : ∀ lo hi, (cutV xs lo hi).length ≤ 30 := fun lo hi => Nat.le_trans (cutV_length _ _ _) g2
      walk_at "go"
      refine slA_un haG (fun p1 G1 s1 e1 => ?_)
      walk_at "go"
      intro p2 hp2
      generalize et : upd G1 p2 _ = G2
      obtain ⟨s2, t2⟩ := new_at hp2 et
      have l1 : (cutV xs none (some (i : Int))).length + [v].length ≤ 31 := Nat.add_le_add (lc _ _) (Nat.le_refl 1)
      refine catA_un (s2 _ _ e1) t2 (Nat.le_trans l1 (by decide)) (fun p3 G3 s3 e3 => ?_)
      have ha5 := s3 _ _ (s2 _ _ (s1 _ _ haG))
      walk_at "go"
      dsimp only [tNoPart]
      refine slA_un ha5 (fun p4 G4 s4 e4 => ?_)
      have l2 : (cutV xs none (some (i : Int)) ++ [v]).length + (cutV xs (some ((i : Int) + 1)) none).length ≤ 61 := by
        rw [List.length_append]
        exact Nat.add_le_add l1 (lc _ _)
      refine catA_un (s4 _ _ e3) e4 (Nat.le_trans l2 (by decide)) (fun p5 G5 s5 e5 => ?_)
      have sF := (((s1.trans s2).trans s3).trans s4).trans s5
      have KF := kG.same sF
      refine q _ _ (.tp e5 (hand_off_tup KF.hand e5) ?_ (fun y hy => ?_)) KF
      · rw [List.length_append]
        omega
      · rcases List.mem_append.mp hy with hy | hy
        · rcases List.mem_append.mp hy with hy | hy
          · exact g.nc (cutV_mem hy)
          · rw [List.mem_singleton.mp hy]
            exact ⟨nv.same sF, ov⟩
        · exact g.nc (cutV_mem hy)
end

end K02

set_option Elab.async false
set_option linter.all false
set_option maxRecDepth 100000
set_option maxHeartbeats 4000000
namespace K02
open PySem PySem.Spec PyProof.Rows L2 He Gw
local macro_rules | `(tactic| walk_at "side") => `(tactic| (first | (with_reducible assumption) | ((with_reducible show _ ≤ sizeLine); exact sz_b rfl) | (show (_ : Int) < (_ : Int); first | decide | omega) | (show (0 : Int) < _; first | decide | omega) | exact ⟨by decide, by decide⟩ | exact ⟨by decide, by decide, by decide⟩ | exact ⟨by omega, by omega⟩ | exact .inl ⟨by omega, by omega⟩ | exact .inr ⟨by omega, by omega⟩))
local macro_rules | `(tactic| walk_at "isi") => `(tactic| (first
  | (refine ei_int (by assumption) ?_)
  | (refine ei_bool (by assumption) ?_)
  | (refine ei_str (by assumption) ?_)
  | (refine ei_tuple (by assumption) ?_)
  | (refine ei_list (by assumption) ?_)
  | (refine ei_dict (by assumption) ?_)))
local macro_rules | `(tactic| walk_at "g1") => `(tactic| (first
  | ((with_reducible refine And.intro ?c ?r); (case c => walk_at "side"))
  | refine ⟨_, rfl, ?_⟩
  | (refine ⟨_, ?xs, rfl, .inl (SqL.of ?h), ?r⟩; (case h => with_reducible assumption))
  | (refine ⟨_, ?xs, rfl, .inr (SqT.of ?h), ?r⟩; (case h => with_reducible assumption))
  | (refine ⟨_, ?xs, _, ?v, rfl, rfl, SqL.of ?h, ?e, ?r⟩; (case h => with_reducible assumption); (case e => first | exact rfl | (with_reducible assumption)))
  | (refine ⟨_, ?xs, _, ?j, rfl, rfl, ?h, ?e, ?r⟩; (case h => with_reducible assumption); (case e => first | exact rfl | (with_reducible assumption)))
  | refine ⟨_, _, rfl, rfl, ?_⟩
  | refine .inl ⟨_, rfl, ?_⟩
  | refine ⟨rfl, ?_⟩
  | walk_at "isi"
  | refine ⟨_, _, rfl, ?_⟩
  | refine ⟨_, _, _, rfl, ?_⟩
  | (refine And.intro ?c ?r; (case c => walk_at "side"))))
local macro_rules | `(tactic| walk_at "go") => `(tactic| repeat walk_at "g1")
section
variable {P : Program} {w : World} {K : PySem.W.Frag} {mg : Str → Option Value} {base : Heap}
theorem ok_l_made (T : Txt K mg) : okAt P w K mg base CX0 5 "_law_made" ["_law_rows_here"] spMade := by
  refine T.d_l_made.F.ok sc_l_made (fun vs H Q E h => ?_) (fun cdv A outer s H vs Q E hr h => ?_)
  · obtain ⟨_, _, rfl, _⟩ := h
    rfl
  · obtain ⟨h, v, rfl, t, q⟩ := h
    refine ⟨_, (PSs.nox (pss_one (ps_try_as (i := 2) (tb := _) (ts := _) (Wout := fun _ _ _ _ => False) rfl rfl sc_l_made.nd rfl rfl ⟨rfl, by decide, .inl T.g_BadGround⟩ takes0 (fun W pn xe tk tkP => (pss_cons (ps_set (i := 1) sc_l_made.nd rfl (.inl rfl) (pe_makeS T.c_Ground.mkr (ok_Ground_init T) (hr.mono (by decide)) T.g_Ground T.d_Ground_init.b (fun σ => passAt tk σ) (pa_cons (pv 0) pa_nil)))
      (pss_one (ps_ret (pe_tup (pa_cons pe_str (pa_cons (pe_fldK K (pv 1) rfl (by rfl)) (pa_cons (pe_fldK K (pv 1) rfl (by rfl)) (pa_cons (pe_fldK K (pv 1) rfl (by rfl)) pa_nil))))))))) (fun a oe cls d pn hz hf => (pss_one (ps_ret (pe_tup (pa_cons pe_str (pa_cons (pe_xf T.f_BadGround T.n_BadGround_part hz hf (pv 2)) pa_nil))))))))), ?_⟩
    walk_at "go"
    intro x dx hx hdx ne
    generalize e1 : upd H dx _ = G1
    obtain ⟨s1, t1⟩ := new_at hdx e1
    have hx1 : G1 x = none := by rw [← e1, upd_ne ne.symm]; exact hx
    generalize e2 : upd G1 x _ = G2
    obtain ⟨s2, t2⟩ := new_at hx1 e2
    have s02 := s1.trans s2
    have W := t.nc.1
    have hb := badOf_same W s02
    have back : ∀ G, But x G2 G → Same H G := fun G b c o e => b c o (fun z => by rw [z, hx] at e; cases e) (s02 _ _ e)
    refine ⟨x, dx, h, v, rfl, t2, t.same s02, fun hn a xs ev ha G3 b3 gr => ⟨rfl, ?_⟩, fun k hk d G3 b3 hd => ?_⟩
    · subst ev
      obtain ⟨ha3, gg, dx3, fs, hp3, l1, l2, l3⟩ := gr
      have hn' := hn
      rw [hb] at hn'
      obtain ⟨a', xs', ev', haH, gH⟩ := good_ex hn'
      cases ev'
      have q1 := s02 _ _ haH
      rw [ha] at q1
      cases q1
      walk_at "go"
      refine ⟨x, _, dx3, fs, _, rfl, hp3, T.c_Ground.cl, T.n_Ground_rows, l1, ?_⟩
      walk_at "go"
      refine ⟨x, _, dx3, fs, _, rfl, hp3, T.c_Ground.cl, T.n_Ground_wide, l2, ?_⟩
      walk_at "go"
      refine ⟨x, _, dx3, fs, _, rfl, hp3, T.c_Ground.cl, T.n_Ground_high, l3, ?_⟩
      walk_at "go"
      intro t' ht'
      refine q t' xs _ ((back _ b3).trans (Same.new ht')) (fun _ => ⟨a, rfl, haH⟩) ?_
      rw [hn']
      exact upd_same
    · refine ⟨true, T.m_BadGround_BadGround, fun _ a ha => ?_, fun z => nomatch z⟩
      walk_at "go"
      refine ⟨d, _, _, rfl, hd, rfl, ?_⟩
      walk_at "go"
      intro t' ht'
      rw [hb] at hk
      refine q t' [] _ ((back _ b3).trans (Same.new ht')) (fun z => by rw [hk] at z; cases z) ?_
      rw [hk]
      exact upd_same
theorem ok_l_signed (T : Txt K mg) : okAt P w K mg base CX0 4 "_law_signed" ["_law_ground_here", "_law_x", "_law_y"] (spSigned K) := by
  have G_sign_at : okAt P w K mg base (L2.CX P w) 3 "sign_at" ["ground", "x", "y"] (spSA K) := ok_sign_at T
  refine T.d_l_signed.F.ok sc_l_signed (fun vs H Q E h => ?_) (fun cdv A outer s H vs Q E hr h => ?_)
  · obtain ⟨_, _, _, _, _, rfl, _⟩ := h
    rfl
  · obtain ⟨p, a, xs, v, u, rfl, g, W, Wu, q⟩ := h
    refine ⟨_, (PSs.nox (pss_one (ps_try_many (tb := _) (Wout := fun _ _ _ _ => False) rfl rfl takes0 (fun W pn xe tk tkP => (pss_one (ps_ret (pe_tup (pa_cons pe_str (pa_cons (pcS T.d_sign_at G_sign_at (hr.mono (by decide)) tk (pa_cons (pv 0) (pa_cons (pv 1) (pa_cons (pv 2) pa_nil)))) pa_nil)))))) (HdsOk.cons ⟨by rfl, by decide, .inl T.g_NoNumber⟩ (fun a oe cls d pn hz hf => (pss_one (ps_ret (pe_tup (pa_cons pe_str pa_nil))))) HdsOk.nil)))), ?_⟩
    walk_at "go"
    refine ⟨p, a, xs, v, u, rfl, g, W, Wu, fun x y hv hu => ?_, fun hi => ?_⟩
    · subst hv hu
      walk_at "go"
      exact q
    · refine ⟨true, T.m_NoNumber_NoNumber, fun _ a ha => ?_, fun z => nomatch z⟩
      walk_at "go"
      have e : resS xs v u = [.str "NoNumber"] := by
        cases v <;> first | rfl | skip
        cases u <;> first | rfl | cases hi
      rw [e] at q
      exact q
theorem ok_l_opened (T : Txt K mg) : okAt P w K mg base CX0 5 "_law_opened" ["_law_ground_here", "_law_x", "_law_y", "_law_wide", "_law_high"] (spOpened K) := by
  have G_is_open : okAt P w K mg base (L2.CX P w) 4 "is_open" ["ground", "x", "y", "wide", "high"] (spIO K) := ok_is_open T
  refine T.d_l_opened.F.ok sc_l_opened (fun vs H Q E h => ?_) (fun cdv A outer s H vs Q E hr h => ?_)
  · obtain ⟨_, _, _, _, _, _, _, rfl, _⟩ := h
    rfl
  · obtain ⟨p, a, xs, v, u, w1, h1, rfl, g, Wv, Wu, Ww, Wh, q, qN⟩ := h
    refine ⟨_, (PSs.nox (pss_one (ps_try_many (tb := _) (Wout := fun _ _ _ _ => False) rfl rfl takes0 (fun W pn xe tk tkP => (pss_one (ps_ret (pe_tup (pa_cons pe_str (pa_cons (pcS T.d_is_open G_is_open (hr.mono (by decide)) tk (pa_cons (pv 0) (pa_cons (pv 1) (pa_cons (pv 2) (pa_cons (pv 3) (pa_cons (pv 4) pa_nil)))))) pa_nil)))))) (HdsOk.cons ⟨by rfl, by decide, .inl T.g_NoNumber⟩ (fun a oe cls d pn hz hf => (pss_one (ps_ret (pe_tup (pa_cons pe_str pa_nil))))) HdsOk.nil)))), ?_⟩
    walk_at "go"
    refine ⟨p, a, xs, v, u, w1, h1, rfl, g, Wv, Wu, Ww, Wh, fun x y m n e1 e2 e3 e4 m1 m2 n1 n2 r hr => ?_, fun hi => ?_⟩
    · walk_at "go"
      exact fun t ht => q x y m n e1 e2 e3 e4 m1 m2 n1 n2 r t hr ht
    · refine ⟨true, T.m_NoNumber_NoNumber, fun _ a ha => ?_, fun z => nomatch z⟩
      walk_at "go"
      exact qN hi
end

end K02

set_option Elab.async false
set_option linter.all false
set_option maxRecDepth 100000
set_option maxHeartbeats 4000000
namespace K02
open PySem PySem.Spec PyProof.Rows L2 He Gw
local macro_rules | `(tactic| walk_at "side") => `(tactic| (first | (with_reducible assumption) | ((with_reducible show _ ≤ sizeLine); exact sz_b rfl) | (show (_ : Int) < (_ : Int); first | decide | omega) | (show (0 : Int) < _; first | decide | omega) | exact ⟨by decide, by decide⟩ | exact ⟨by decide, by decide, by decide⟩ | exact ⟨by omega, by omega⟩ | exact .inl ⟨by omega, by omega⟩ | exact .inr ⟨by omega, by omega⟩))
local macro_rules | `(tactic| walk_at "isi") => `(tactic| (first
  | (refine ei_int (by assumption) ?_)
  | (refine ei_bool (by assumption) ?_)
  | (refine ei_str (by assumption) ?_)
  | (refine ei_tuple (by assumption) ?_)
  | (refine ei_list (by assumption) ?_)
  | (refine ei_dict (by assumption) ?_)))
local macro_rules | `(tactic| walk_at "g1") => `(tactic| (first
  | ((with_reducible refine And.intro ?c ?r); (case c => walk_at "side"))
  | refine ⟨_, rfl, ?_⟩
  | (refine ⟨_, ?xs, rfl, .inl (SqL.of ?h), ?r⟩; (case h => with_reducible assumption))
  | (refine ⟨_, ?xs, rfl, .inr (SqT.of ?h), ?r⟩; (case h => with_reducible assumption))
  | (refine ⟨_, ?xs, _, ?v, rfl, rfl, SqL.of ?h, ?e, ?r⟩; (case h => with_reducible assumption); (case e => first | exact rfl | (with_reducible assumption)))
  | (refine ⟨_, ?xs, _, ?j, rfl, rfl, ?h, ?e, ?r⟩; (case h => with_reducible assumption); (case e => first | exact rfl | (with_reducible assumption)))
  | refine ⟨_, _, rfl, rfl, ?_⟩
  | refine .inl ⟨_, rfl, ?_⟩
  | refine ⟨rfl, ?_⟩
  | walk_at "isi"
  | refine ⟨_, _, rfl, ?_⟩
  | refine ⟨_, _, _, rfl, ?_⟩
  | (refine And.intro ?c ?r; (case c => walk_at "side"))))
local macro_rules | `(tactic| walk_at "go") => `(tactic| repeat walk_at "g1")
section
variable {P : Program} {w : World} {K : PySem.W.Frag} {mg : Str → Option Value} {base : Heap}
theorem ok_l_asked (T : Txt K mg) : okAt P w K mg base CX0 6 "_law_asked" ["_law_hand_here", "_law_rows_here", "_law_ground_here"] (spAsked K) := by
  have G_l_same : okAt P w K mg base CX0 3 "_law_same" ["_law_actual", "_law_due"] (spSameB 2) := ok_l_same T 2
  have G_l_opened : okAt P w K mg base CX0 5 "_law_opened" ["_law_ground_here", "_law_x", "_law_y", "_law_wide", "_law_high"] (spOpened K) := ok_l_opened T
  have G_l_signed : okAt P w K mg base CX0 4 "_law_signed" ["_law_ground_here", "_law_x", "_law_y"] (spSigned K) := ok_l_signed T
  have G_l_is_integer : okAt P w K mg base CX0 1 "_law_is_integer" ["_law_thing"] spPlain := ok_l_is_integer T
  have G_l_is_within : okAt P w K mg base CX0 2 "_law_is_within" ["_law_thing", "_law_least", "_law_most"] spWithin := ok_l_is_within T
  have G_l_units_open : okAt P w K mg base CX0 2 "_law_units_open" ["_law_rows_here", "_law_x", "_law_y", "_law_wide", "_law_high"] spUnits := ok_l_units_open T
  have G_l_sign : okAt P w K mg base CX0 1 "_law_sign" ["_law_rows_here", "_law_x", "_law_y"] spLSign := ok_l_sign T
  have G_l_take : okAt P w K mg base CX0 1 "_law_take" ["_law_hand_here", "_law_many"] spTake := ok_l_take T
  have G_l_odd : okAt P w K mg base CX0 2 "_law_odd" ["_law_hand_here"] spOddT := ok_l_odd T
  have G_l_side : okAt P w K mg base CX0 3 "_law_side" ["_law_hand_here"] spSide := ok_l_side T
  have G_l_where : okAt P w K mg base CX0 3 "_law_where" ["_law_hand_here", "_law_long"] spWhere := ok_l_where T
  refine T.d_l_asked.F.ok sc_l_asked (fun vs H Q E h => ?_) (fun cdv A outer s H vs Q E hr h => ?_)
  · obtain ⟨_, _, _, _, rfl, _⟩ := h
    rfl
  · obtain ⟨h, p, a, xs, rfl, A, gr, q⟩ := h
    refine ⟨_, (PSs.nox (pss_cons (ps_set (i := 3) sc_l_asked.nd rfl (.inl rfl) (pc T.d_l_where G_l_where (hr.mono (by decide)) (pa_cons (pv 0) (pa_cons (pe_callB call_len_str (by rfl) T.b_len PySem.boot_len (pa_cons (pe_ix ix_tup (pv 1) pe_int (fun _ _ => rfl)) pa_nil)) pa_nil))))
      (pss_cons (ps_set (i := 4) sc_l_asked.nd rfl (.inl rfl) (pc T.d_l_where G_l_where (hr.mono (by decide)) (pa_cons (pv 0) (pa_cons (pe_callB call_len_seq (by rfl) T.b_len PySem.boot_len (pa_cons (pv 1) pa_nil)) pa_nil))))
      (pss_cons (ps_set (i := 5) sc_l_asked.nd rfl (.inl rfl) (pc T.d_l_side G_l_side (hr.mono (by decide)) (pa_cons (pv 0) pa_nil)))
      (pss_cons (ps_set (i := 6) sc_l_asked.nd rfl (.inl rfl) (pc T.d_l_side G_l_side (hr.mono (by decide)) (pa_cons (pv 0) pa_nil)))
      (Evl.pss_cut (ps_if (pt_cmpR op_eq (pc T.d_l_take G_l_take (hr.mono (by decide)) (pa_cons (pv 0) (pa_cons pe_int pa_nil))) pe_int (nomark _)) (pss_one (ps_set (i := 3) sc_l_asked.nd rfl (.inl rfl) (pc T.d_l_odd G_l_odd (hr.mono (by decide)) (pa_cons (pv 0) pa_nil)))) pss_nil)
      (Evl.pss_cut (ps_if (pt_cmpR op_eq (pc T.d_l_take G_l_take (hr.mono (by decide)) (pa_cons (pv 0) (pa_cons pe_int pa_nil))) pe_int (nomark _)) (pss_one (ps_set (i := 4) sc_l_asked.nd rfl (.inl rfl) (pc T.d_l_odd G_l_odd (hr.mono (by decide)) (pa_cons (pv 0) pa_nil)))) pss_nil)
      (pss_cons (ps_set (i := 7) sc_l_asked.nd rfl (.inl rfl) (pe_tup (pa_cons pe_str pa_nil)))
      (pss_cons (ps_set (i := 8) sc_l_asked.nd rfl (.inl rfl) (pe_tup (pa_cons pe_str pa_nil)))
      (Evl.pss_cut (ps_if (PW.pt (pw_and (pt_val (pc T.d_l_is_integer G_l_is_integer (hr.mono (by decide)) (pa_cons (pv 3) pa_nil))) (pw_and1 (pt_val (pc T.d_l_is_integer G_l_is_integer (hr.mono (by decide)) (pa_cons (pv 4) pa_nil)))))) (pss_cons (ps_set (i := 7) sc_l_asked.nd rfl (.inl rfl) (pe_tup (pa_cons pe_str (pa_cons (pc T.d_l_sign G_l_sign (hr.mono (by decide)) (pa_cons (pv 1) (pa_cons (pv 3) (pa_cons (pv 4) pa_nil)))) pa_nil))))
      (pss_one (ps_if (PW.pt (pw_and (pt_val (pc T.d_l_is_within G_l_is_within (hr.mono (by decide)) (pa_cons (pv 5) (pa_cons pe_int (pa_cons pe_int pa_nil))))) (pw_and1 (pt_val (pc T.d_l_is_within G_l_is_within (hr.mono (by decide)) (pa_cons (pv 6) (pa_cons pe_int (pa_cons pe_int pa_nil)))))))) (pss_one (ps_set (i := 8) sc_l_asked.nd rfl (.inl rfl) (pe_tup (pa_cons pe_str (pa_cons (pc T.d_l_units_open G_l_units_open (hr.mono (by decide)) (pa_cons (pv 1) (pa_cons (pv 3) (pa_cons (pv 4) (pa_cons (pv 5) (pa_cons (pv 6) pa_nil)))))) pa_nil))))) pss_nil))) pss_nil)
      (pss_cons (ps_if (pt_not (pt_val (pc T.d_l_same G_l_same (hr.mono (by decide)) (pa_cons (pc T.d_l_signed G_l_signed (hr.mono (by decide)) (pa_cons (pv 2) (pa_cons (pv 3) (pa_cons (pv 4) pa_nil)))) (pa_cons (pv 7) pa_nil))))) (pss_one (ps_ret pe_bl)) pss_nil)
      (pss_one (ps_ret (pc T.d_l_same G_l_same (hr.mono (by decide)) (pa_cons (pc T.d_l_opened G_l_opened (hr.mono (by decide)) (pa_cons (pv 2) (pa_cons (pv 3) (pa_cons (pv 4) (pa_cons (pv 5) (pa_cons (pv 6) pa_nil)))))) (pa_cons (pv 8) pa_nil)))))))))))))))), ?_⟩
    have ha := gr.1
    have g := gr.2.1
    have h0 : 0 < xs.length := g.l1
    have g2 := g.l2
    obtain ⟨z0, hz0, y1, y2, _, y3⟩ := g.at (List.getElem?_eq_getElem h0)
    have hx0 : atI xs 0 = some (.str z0) := by rw [← hz0]; exact atI_nat (j := 0) (List.getElem?_eq_getElem h0)
    have hz : z0.length ≤ sizeLine := Nat.le_trans y2 (by decide)
    walk_at "go"
    refine ⟨a, xs, 0, _, rfl, rfl, SqT.of ha, hx0, ?_⟩
    walk_at "go"
    (first | refine ⟨by omega, by omega, ?_⟩ | refine ⟨by omega, ?_⟩ | skip)
    intro x H1 x1 x2 k1
    have A1 := k1.hand
    have ha1 := k1.tup ha
    walk_at "go"
    (first | refine ⟨by omega, by omega, ?_⟩ | refine ⟨by omega, ?_⟩ | skip)
    intro y H2 y1 y2 k2
    have A2 := k2.hand
    walk_at "go"
    intro w H3 Ww k3
    have A3 := k3.hand
    walk_at "go"
    intro hh H4 Wh k4
    have A4 := k4.hand
    have K4 := ((k1.trans k2).trans k3).trans k4
    walk_at "go"
    refine ⟨fun σ' G => (∃ v, σ' = [some (.ref h), some (.ref a), some (.ref p), some v, some (.int y), some w, some hh, none, none] ∧ Wt G v ∧ Off h v) ∧ Kp h H G, ?_, fun σ' G md => ?_⟩
    · walk_at "go"
      intro r H5 r0 r1 k5
      have A5 := k5.hand
      walk_at "go"
      refine ite2 (fun e => ?_) (fun e => ?_)
      · walk_at "go"
        intro v H6 t _ k6
        exact ⟨⟨v, rfl, t.nc.1, t.off⟩, (K4.trans k5).trans k6⟩
      · exact ⟨⟨_, rfl, .int _, fun z => nomatch z⟩, K4.trans k5⟩
    · obtain ⟨⟨v, rfl, Wv, ov⟩, K5⟩ := md
      have A5 := K5.hand
      refine ⟨fun σ' G => (∃ v u, σ' = [some (.ref h), some (.ref a), some (.ref p), some v, some u, some w, some hh, none, none] ∧ Wt G v ∧ Wt G u) ∧ Kp h H G, ?_, fun σ' G md => ?_⟩
      · walk_at "go"
        intro r H5 r0 r1 k5
        have A6 := k5.hand
        walk_at "go"
        refine ite2 (fun e => ?_) (fun e => ?_)
        · walk_at "go"
          intro u H6 t _ k6
          exact ⟨⟨v, u, rfl, Wv.but ov (k5.trans k6).but, t.nc.1⟩, (K5.trans k5).trans k6⟩
        · exact ⟨⟨v, _, rfl, Wv.but ov k5.but, .int _⟩, K5.trans k5⟩
      · clear A1 A2 A3 A4 A5 Wv ov K5 K4 k1 k2 k3 k4
        obtain ⟨⟨v, u, rfl, Wv, Wu⟩, K6⟩ := md
        have gr6 := gr.kp K6
        walk_at "go"
        intro s1 hs1
        generalize eS : upd G s1 _ = G1
        obtain ⟨m1, ts1⟩ := new_at hs1 eS
        walk_at "go"
        intro o1 ho1
        generalize eO : upd G1 o1 _ = G2
        obtain ⟨m2, to1⟩ := new_at ho1 eO
        have m02 := m1.trans m2
        refine ⟨fun σ' G' => (∃ s o ss os, σ' = [some (.ref h), some (.ref a), some (.ref p), some v, some u, some w, some hh, some (.ref s), some (.ref o)] ∧ G' s = some (.tup (resS xs v u)) ∧ G' o = some (.tup os) ∧ ResO xs v u w hh os ∧ ss = 0) ∧ Same G G', ?_, fun σ' G' md => ?_⟩
        · have W2v := Wv.same m02
          have W2u := Wu.same m02
          have ha6 := (gr6.same m02).1
          have noI : okO v u w hh = false → ResO xs v u w hh [.str "NoNumber"] := fun e => ⟨(fun x y m n e1 e2 e3 e4 m1 m2 n1 n2 => by
            subst e1 e2 e3 e4
            have c : okO (.int x) (.int y) (.int m) (.int n) = true := by
              show (true && true && (btw 1 32 (.int m) && btw 1 32 (.int n))) = true
              show (true && true && ((decide _ && decide _) && (decide _ && decide _))) = true
              rw [decide_eq_true m1, decide_eq_true m2, decide_eq_true n1, decide_eq_true n2]; rfl
            rw [c] at e
            cases e), fun _ => rfl⟩
          walk_at "go"
          refine ite2 (fun e => ?_) (fun e => ?_)
          · walk_at "go"
            refine ite2 (fun e2 => ?_) (fun e2 => ?_)
            · cases v <;> try cases e
              cases u <;> try cases e2
              rename_i x' y'
              walk_at "go"
              refine ⟨a, xs, x', y', rfl, ha6, g, ?_⟩
              walk_at "go"
              intro t ht
              generalize eT : upd G2 t _ = G3
              obtain ⟨m3, tt⟩ := new_at ht eT
              have m03 := m02.trans m3
              have ha7 := m3 _ _ ha6
              have W3w := Ww G3
              have W3h := Wh G3
              walk_at "go"
              refine ite2 (fun e3 => ?_) (fun e3 => ?_)
              · walk_at "go"
                refine ite2 (fun e4 => ?_) (fun e4 => ?_)
                · obtain ⟨m, rfl, m1', m2'⟩ := btw_int e3
                  obtain ⟨n, rfl, n1', n2'⟩ := btw_int e4
                  walk_at "go"
                  refine ⟨a, xs, x', y', m, n, rfl, ha7, g, m1', m2', n1', n2', fun r hr => ?_⟩
                  walk_at "go"
                  intro t4 ht4
                  refine ⟨⟨t, t4, 0, _, rfl, (Same.new ht4) _ _ tt, upd_same, ⟨fun x y m n e1 e2 e3 e4 _ _ _ _ => ?_, fun z => ?_⟩, rfl⟩, m03.trans (Same.new ht4)⟩
                  · cases e1; cases e2; cases e3; cases e4
                    exact ⟨r, hr, rfl⟩
                  · have c : okO (.int x') (.int y') (.int m) (.int n) = true := by
                      show (true && true && (btw 1 32 (.int m) && btw 1 32 (.int n))) = true
                      rw [show btw 1 32 (.int m) = true from e3, show btw 1 32 (.int n) = true from e4]; rfl
                    rw [c] at z
                    cases z
                · exact ⟨⟨t, o1, 0, _, rfl, tt, m3 _ _ to1, noI (by
                    show (true && true && (btw 1 32 w && btw 1 32 hh)) = false
                    rw [Bool.eq_false_iff.mpr e4, Bool.and_false]; rfl), rfl⟩, m03⟩
              · exact ⟨⟨t, o1, 0, _, rfl, tt, m3 _ _ to1, noI (by
                  show (true && true && (btw 1 32 w && btw 1 32 hh)) = false
                  rw [Bool.eq_false_iff.mpr e3, Bool.false_and]; rfl), rfl⟩, m03⟩
            · have eu : isI u = false := Bool.eq_false_iff.mpr e2
              have er : resS xs v u = [.str "NoNumber"] := by
                cases u <;> first | exact Bool.noConfusion eu | (cases v <;> rfl)
              exact ⟨⟨s1, o1, 0, _, rfl, by rw [er]; exact m2 _ _ ts1, to1, noI (by show (isI v && isI u && _) = false; rw [eu, Bool.and_false, Bool.false_and]), rfl⟩, m02⟩
          · have ev : isI v = false := Bool.eq_false_iff.mpr e
            have er : resS xs v u = [.str "NoNumber"] := by
              cases v <;> first | rfl | cases ev
            walk_at "go"
            refine ite2 (fun z => absurd z (by decide)) (fun _ => ?_)
            exact ⟨⟨s1, o1, 0, _, rfl, by rw [er]; exact m2 _ _ ts1, to1, noI (by show (isI v && isI u && _) = false; rw [ev, Bool.false_and, Bool.false_and]), rfl⟩, m02⟩
        · obtain ⟨⟨s, o, _, os, rfl, ts, to, ro, _⟩, mm⟩ := md
          have gr7 := gr6.same mm
          have W2v := Wv.same mm
          have W2u := Wu.same mm
          walk_at "go"
          refine ⟨p, a, xs, v, u, rfl, gr7, W2v, W2u, fun t ht => ?_⟩
          generalize eT : upd G' t _ = G3
          obtain ⟨m3, tt⟩ := new_at ht eT
          walk_at "go"
          refine ⟨SmB.tups tt (m3 _ _ ts) (resS_flat xs v u), fun G4 m4 => ?_⟩
          have m34 := m3.trans m4
          have gr8 := gr7.same m34
          have W4v := W2v.same m34
          have W4u := W2u.same m34
          have to4 := m34 _ _ to
          walk_at "go"
          refine ⟨p, a, xs, v, u, w, hh, rfl, gr8, W4v, W4u, Ww _, Wh _, fun x y m n e1 e2 e3 e4 m1 m2 n1 n2 r t2 hr ht2 => ?_, fun hi t2 ht2 => ?_⟩
          · obtain ⟨r', hr', eos⟩ := ro.yes x y m n e1 e2 e3 e4 m1 m2 n1 n2
            have er : r = r' := Bool.eq_iff_iff.mpr (hr.trans hr'.symm)
            subst er
            generalize eT2 : upd G4 t2 _ = G5
            obtain ⟨m5, tt2⟩ := new_at ht2 eT2
            rw [eos] at to4
            walk_at "go"
            refine ⟨SmB.tups tt2 (m5 _ _ to4) (by intro x hx; simp only [List.mem_cons, List.not_mem_nil, or_false] at hx; rcases hx with rfl | rfl <;> rfl), fun G6 m6 => ?_⟩
            exact q _ (K6.same (((mm.trans m34).trans m5).trans m6))
          · have eos := ro.no hi
            generalize eT2 : upd G4 t2 _ = G5
            obtain ⟨m5, tt2⟩ := new_at ht2 eT2
            rw [eos] at to4
            walk_at "go"
            refine ⟨SmB.tups tt2 (m5 _ _ to4) (by intro x hx; simp only [List.mem_cons, List.not_mem_nil, or_false] at hx; subst hx; rfl), fun G6 m6 => ?_⟩
            exact q _ (K6.same (((mm.trans m34).trans m5).trans m6))
end

end K02

set_option Elab.async false
set_option linter.all false
set_option maxRecDepth 100000
set_option maxHeartbeats 4000000
namespace K02
open PySem PySem.Spec PyProof.Rows L2 He Gw
local macro_rules | `(tactic| walk_at "side") => `(tactic| (first | (with_reducible assumption) | ((with_reducible show _ ≤ sizeLine); exact sz_b rfl) | (show (_ : Int) < (_ : Int); first | decide | omega) | (show (0 : Int) < _; first | decide | omega) | exact ⟨by decide, by decide⟩ | exact ⟨by decide, by decide, by decide⟩ | exact ⟨by omega, by omega⟩ | exact .inl ⟨by omega, by omega⟩ | exact .inr ⟨by omega, by omega⟩))
local macro_rules | `(tactic| walk_at "isi") => `(tactic| (first
  | (refine ei_int (by assumption) ?_)
  | (refine ei_bool (by assumption) ?_)
  | (refine ei_str (by assumption) ?_)
  | (refine ei_tuple (by assumption) ?_)
  | (refine ei_list (by assumption) ?_)
  | (refine ei_dict (by assumption) ?_)))
local macro_rules | `(tactic| walk_at "g1") => `(tactic| (first
  | ((with_reducible refine And.intro ?c ?r); (case c => walk_at "side"))
  | refine ⟨_, rfl, ?_⟩
  | (refine ⟨_, ?xs, rfl, .inl (SqL.of ?h), ?r⟩; (case h => with_reducible assumption))
  | (refine ⟨_, ?xs, rfl, .inr (SqT.of ?h), ?r⟩; (case h => with_reducible assumption))
  | (refine ⟨_, ?xs, _, ?v, rfl, rfl, SqL.of ?h, ?e, ?r⟩; (case h => with_reducible assumption); (case e => first | exact rfl | (with_reducible assumption)))
  | (refine ⟨_, ?xs, _, ?j, rfl, rfl, ?h, ?e, ?r⟩; (case h => with_reducible assumption); (case e => first | exact rfl | (with_reducible assumption)))
  | refine ⟨_, _, rfl, rfl, ?_⟩
  | refine .inl ⟨_, rfl, ?_⟩
  | refine ⟨rfl, ?_⟩
  | walk_at "isi"
  | refine ⟨_, _, rfl, ?_⟩
  | refine ⟨_, _, _, rfl, ?_⟩
  | (refine And.intro ?c ?r; (case c => walk_at "side"))))
local macro_rules | `(tactic| walk_at "go") => `(tactic| repeat walk_at "g1")
section
variable {P : Program} {w : World} {K : PySem.W.Frag} {mg : Str → Option Value} {base : Heap}
theorem ok_Ground_init0 (T : Txt K mg) : FnOk P w K mg base CX0 3 (ma K (ga K "Ground") "__init__") (fdAt K (ma K (ga K "Ground") "__init__")) ["self", "rows"] (spGI0 K) := noraise (ok_Ground_init T) fun vs H Q E h => by
  obtain ⟨p, dx, a, xs, rfl, hp, ha, g, q⟩ := h
  refine ⟨p, dx, p, .ref a, rfl, hp, .good ha (fun z => by rw [z, hp] at ha; cases ha) g, fun hn a' xs' ev e H' b gr => ?_, fun k hk => by rw [badOf_good ha g] at hk; cases hk⟩
  cases ev
  rw [ha] at e
  cases e
  exact q H' b gr
theorem ok_law (T : Txt K mg) : okAt P w K mg base CX0 7 "law" ["_law_script"] (spLaw K) := by
  have G_l_asked : okAt P w K mg base CX0 6 "_law_asked" ["_law_hand_here", "_law_rows_here", "_law_ground_here"] (spAsked K) := ok_l_asked T
  have G_l_same : okAt P w K mg base CX0 4 "_law_same" ["_law_actual", "_law_due"] (spSameB 3) := ok_l_same T 3
  have G_l_made : okAt P w K mg base CX0 5 "_law_made" ["_law_rows_here"] spMade := ok_l_made T
  have G_l_first_bad : okAt P w K mg base CX0 1 "_law_first_bad" ["_law_thing"] spFirst := ok_l_first_bad T
  have G_l_spoiled : okAt P w K mg base CX0 3 "_law_spoiled" ["_law_hand_here", "_law_rows_here"] spSpoil := ok_l_spoiled T
  have G_l_large : okAt P w K mg base CX0 5 "_law_large" ["_law_hand_here"] spGround := ok_l_large T
  have G_l_hand : okAt P w K mg base CX0 1 "_law_hand" ["_law_script"] (spHand K) := ok_l_hand T
  refine T.d_law.F.ok sc_law (fun vs H Q E h => ?_) (fun cdv A outer s H vs Q E hr h => ?_)
  · obtain ⟨_, _, rfl, _⟩ := h
    rfl
  · obtain ⟨sc, ns, rfl, hS, q⟩ := h
    refine ⟨_, (PSs.nox (pss_cons (ps_set (i := 1) sc_law.nd rfl (.inl rfl) (pc T.d_l_hand G_l_hand (hr.mono (by decide)) (pa_cons (pv 0) pa_nil)))
      (pss_cons (ps_set (i := 2) sc_law.nd rfl (.inl rfl) (pc T.d_l_large G_l_large (hr.mono (by decide)) (pa_cons (pv 1) pa_nil)))
      (pss_cons (ps_set (i := 3) sc_law.nd rfl (.inl rfl) (pc T.d_l_spoiled G_l_spoiled (hr.mono (by decide)) (pa_cons (pv 1) (pa_cons (pv 2) pa_nil))))
      (pss_cons (ps_set (i := 4) sc_law.nd rfl (.inl rfl) (pc T.d_l_first_bad G_l_first_bad (hr.mono (by decide)) (pa_cons (pv 3) pa_nil)))
      (pss_cons (ps_set (i := 5) sc_law.nd rfl (.inl rfl) (pe_tup (pa_cons pe_str (pa_cons (pv 4) pa_nil))))
      (Evl.pss_cut (ps_if (pt_cmpR op_isN (pv 4) pe_non (nomark _)) (pss_one (ps_set (i := 5) sc_law.nd rfl (.inl rfl) (pe_tup (pa_cons pe_str (pa_cons (pv 3) (pa_cons (pe_op op_mul pe_int (pe_callB call_len_str (by rfl) T.b_len PySem.boot_len (pa_cons (pe_ix ix_tup (pv 3) pe_int (fun _ _ => rfl)) pa_nil))) (pa_cons (pe_op op_mul pe_int (pe_callB call_len_seq (by rfl) T.b_len PySem.boot_len (pa_cons (pv 3) pa_nil))) pa_nil))))))) pss_nil)
      (pss_cons (ps_if (pt_not (pt_val (pc T.d_l_same G_l_same (hr.mono (by decide)) (pa_cons (pc T.d_l_made G_l_made (hr.mono (by decide)) (pa_cons (pv 3) pa_nil)) (pa_cons (pv 5) pa_nil))))) (pss_one (ps_ret pe_bl)) pss_nil)
      (pss_cons (ps_if (pt_not (pt_val (pc T.d_l_same G_l_same (hr.mono (by decide)) (pa_cons (pc T.d_l_made G_l_made (hr.mono (by decide)) (pa_cons (pv 2) pa_nil)) (pa_cons (pe_tup (pa_cons pe_str (pa_cons (pv 2) (pa_cons (pe_op op_mul pe_int (pe_callB call_len_str (by rfl) T.b_len PySem.boot_len (pa_cons (pe_ix ix_tup (pv 2) pe_int (fun _ _ => rfl)) pa_nil))) (pa_cons (pe_op op_mul pe_int (pe_callB call_len_seq (by rfl) T.b_len PySem.boot_len (pa_cons (pv 2) pa_nil))) pa_nil))))) pa_nil))))) (pss_one (ps_ret pe_bl)) pss_nil)
      (pss_cons (ps_set (i := 6) sc_law.nd rfl (.inl rfl) (pe_make T.c_Ground.mkr (ok_Ground_init0 T) (hr.mono (by decide)) (by rfl) T.g_Ground T.d_Ground_init.b .nil pass0 (pa_cons (pv 2) pa_nil)))
      (pss_cons (ps_for PassesOwn.never rfl (pi_range1 (by rfl) T.b_range (pa_cons pe_int pa_nil)) (pg_name (i := 7) sc_law.nd rfl (.inl rfl)) (pss_one (ps_if (pt_not (pt_val (pc T.d_l_asked G_l_asked (hr.mono (by decide)) (pa_cons (pv 1) (pa_cons (pv 2) (pa_cons (pv 6) pa_nil)))))) (pss_one (ps_ret pe_bl)) pss_nil)))
      (Evl.pss_cut (ps_if (PW.pt (pw_and (pt_cmpR op_isN (pv 4) pe_non (nomark _)) (pw_and1 (pt_cmpR op_ne (pe_cmpR (op_ownEq (ok_Ground_eq T) (hr.mono (by decide)) T.c_Ground.eq T.c_Ground.eqf T.d_Ground_eq.b pass0) (pe_make T.c_Ground.mkr (ok_Ground_init0 T) (hr.mono (by decide)) (by rfl) T.g_Ground T.d_Ground_init.b .nil pass0 (pa_cons (pv 3) pa_nil)) (pv 6) (nomark _)) (pe_cmpR (op_eqD hr.units) (pv 3) (pv 2) (nomark _)) (nomark _))))) (pss_one (ps_ret pe_bl)) pss_nil)
      (pss_one (ps_ret (pe_cmpR (op_ownEq (ok_Ground_eq T) (hr.mono (by decide)) T.c_Ground.eq T.c_Ground.eqf T.d_Ground_eq.b pass0) (pe_make T.c_Ground.mkr (ok_Ground_init0 T) (hr.mono (by decide)) (by rfl) T.g_Ground T.d_Ground_init.b .nil pass0 (pa_cons (pv 2) pa_nil)) (pv 6) (nomark _)))))))))))))))), ?_⟩
    refine ⟨_, rfl, sc, ns, rfl, hS, fun h H0 nh A0 s0 => ?_⟩
    walk_at "go"
    intro a xs H1 ha g k1
    have A1 := k1.hand
    walk_at "go"
    refine ⟨h, a, xs, rfl, A1, ha, g, fun v H2 th k2 => ?_⟩
    have A2 := k2.hand
    have ha2 := k2.tup ha
    walk_at "go"
    refine ⟨h, v, rfl, th, fun H3 s3 => ?_⟩
    have A3 := A2.same s3
    have th3 := th.same s3
    have ha3 := s3 _ _ ha2
    have hb3 := badOf_same th.nc.1 s3
    generalize badOf H2 v = b at hb3
    walk_at "go"
    intro d0 hd0
    generalize eD : upd H3 d0 _ = H4
    obtain ⟨s4, td0⟩ := new_at hd0 eD
    refine ⟨fun σ' G => (∃ d ys, σ' = [some (.ref sc), some (.ref h), some (.ref a), some v, some (badV b), some (.ref d), none, none] ∧ (b = none → ∃ a', v = .ref a' ∧ H3 a' = some (.tup ys) ∧ GoodL ys) ∧ G d = some (.tup (resM v ys b))) ∧ Same H3 G, ?_, fun σ' G md => ?_⟩
    · cases b with
      | some k =>
        walk_at "go"
        refine ite2 (fun z => absurd (of_decide_eq_true z) (fun q => nomatch q)) (fun _ => ?_)
        exact ⟨⟨d0, [], rfl, (fun z => nomatch z), td0⟩, s4⟩
      | none =>
        obtain ⟨a', ys, rfl, ha', gy⟩ := good_ex hb3
        have h0 : 0 < ys.length := gy.l1
        obtain ⟨z0, hz0, y1, y2, _, y3⟩ := gy.at (List.getElem?_eq_getElem h0)
        have hx0 : atI ys 0 = some (.str z0) := by rw [← hz0]; exact atI_nat (j := 0) (List.getElem?_eq_getElem h0)
        have hz : z0.length ≤ sizeLine := Nat.le_trans y2 (by decide)
        have ha4 := s4 _ _ ha'
        walk_at "go"
        refine ⟨a', ys, 0, _, rfl, rfl, SqT.of ha4, hx0, ?_⟩
        walk_at "go"
        intro d1 hd1
        refine ⟨⟨d1, ys, rfl, fun _ => ⟨a', rfl, ha', gy⟩, ?_⟩, s4.trans (Same.new hd1)⟩
        rw [upd_same]
        show _ = some (HO.tup [.str "told", .ref a', .int (8 * (wid ys : Nat)), .int (8 * (ys.length : Nat))])
        rw [← y3]
    · obtain ⟨⟨d, ys, rfl, hby, td⟩, s5⟩ := md
      have A5 := A3.same s5
      have th5 := th3.same s5
      have ha5 := s5 _ _ ha3
      walk_at "go"
      have hbG : badOf G v = b := (badOf_same th3.nc.1 s5).trans hb3
      have hx : ∀ xs1, (badOf G v = none → ∃ a, v = .ref a ∧ G a = some (.tup xs1)) → resM v xs1 b = resM v ys b := fun xs1 hb1 => by
        cases b with
        | some k => rfl
        | none =>
          obtain ⟨a1, ev, e1⟩ := hb1 hbG
          obtain ⟨a2, ev2, e2, _⟩ := hby rfl
          rw [ev] at ev2
          cases ev2
          rw [s5 _ _ e2] at e1
          cases e1
          rfl
      walk_at "go"
      refine ⟨h, v, rfl, th5, fun t xs1 H6 s6 hb1 ht => ?_⟩
      rw [hbG, hx xs1 hb1] at ht
      have A6 := A5.same s6
      have ha6 := s6 _ _ ha5
      have s56 := s5.trans s6
      walk_at "go"
      refine ⟨sm_made ht (s6 _ _ td) (fun z => let ⟨a', e1, e2, e3⟩ := hby z; ⟨a', e1, s56 _ _ e2, e3⟩), fun H7 s7 => ?_⟩
      have A7 := A6.same s7
      have ha7 := s7 _ _ ha6
      have s57 := s56.trans s7
      have h0 : 0 < xs.length := g.l1
      have g2 := g.l2
      obtain ⟨z0, hz0, y1, y2, _, y3⟩ := g.at (List.getElem?_eq_getElem h0)
      have hx0 : atI xs 0 = some (.str z0) := by rw [← hz0]; exact atI_nat (j := 0) (List.getElem?_eq_getElem h0)
      have hz : z0.length ≤ sizeLine := Nat.le_trans y2 (by decide)
      walk_at "go"
      refine ⟨h, .ref a, rfl, Th.goodH A7 ha7 g, fun t2 xs2 H8 s8 hb2 ht2 => ?_⟩
      obtain ⟨a2, ea2, e2⟩ := hb2 (badOf_good ha7 g)
      cases ea2
      rw [ha7] at e2
      cases e2
      rw [badOf_good ha7 g] at ht2
      have A8 := A7.same s8
      have ha8 := s8 _ _ ha7
      walk_at "go"
      refine ⟨a, xs, 0, _, rfl, rfl, SqT.of ha8, hx0, ?_⟩
      walk_at "go"
      intro d2 hd2
      generalize eD2 : upd H8 d2 _ = H9
      obtain ⟨s9, td2⟩ := new_at hd2 eD2
      have ha9 := s9 _ _ ha8
      have A9 := A8.same s9
      have td2' : H9 d2 = some (.tup (resM (.ref a) xs none)) := by
        rw [y3] at td2
        exact td2
      walk_at "go"
      refine ⟨sm_made (s9 _ _ ht2) td2' (fun _ => ⟨a, rfl, ha9, g⟩), fun H10 s10 => ?_⟩
      have A10 := A9.same s10
      have ha10 := s10 _ _ ha9
      have s310 := ((s57.trans s8).trans s9).trans s10
      clear A5 A6 A7 A8 A9 ha5 ha6 ha7 ha8 ha9 td2 td2' eD2 ht2 ht
      walk_at "go"
      intro x dx hx hdx ne
      generalize e1 : upd H10 dx _ = G1
      obtain ⟨m1, t1⟩ := new_at hdx e1
      have hx1 : G1 x = none := by rw [← e1, upd_ne ne.symm]; exact hx
      generalize e2 : upd G1 x _ = G2
      obtain ⟨m2, t2'⟩ := new_at hx1 e2
      have m02 := m1.trans m2
      refine ⟨x, dx, a, xs, rfl, t2', m02 _ _ ha10, g, fun G3 b3 gr => ⟨rfl, ?_⟩⟩
      have m03 : Same H10 G3 := fun c o e => b3 c o (fun z => by rw [z, hx] at e; cases e) (m02 _ _ e)
      have A11 := A10.same m03
      have s311 := s310.trans m03
      clear A10 ha10 e1 e2 t1 t2' hx1
      walk_at "go"
      refine ⟨by decide, by decide, ?_⟩
      refine for_range (lo := 0) (n := 5) (fun i σ' G => (∃ o, σ' = [some (.ref sc), some (.ref h), some (.ref a), some v, some (badV b), some (.ref d), some (.ref x), o]) ∧ Kp h G3 G) ⟨⟨_, rfl⟩, Kp.refl A11⟩ (fun i σ' G' hi z => ?_) (fun σ' G' z => ?_)
      · obtain ⟨⟨o, rfl⟩, kk⟩ := z
        have gr' := gr.kp kk
        have A12 := kk.hand
        walk_at "go"
        refine ⟨h, x, a, xs, rfl, A12, gr', fun G'' k' => ?_⟩
        walk_at "go"
        exact ⟨⟨_, rfl⟩, kk.trans k'⟩
      · obtain ⟨⟨o, rfl⟩, kk⟩ := z
        have gr' := gr.kp kk
        have ha12 := gr'.1
        clear A11
        refine ⟨fun σ' G => (∃ o, σ' = [some (.ref sc), some (.ref h), some (.ref a), some v, some (badV b), some (.ref d), some (.ref x), o]) ∧ Same G' G, ?_, fun σ' G md => ?_⟩
        · cases b with
          | some k =>
            walk_at "go"
            refine ite2 (fun z => absurd (of_decide_eq_true z) (fun q => nomatch q)) (fun _ => ?_)
            exact ⟨⟨_, rfl⟩, Same.refl _⟩
          | none =>
            obtain ⟨a', ev, ea3, gy⟩ := hby rfl
            subst ev
            have ea' := kk.tup (s311 _ _ ea3)
            walk_at "go"
            intro x2 dx2 hx2 hdx2 ne2
            generalize e1 : upd G' dx2 _ = G1
            obtain ⟨m1, t1⟩ := new_at hdx2 e1
            have hx1 : G1 x2 = none := by rw [← e1, upd_ne ne2.symm]; exact hx2
            generalize e2 : upd G1 x2 _ = G2
            obtain ⟨m2, t2'⟩ := new_at hx1 e2
            have m02 := m1.trans m2
            refine ⟨x2, dx2, a', ys, rfl, t2', m02 _ _ ea', gy, fun G5 b5 gr5 => ⟨rfl, ?_⟩⟩
            have m05 : Same G' G5 := fun c o e => b5 c o (fun z => by rw [z, hx2] at e; cases e) (m02 _ _ e)
            have gr6 := gr'.same m05
            obtain ⟨_, _, dA, fA, hA, _⟩ := id gr5
            obtain ⟨_, _, dB, fB, hB, _⟩ := id gr6
            walk_at "go"
            refine ⟨x2, x, dA, dB, fA, fB, rfl, rfl, hA, hB, ⟨x2, x, a', a, ys, xs, rfl, gr5, gr6, ⟨_, rfl, ?_⟩⟩⟩
            walk_at "go"
            refine eqD_good gy g (m05 _ _ ea') (m05 _ _ ha12) ?_
            walk_at "go"
            refine ite2 (fun z => absurd z (by rw [decide_eq_true rfl]; decide)) (fun _ => ?_)
            exact ⟨⟨_, rfl⟩, m05⟩
        · obtain ⟨⟨o, rfl⟩, mm⟩ := md
          have gr2 := gr'.same mm
          walk_at "go"
          intro x2 dx2 hx2 hdx2 ne2
          generalize e1 : upd G dx2 _ = G1
          obtain ⟨m1, t1⟩ := new_at hdx2 e1
          have hx1 : G1 x2 = none := by rw [← e1, upd_ne ne2.symm]; exact hx2
          generalize e2 : upd G1 x2 _ = G2
          obtain ⟨m2, t2'⟩ := new_at hx1 e2
          have m02 := m1.trans m2
          refine ⟨x2, dx2, a, xs, rfl, t2', m02 _ _ gr2.1, g, fun G5 b5 gr5 => ⟨rfl, ?_⟩⟩
          have m05 : Same G G5 := fun c o e => b5 c o (fun z => by rw [z, hx2] at e; cases e) (m02 _ _ e)
          have gr6 := gr2.same m05
          obtain ⟨_, _, dA, fA, hA, _⟩ := id gr5
          obtain ⟨_, _, dB, fB, hB, _⟩ := id gr6
          walk_at "go"
          refine ⟨x2, x, dA, dB, fA, fB, rfl, rfl, hA, hB, ⟨x2, x, a, a, xs, xs, rfl, gr5, gr6, ⟨_, rfl, ?_⟩⟩⟩
          rw [decide_eq_true (rfl : xs = xs)]
          exact q _
end

end K02

set_option Elab.async false
set_option linter.all false
set_option maxRecDepth 100000
set_option maxHeartbeats 0
namespace K02
open PySem PySem.Spec PyProof.Rows L2 He Gw
theorem ending {P : Program} {w : World} {K : PySem.W.Frag} {h : Heap} {mg : Str → Option Value} {f : Addr} (X : K.In h) (G : h.Ns mainGlobals mg) (hfa : mg ("law" : Str) = some (.ref f)) (c : SaysX fx fn K) :
    ∃ fd : FuncData, (∀ (s : Shared) (v : Value), BindsTo s fd ⟨[v], []⟩ [("_law_script", v)]) ∧ ∀ base : Heap, K.In base → base.Ns mainGlobals mg → FnOk P w K mg base CX0 7 f fd ["_law_script"] (spLaw K) := by
  have T := txt X G c
  have e := hfa.symm.trans T.d_law.g
  cases e
  have b := FunD.bindsA (ps := ["_law_script"]) T.d_law.F fun _ _ _ _ _ _ us hl => match us, hl with | [_], _ => rfl
  exact ⟨_, fun s v => b s [v] rfl, fun base _ _ => ok_law T⟩
end K02
open PySem PySem.W PySem.Calls PyProof.Rows
theorem PySem.Challenge.cw_guessedworlds_k02_grounds_judged_and_ope_holds : PySem.Challenge.rw_guessedworlds_k02_grounds_judged_and_ope.Holds := by
  w_on; o_law
  refine HandSHeadRun.head_any (r := OpenLaw.row PySem.Challenge.rw_guessedworlds_k02_grounds_judged_and_ope) (q := view (OpenLaw.row PySem.Challenge.rw_guessedworlds_k02_grounds_judged_and_ope).prog [41]) (H := K02.hk) (ob := K02.ob) (M := 20000) (loose := K02.loose) (d := HandSHeadRun.topDef (OpenLaw.row PySem.Challenge.rw_guessedworlds_k02_grounds_judged_and_ope).prog 41) (kwd := []) K02.ob_eq
    (by kernel_rfl) (fun s => by kernel_rfl) K02.run (by kernel_rfl) (by kernel_rfl) (by kernel_rfl) (by rfl) (by first | assumption | decide +kernel) (by decide +kernel) ⟨rfl, rfl, rfl, rfl, rfl, by decide +kernel⟩ ?hw ?hc
  case hw => w_witness2
  case hc =>
    refine L2.walk_ofE (l := PySem.Challenge.rw_guessedworlds_k02_grounds_judged_and_ope) (n := 63) (k := 7) (x := "_law_script") (CX := L2.CX0) rfl (by decide) (by kernel_rfl) ⟨rfl, by decide, by decide⟩ ?F (fun _ _ _ _ z => z)
    intro w mg fa h Y G hmg0
    obtain ⟨K, KX, c⟩ := Y
    have hmg : mg ("law" : PySem.Str) = some (.ref fa) := by
      have e : (HandSHeadRun.topDef (OpenLaw.row PySem.Challenge.rw_guessedworlds_k02_grounds_judged_and_ope).prog 41).name = ("law" : PySem.Str) := by kernel_rfl
      rw [← e]
      exact hmg0
    obtain ⟨fd, hb, hF⟩ := K02.ending (P := (PySem.Challenge.rw_guessedworlds_k02_grounds_judged_and_ope).prog) (w := w) KX G hmg c
    exact ⟨K, fd, Gw.spLaw K, KX, hb, fun H a ns hl _ hS => ⟨a, ns, rfl, hS, fun _ => rfl⟩, hF⟩

