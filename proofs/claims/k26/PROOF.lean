import PyProof.Rows.All
import Wide.All
import OpenK.AllK
import Wide.FinOn
import KE.KStateDown
import HandS.ForMost
import HandS.ForExc
import HandS.More
import HandS.Defaults
import HandS.Head0
import HandS.Head1
import HandS.Head2
import HandS.HeadEnd
import HandS.HeadHook1
import HandS.HeadHook2
import HandS.ExcInit
import HandS.TryMany
import HandS.IsInst
import HandS.Wide
import HandS.Style
import HandS.Flow
import HandS.Zip
import HandS.Small
import HandS.Evl
import PyProof.StrBlock2
import KE.GoesEnum
import PyProof.LongRange
import HandS.ExcField
import HandS.OwnEq
import HandS.Text
import HandS.TupAny
import HandS.TupMul
import HandS.Steps
import HandS.List
import HandS.Star
import HandS.TryOnly
import HandS.RaiseMore
import HandS.SortInts
import HandS.Dict
import HandS.DictComp
import HandS.HeadHook3
import Wide.OneHead
import PySem.Challenge.RW_guessedworlds_k26_whole_inputs_as_rows
set_option Elab.async false
set_option linter.all false
set_option maxRecDepth 100000
set_option maxHeartbeats 4000000
namespace Gw
open PySem PySem.Spec PyProof.Rows L2 He
/-! ### what the head is asked: tests of one's own, and the defs -/
abbrev Fx : Type := PySem.W.Frag → Bool
abbrev AlX : Type := Bool × AlD
def obX (n : Nat) (fx : List Fx) (fn : List DefD) (g : Addr → Option Obj) : AlX := (fx.all (fun f => f (frG g (asD g n))), obsDG n [] fn g)
structure SaysX (fx : List Fx) (fn : List DefD) (K : PySem.W.Frag) : Prop where
  tests : fx.all (fun f => f K) = true
  defs : SaysD [] fn K
def hookX (n : Nat) (fx : List Fx) (fn : List DefD) : PySem.W.Hook :=
  { α := AlX, obs := fun s => obX n fx fn s.heap.get?, val := fun _ => (true, valD fn), says := fun _ h => ∃ K : PySem.W.Frag, K.In h ∧ SaysX fx fn K,
    of := fun _ s e => Exists.intro (frG s.heap.get? (asD s.heap.get? n)) (And.intro frG_in { tests := congrArg Prod.fst e, defs := congrArg Prod.snd e }),
    keeps := fun _ _ _ p kp => p.elim fun K z => ⟨K, z.1.keeps kp, z.2⟩ }
theorem obX_eq {n : Nat} {fx : List Fx} {fn : List DefD} {g : Addr → Option Obj} {s : Shared} (h : ∀ a, g a = s.heap.get? a) : obX n fx fn g = (hookX n fx fn).obs s := by
  obtain rfl : g = s.heap.get? := funext h
  rfl
theorem SaysX.fact {fx : List Fx} {fn : List DefD} {K : PySem.W.Frag} (c : SaysX fx fn K) (i : Nat) {f : Fx} (h : fx[i]? = some f := by rfl) : f K = true :=
  List.all_eq_true.mp c.tests f (List.mem_of_getElem? h)
theorem SaysX.def_ {fx : List Fx} {fn : List DefD} {K : PySem.W.Frag} (c : SaysX fx fn K) (i : Nat) {d : DefD} (h : fn[i]? = some d := by rfl) :
    ∃ fd, FunD K d.name d.qual d.params d.body d.scope (d.dvs K) (d.kws K) (fAd K d.at_) fd := c.defs.def_ i h
/-! ### a def of the top, a method -/
def fdAt (K : PySem.W.Frag) (f : Addr) : FuncData := match K.lookup f with
  | some ⟨_, _, .func fd, _⟩ => fd
  | _ => PySem.W.fnOf "" "" { posonlyargs := [], args := [], vararg := none, kwonlyargs := [], kw_defaults := [], kwarg := none, defaults := [] } [] { kind := .function, names := [], isGenerator := false, isCoroutine := false } .none .none .none .none none .none .none
theorem fdAt_of {K : PySem.W.Frag} {x q : Str} {pa : Arguments} {bo : List Stmt} {sc : Scope} {dvs : List V} {kws : List (Str × V)} {f : Addr} {fd : FuncData} (F : FunD K x q pa bo sc dvs kws f fd) : fdAt K f = fd := by
  obtain ⟨oc, od, dV, kV, doc, pm, an, cdv, ct, osl, e, lk, _⟩ := F.ex
  unfold fdAt
  rw [lk]
structure Dk (K : PySem.W.Frag) (mg : Str → Option Value) (x : Str) (st : Stmt) (ps : List Str) : Prop where
  F : FunD K x x (defArgs st) (defBody st) (defScope st) [] [] (ga K x) (fdAt K (ga K x))
  g : mg x = some (.ref (ga K x))
  b : Binds K (fdAt K (ga K x)) ps []
abbrev gloX (x : Str) : Fx := fun K => (Fa.glo x).ok K
abbrev freeX (x : Str) : Fx := fun K => (Fa.free x).ok K
abbrev intX (x : Str) (i : Int) : Fx := fun K => (Fa.int x i).ok K
abbrev strX (x z : Str) : Fx := fun K => (Fa.str x z).ok K
abbrev exmX (x y : Str) (b : Bool) : Fx := fun K => (Fa.exm x y b).ok K
/-- an own exception class, ValueError's tail behind own classes -/
def oexB (K : PySem.W.Frag) (C : Addr) : Bool := (match K.lookup C with
    | some ⟨.type "type", _, .cls cd, sl⟩ => (match cd.mro, sl.toList with
      | .ref C' :: bm, [_, _, _, _, some (.builtin n), _] => C' == C && (n == "ValueError.__new__" && (!cd.hasDel && (cd.hasDict && PySem.HandSPX.refsVE bm)))
      | _, _ => false)
    | _ => false) && (eqO (PySem.W.findIn K (.ref C) "__setattr__") (some (some (.builtin "object.__setattr__"))) && (decide (PySem.W.subIn K (.ref C) (.type "BaseException") = some true) && (decide (PySem.W.typeIn K (.ref C) = some (.type "type")) && PySem.W.keepIn K (.ref C))))
theorem oex_ok {K : PySem.W.Frag} {C : Addr} (h : oexB K C = true) : OexC K C := by
  obtain ⟨h1, h⟩ := ba h
  obtain ⟨h2, h⟩ := ba h
  obtain ⟨h3, h⟩ := ba h
  obtain ⟨h4, h5⟩ := ba h
  refine ⟨?_, eqO_ok h2, of_decide_eq_true h3, of_decide_eq_true h4, h5⟩
  split at h1
  · rename_i dd cd sl ho
    split at h1
    · rename_i C' bm k0 k1 k2 k3 n k5 hm hs
      simp only [Bool.and_eq_true, beq_iff_eq, Bool.not_eq_true'] at h1
      obtain ⟨rfl, rfl, hdel, hdict, ht⟩ := h1
      obtain ⟨nm, bs, mro, ns, qn, hd, sn, sub, ab, col, del⟩ := cd
      dsimp only at hm hdel hdict
      subst hm hdel hdict
      have hsl : sl = #[k0, k1, k2, k3, some (.builtin "ValueError.__new__"), k5] := by
        obtain ⟨l⟩ := sl
        simp only at hs
        rw [hs]
      subst hsl
      exact ⟨nm, qn, ns, bs, bm, sn, sub, ab, col, dd, k0, k1, k2, k3, k5, ho, ht⟩
    · cases h1
  · cases h1
/-- its __init__, a def: the address -/
def initB (K : PySem.W.Frag) (C f : Addr) : Bool := eqO (PySem.W.findIn K (.ref C) "__init__") (some (some (.ref f))) && decide (PySem.W.typeIn K (.ref f) = some (.type "function"))
theorem init_ok {K : PySem.W.Frag} {C f : Addr} (h : initB K C f = true) : PySem.W.findIn K (.ref C) "__init__" = some (some (.ref f)) ∧ PySem.W.typeIn K (.ref f) = some (.type "function") := by
  obtain ⟨h1, h2⟩ := ba h
  exact ⟨eqO_ok h1, of_decide_eq_true h2⟩
section
variable {P : Program} {w : World} {fr : List Addr} {H1 H2 : Hp} {hp h1 h2 G : Heap} {a C : Addr} {o : HO}
/-- an object that was laid on the way at a is let go again: the rest of what changed -/
theorem un_cut (ha : hp.objs.size ≤ a) (hn : H1 a = none) (k : ∀ b u, hp.get? b = some u → h1.get? b = some u) (u : Un fr [] (upd H1 a o) H2 h1 h2)
    (g : ∀ b, b ≠ a → G.get? b = h2.get? b) : Un fr [] H1 (del H2 a) hp G := by
  have away : ∀ b ob, hp.get? b = some ob → b ≠ a := fun b ob q e => by
    rw [e] at q
    exact absurd (Heap.lt_size q) (Nat.not_lt.mpr ha)
  have stay : ∀ b, b ≠ a → upd H1 a o b = H1 b := fun b nb => upd_ne nb
  have known : ∀ b q, H1 b = some q → b ≠ a := fun b q e z => by rw [z, hn] at e; cases e
  constructor
  case keep => intro b ob q n hf hx; rw [g b (away b ob q)]; exact u.keep b ob (k b ob q) ((stay b (away b ob q)).trans n) hf hx
  case slot => intro b ob q n hf hx; rw [g b (away b ob q)]; exact u.slot b ob (k b ob q) ((stay b (away b ob q)).trans n) hf hx
  case free => intro b ob q n hx; rw [del_ne (away b ob q)]; exact u.free b ob (k b ob q) ((stay b (away b ob q)).trans n) hx
  case there => intro b ob q hx; rw [g b (away b ob q)]; exact u.there b ob (k b ob q) hx
  case tups => intro b xs q; rw [del_ne (known b _ q)]; exact u.tups b xs ((stay b (known b _ q)).trans q)
  case frzs => intro b ob v q; rw [del_ne (known b _ q)]; exact u.frzs b ob v ((stay b (known b _ q)).trans q)
  case tbls => intro b ps q; rw [del_ne (known b _ q)]; exact u.tbls b ps ((stay b (known b _ q)).trans q)
theorem hok_cut (hok : HOk P w H2 h2) (e : H2 a = some (exo a C none)) (g : ∀ b, b ≠ a → G.get? b = h2.get? b) : HOk P w (del H2 a) G := by
  intro b q hb
  have nb : b ≠ a := by
    intro z
    rw [z, del_same] at hb
    cases hb
  rw [del_ne nb] at hb
  have nown : ∀ c, H2 c = some (.own b) → c ≠ a := fun c hc => at_ne e hc exo_own
  refine (hok b q hb).stay (fun c v hc hv => ?_) (fun c hc => by rw [del_ne (nown c hc)]; exact hc) (fun c xs hc => by rw [del_ne (at_ne e hc exo_tup)]; exact hc)
  rcases hc with rfl | hc
  · rw [g c nb]; exact hv
  · rw [g c (nown c hc)]; exact hv
end
section
variable {X : Cx}
/-- C(), its class's __init__ (own or inherited) keeping sp; no field is stored -/
def tMk0 (C : Addr) (sp : Sp) : L2.St → Hp → XK → Prop := fun _ H Q => ∀ a, H a = none →
  sp [.ref a] (upd H a (exo a C none)) (fun v H' => v = .non ∧ H' a = some (exo a C none) ∧ Q (.ref C) none (del H' a)) (fun _ _ _ => False)
/-- the raw frame of such a call, ahead of __init__ -/
abbrev mkHeap (hp : Heap) (C : Addr) : Heap := (hp.push (PySem.W.kdv_tup ([] : List Value))).push (PySem.HandSPX.excO C hp.objs.size)
theorem mkHeap_old {hp : Heap} {C b : Addr} {o : Obj} (e : hp.get? b = some o) : (mkHeap hp C).get? b = some o := by
  show ((hp.push _).push _).get? b = _
  exact Heap.get?_push_of_some _ (Heap.get?_push_of_some _ e)
theorem mkHeap_new {hp : Heap} {C : Addr} : (mkHeap hp C).get? (hp.objs.size + 1) = some (PySem.HandSPX.excO C hp.objs.size) := by
  show ((hp.push _).push _).get? _ = _
  heap_get
theorem pmk_oex0 {CX : CXT} {x : Str} {C fI : Addr} {k : Nat} {fd : FuncData} {ps : List Str} {sp : Sp} {p pos : Pos} (T : OexC X.K C)
    (hi : PySem.W.findIn X.K (.ref C) "__init__" = some (some (.ref fI)) ∧ PySem.W.typeIn X.K (.ref fI) = some (.type "function"))
    (G : FnOk X.prog X.w X.K X.mg X.base CX k fI fd ps sp) (hr : Room (k + 1) X.A) (hb : Binds X.K fd ps []) (hx : Passes CX X (fun _ _ _ => False)) (hm : X.mg x = some (.ref C)) (hg : Gl X x := by rfl)
    (hdb : (x == ("__debug__" : Str)) = false := by decide) : PMk X (.Call (.Name x p) [] [] pos) (tMk0 C sp) := by
  intro pins s σ H Q I h
  obtain ⟨_, _, _, _, bm, _, _, _, _, _, _, _, _, _, _, hC, hbm⟩ := T.cls
  refine wpAny_Call_Name_kw (ld_glob I hg hm (PySem.W.callWith_K0 I.kIn T.kC ?_) hdb)
  obtain ⟨hp, gens, dr, tk, os⟩ := s
  let a := hp.objs.size + 1
  have le : hp.objs.size ≤ a := by omega
  have hn : H a = none := I.hok.fresh le
  have I2 : Inv X pins σ (upd H a (exo a C none)) ⟨mkHeap hp C, gens, dr, tk, os⟩ :=
    I.laid (t' := tk) (a := a) (o := exo a C none) (h' := mkHeap hp C) (fun _ _ e => mkHeap_old e) le (exo_ok mkHeap_new)
  have q := h a hn
  have r : Vals [V.ref a] ([Value.ref a] ++ []) := .cons rfl .nil
  have hlen : ([Value.ref a] ++ ([] : List Value)).length = ps.length := r.length.symm.trans (G.len _ _ _ _ q)
  have go := G.run _ X.stack _ _ ⟨[Value.ref a], []⟩ _ _ _ (fun _ _ _ => False) (hr.make C [] []) (I2.env0.make C [] []) (hb _ [Value.ref a] I2.kIn hlen) r q
  refine wpAny_call (PySem.HandSPX.call_own F.excBase_ValueError (fun Y => PySem.HandSPX.refsVE_contains Y bm hbm) (I.kIn _ _ hC) (PySem.W.looks_findIn I.kIn hi.1) (fun self => PySem.W.bind_fn I.kIn self hi.2) (Nat.zero_le _) (codeAny_mono go fun res s' z => ?_))
  match res, z with
  | .error er, z => exact hx pins σ _ _ er s' I2 z
  | .ok (.ret u), z =>
    obtain ⟨v, H2, hos, bare, un, hok, rv, rfl, ea, fin⟩ := z
    obtain ⟨t0, hoe⟩ := exo_at hok ea
    obtain ⟨G', g1, g2⟩ := restrict s'.heap fun b => decide (b ≠ a)
    have gk : ∀ b, b ≠ a → G'.get? b = s'.heap.get? b := fun b nb => g1 b (decide_eq_true nb)
    have ge : G'.get? a = none := g2 a (by simp)
    have J : Inv X pins σ (del H2 a) { s' with heap := G' } := by
      obtain ⟨h2, gg, dd, tt, oo⟩ := s'
      exact I.call' (ch := []) hos (un_cut le hn (fun _ _ e => mkHeap_old e) un gk) (hok_cut hok ea gk) bare (fun b z => absurd z (by simp))
    refine ⟨rv, a, _, _, { s' with heap := G' }, _, .ref C, none, rfl, J, fun b ob e => ?_, ge, hoe, ⟨rfl, rfl⟩, rfl, rfl, del_same, rfl, bare, raises_own T.exC T.tyC, fin⟩
    by_cases nb : b = a
    · have e' : G'.get? b = some ob := e
      rw [nb, ge] at e'
      cases e'
    · rw [← gk b nb]
      exact e
end
end Gw
namespace Gw
open PySem PySem.Spec PyProof.Rows L2 He
structure Dm (K : PySem.W.Frag) (C m : Str) (st : Stmt) (ps : List Str) : Prop where
  F : FunD K m (C ++ ⟨#[46]⟩ ++ m) (defArgs st) (defBody st) (defScope st) [] [] (ma K (ga K C) m) (fdAt K (ma K (ga K C) m))
  b : Binds K (fdAt K (ma K (ga K C) m)) ps []
theorem dk_of {K : PySem.W.Frag} {mg : Str → Option Value} {x : Str} {st : Stmt} {ps : List Str} (h : ∃ fd, FunD K x x (defArgs st) (defBody st) (defScope st) [] [] (ga K x) fd) (g : mg x = some (.ref (ga K x)))
    (hb : ∀ (kV doc pm : Value) (an : Option Addr) (cdv ct : Value) (us : List Value), us.length = ps.length → bindArgs (PySem.W.fnOf x x (defArgs st) (defBody st) (defScope st) .none kV doc pm an cdv ct) ⟨us, []⟩ = pure (ps.zip us)) : Dk K mg x st ps := by
  obtain ⟨fd, F⟩ := h
  have e := fdAt_of F
  subst e
  exact ⟨F, g, F.bindsN hb⟩
theorem dm_of {K : PySem.W.Frag} {C m qn : Str} {st : Stmt} {ps : List Str} (h : ∃ fd, FunD K m qn (defArgs st) (defBody st) (defScope st) [] [] (ma K (ga K C) m) fd)
    (hb : ∀ (kV doc pm : Value) (an : Option Addr) (cdv ct : Value) (us : List Value), us.length = ps.length → bindArgs (PySem.W.fnOf m qn (defArgs st) (defBody st) (defScope st) .none kV doc pm an cdv ct) ⟨us, []⟩ = pure (ps.zip us))
    (hq : qn = C ++ ⟨#[46]⟩ ++ m := by decide +kernel) : Dm K C m st ps := by
  obtain ⟨fd, F⟩ := h
  have e := fdAt_of F
  subst e
  subst hq
  exact ⟨F, F.bindsN hb⟩
end Gw

set_option Elab.async false
set_option linter.all false
set_option maxRecDepth 100000
set_option maxHeartbeats 4000000
namespace Gw
open PySem PySem.Spec PyProof.Rows L2 He
/-! ### calls -/
section
variable {X : Cx} {x : Str} {st : Stmt} {ps : List Str} {k : Nat} {sp : Sp} {t : TA} {e : Expr} {es : List Expr} {p pos : Pos}
theorem pc (D : Dk X.K X.mg x st ps) (G : FnOk X.prog X.w X.K X.mg X.base CX0 k (ga X.K x) (fdAt X.K (ga X.K x)) ps sp) (hr : Room k X.A) (ha : PA X (e :: es) t)
    (hg : Gl X x := by rfl) (hdb : (x == ("__debug__" : Str)) = false := by decide) (he : starEach (e :: es) X.env = (false, eval e X.env) :: starEach es X.env := by rfl) (hpl : (backTo pos (starEach es X.env)).any (·.1) = false := by rfl) :
    PE X (.Call (.Name x p) (e :: es) [] pos) (tCall sp [] E0 t) := pe_call G hr hg D.g D.F.kp D.b .nil pass0 ha hdb he hpl
/-- a call of a def that may raise, within a try's body -/
theorem pcS {W : WX} (D : Dk X.K X.mg x st ps) (G : FnOk X.prog X.w X.K X.mg X.base (L2.CX X.prog X.w) k (ga X.K x) (fdAt X.K (ga X.K x)) ps sp) (hr : Room k X.A) (tk : Takes X W) (ha : PA X (e :: es) t)
    (hg : Gl X x := by rfl) (hdb : (x == ("__debug__" : Str)) = false := by decide) (he : starEach (e :: es) X.env = (false, eval e X.env) :: starEach es X.env := by rfl) (hpl : (backTo pos (starEach es X.env)).any (·.1) = false := by rfl) :
    PE X (.Call (.Name x p) (e :: es) [] pos) (tCallS sp (WE W) t) := pe_callS G hr hg D.g D.F.kp D.b (fun σ => passAt tk σ) ha hdb he hpl
end
section
variable {X : Cx} {x : Str} {pos : Pos}
theorem pe_ty (n : String) (hm : X.mg x = none) (hv : bootBuiltins x = some (.type n) := by decide +kernel) (hg : Gl X x := by rfl) (hn : x ≠ "__name__" := by decide) (hd : (x == ("__debug__" : Str)) = false := by decide) : PE X (.Name x pos) (tC (.ty n)) :=
  pe_bltn hg hm hv rfl hn hd
theorem pe_kint {i : Int} (h : ∃ t, X.mg x = some (.int i t)) (hg : Gl X x := by rfl) (hd : (x == ("__debug__" : Str)) = false := by decide) : PE X (.Name x pos) (tC (.int i)) := by
  obtain ⟨t, e⟩ := h
  exact pe_glob hg e ⟨t, rfl⟩ hd
theorem pe_kstr {z : Str} (h : ∃ t, X.mg x = some (.str z t)) (hg : Gl X x := by rfl) (hd : (x == ("__debug__" : Str)) = false := by decide) : PE X (.Name x pos) (tC (.str z)) := by
  obtain ⟨t, e⟩ := h
  exact pe_glob hg e ⟨t, rfl⟩ hd
theorem pe_gref {a : Addr} (h : X.mg x = some (.ref a)) (hg : Gl X x := by rfl) (hd : (x == ("__debug__" : Str)) = false := by decide) : PE X (.Name x pos) (tC (.ref a)) := pe_glob hg h rfl hd
end
abbrev okAt (P : Program) (w : World) (K : PySem.W.Frag) (mg : Str → Option Value) (base : Heap) (CX : CXT) (k : Nat) (x : Str) (ps : List Str) (sp : Sp) : Prop := FnOk P w K mg base CX k (ga K x) (fdAt K (ga K x)) ps sp
/-! ### heaps -/
/-- all but what stands at h is as it was -/
def But (h : Addr) (H H' : Hp) : Prop := ∀ a o, a ≠ h → H a = some o → H' a = some o
theorem But.refl {h : Addr} {H : Hp} : But h H H := fun _ _ _ e => e
theorem But.trans {h : Addr} {H H1 H2 : Hp} (a : But h H H1) (b : But h H1 H2) : But h H H2 := fun x o n e => b x o n (a x o n e)
theorem But.upd {h : Addr} {H : Hp} {o : HO} : But h H (upd H h o) := fun a u n e => by rw [upd_ne n]; exact e
theorem But.same {h : Addr} {H H' : Hp} (s : Same H H') : But h H H' := fun a o _ e => s a o e
theorem Same.new {H : Hp} {p : Addr} {o : HO} (h : H p = none) : Same H (upd H p o) := fun b x e => by
  rw [upd_ne (ne_of_none e h)]
  exact e
/-! ### the hand: an object that the draws change -/
structure HandAt (H : Hp) (h l : Addr) (ns : List Int) (i b s c : Int) : Prop where
  hh : H h = some (.lst [.ref l, .int i, .int b, .int s, .int c])
  hl : H l = some (.lst (ns.map V.int))
  ne : l ≠ h
theorem HandAt.put {H : Hp} {h l : Addr} {ns : List Int} {i b s c : Int} (A : HandAt H h l ns i b s c) (i' b' s' c' : Int) :
    ∃ H', upd H h (.lst [.ref l, .int i', .int b', .int s', .int c']) = H' ∧ HandAt H' h l ns i' b' s' c' ∧ But h H H' :=
  ⟨_, rfl, ⟨upd_same, by rw [upd_ne A.ne]; exact A.hl, A.ne⟩, But.upd⟩
def Hand (H : Hp) (h : Addr) : Prop := ∃ l ns i b s c, HandAt H h l ns i b s c ∧ 0 ≤ i ∧ 0 ≤ b ∧ 0 ≤ s ∧ s < 2147483647
theorem HandAt.same {H H' : Hp} {h l : Addr} {ns : List Int} {i b s c : Int} (A : HandAt H h l ns i b s c) (e : Same H H') : HandAt H' h l ns i b s c := ⟨e _ _ A.hh, e _ _ A.hl, A.ne⟩
theorem Hand.same {H H' : Hp} {h : Addr} (A : Hand H h) (e : Same H H') : Hand H' h := by
  obtain ⟨l, ns, i, b, s, c, A, r⟩ := A
  exact ⟨l, ns, i, b, s, c, A.same e, r⟩
theorem Hand.some {H : Hp} {h : Addr} (A : Hand H h) : ∃ xs, H h = some (.lst xs) := by
  obtain ⟨l, ns, i, b, s, c, A, r⟩ := A
  exact ⟨_, A.hh⟩
/-- behind the draws: the hand is one, all else is as it was -/
structure Kp (h : Addr) (H H' : Hp) : Prop where
  hand : Hand H' h
  but : But h H H'
  old : Hand H h
  lst : ∀ l ys, H h = some (.lst (.ref l :: ys)) → ∃ zs, H' h = some (.lst (.ref l :: zs))
theorem Kp.refl {h : Addr} {H : Hp} (A : Hand H h) : Kp h H H := ⟨A, But.refl, A, fun _ ys e => ⟨ys, e⟩⟩
theorem Kp.trans {h : Addr} {H H1 H2 : Hp} (a : Kp h H H1) (b : Kp h H1 H2) : Kp h H H2 := ⟨b.hand, a.but.trans b.but, a.old, fun l ys e => let ⟨zs, q⟩ := a.lst l ys e; b.lst l zs q⟩
theorem Kp.same {h : Addr} {H H1 H2 : Hp} (a : Kp h H H1) (b : Same H1 H2) : Kp h H H2 := ⟨a.hand.same b, a.but.trans (But.same b), a.old, fun l ys e => let ⟨zs, q⟩ := a.lst l ys e; ⟨zs, b _ _ q⟩⟩
theorem Kp.free {h : Addr} {H H' : Hp} (a : Kp h H H') {p : Addr} (e : H' p = none) : H p = none := by
  cases q : H p with
  | none => rfl
  | some o =>
    by_cases n : p = h
    · obtain ⟨xs, z⟩ := a.hand.some
      rw [n, z] at e
      cases e
    · rw [a.but p o n q] at e
      cases e
theorem Kp.keep {h : Addr} {H H' : Hp} (a : Kp h H H') {p : Addr} {o : HO} (e : H p = some o) (n : p ≠ h) : H' p = some o := a.but p o n e
theorem Kp.tup {h : Addr} {H H' : Hp} (a : Kp h H H') {p : Addr} {xs : List V} (e : H p = some (.tup xs)) : H' p = some (.tup xs) := a.but p _ (fun z => by
  obtain ⟨ys, q⟩ := a.old.some
  rw [z, q] at e
  cases e) e
/-- a new object, whatever becomes of it -/
theorem Kp.put {h : Addr} {H G : Hp} (k : Kp h H G) {p : Addr} {o : HO} (hp : H p = none) : Kp h H (upd G p o) := by
  obtain ⟨l, ns, i, b, s, c, A, _⟩ := k.old
  obtain ⟨l', ns', i', b', s', c', A', r⟩ := k.hand
  obtain ⟨zs, q⟩ := k.lst l _ A.hh
  have el : l' = l := by
    have z := A'.hh
    rw [q] at z
    injection z with z
    injection z with z
    injection z with z
    injection z with z
    exact z.symm
  have nh : h ≠ p := fun z => by rw [← z, A.hh] at hp; cases hp
  have nl : l' ≠ p := fun z => by rw [← z, el, A.hl] at hp; cases hp
  refine ⟨⟨l', ns', i', b', s', c', ⟨by rw [upd_ne nh]; exact A'.hh, by rw [upd_ne nl]; exact A'.hl, A'.ne⟩, r⟩, fun a u n e => ?_, k.old, fun l2 ys e => ?_⟩
  · rw [upd_ne (ne_of_none e hp)]
    exact k.but a u n e
  · rw [upd_ne nh]
    exact k.lst l2 ys e
/-- a draw below n -/
def spTake : Sp := fun vs H Q _ => ∃ (h : Addr) (n : Int), vs = [.ref h, .int n] ∧ Hand H h ∧ 0 < n ∧ n < 1073741824 ∧ ∀ (r : Int) (H' : Hp), 0 ≤ r → r < n → Kp h H H' → Q (.int r) H'
theorem HandAt.set {H H1 : Hp} {h l : Addr} {ns : List Int} {i b s c : Int} (A : HandAt H h l ns i b s c) {xs : List V} (e : upd H h (.lst xs) = H1) (i' b' s' c' : Int) (ex : xs = [.ref l, .int i', .int b', .int s', .int c'] := by rfl) :
    HandAt H1 h l ns i' b' s' c' ∧ But h H H1 := by
  subst ex
  subst e
  exact ⟨⟨upd_same, by rw [upd_ne A.ne]; exact A.hl, A.ne⟩, But.upd⟩
theorem atI_ints {ns : List Int} {i : Int} (h0 : 0 ≤ i) (h1 : i < ((ns.map V.int).length : Int)) : ∃ x, atI (ns.map V.int) i = some (.int x) := by
  obtain ⟨j, rfl⟩ : ∃ j : Nat, i = (j : Int) := ⟨i.toNat, by omega⟩
  rw [List.length_map] at h1
  have hj : j < ns.length := by omega
  exact ⟨ns[j], atI_nat (by rw [List.getElem?_map, List.getElem?_eq_getElem hj] <;> rfl)⟩
/-! ### is True, is False of anything -/
def rIsC : R2 := fun x y H Q => ∃ c : Bool, y = .bl c ∧ Q (.bl (decide (x = .bl c))) H
theorem op_isC {X : Cx} : OpR X (compareOp .Is) rIsC := by
  intro pins s σ H x y v u Q I rx ry h
  obtain ⟨c, rfl, q⟩ := h
  cases (show u = Value.bool c from ry)
  have no : ∀ (hp : plainIs v (Value.bool c) = true) (hne : v ≠ Value.bool c) (hx : ¬ x = V.bl c), wpAny (model X.prog X.w) X.A (compareOp .Is v (Value.bool c)) (EP X pins σ Q) X.xe s := fun hp hne hx =>
    wpAny_is_other hp hne ⟨.bl false, H, I, rfl, by rw [decide_eq_false hx] at q; exact q⟩
  cases x with
  | bl a =>
    cases (show v = Value.bool a from rx)
    by_cases e : a = c
    · subst e
      exact wpAny_is_self rfl ⟨.bl true, H, I, rfl, by rw [decide_eq_true rfl] at q; exact q⟩
    · exact no rfl (fun z => e (Value.bool.inj z)) (fun z => e (V.bl.inj z))
  | non => cases (show v = Value.none from rx); exact no rfl (fun z => nomatch z) (fun z => nomatch z)
  | int i => obtain ⟨t, rfl⟩ := (show ∃ t, v = Value.int i t from rx); exact no rfl (fun z => nomatch z) (fun z => nomatch z)
  | str i => obtain ⟨t, rfl⟩ := (show ∃ t, v = Value.str i t from rx); exact no rfl (fun z => nomatch z) (fun z => nomatch z)
  | byt i => obtain ⟨t, rfl⟩ := (show ∃ t, v = Value.bytes i t from rx); exact no rfl (fun z => nomatch z) (fun z => nomatch z)
  | flt i => obtain ⟨t, rfl⟩ := (show ∃ t, v = Value.float i t from rx); exact no rfl (fun z => nomatch z) (fun z => nomatch z)
  | ref i => cases (show v = Value.ref i from rx); exact no rfl (fun z => nomatch z) (fun z => nomatch z)
  | ty i => cases (show v = Value.type i from rx); exact no rfl (fun z => nomatch z) (fun z => nomatch z)
/-! ### values of built-in kinds -/
inductive Wt (H : Hp) : V → Prop
  | non : Wt H .non
  | bl (b : Bool) : Wt H (.bl b)
  | int (i : Int) : Wt H (.int i)
  | str (x : Str) : Wt H (.str x)
  | lst {a : Addr} {xs : List V} (e : H a = some (.lst xs)) : Wt H (.ref a)
  | tup {a : Addr} {xs : List V} (e : H a = some (.tup xs)) : Wt H (.ref a)
  | dct {a : Addr} {kvs : List (Key × V)} (e : H a = some (.dK kvs)) : Wt H (.ref a)
def isI : V → Bool
  | .int _ => true
  | _ => false
def isB : V → Bool
  | .bl _ => true
  | _ => false
def isS : V → Bool
  | .str _ => true
  | _ => false
def isN : V → Bool
  | .non => true
  | _ => false
def isT (H : Hp) : V → Bool
  | .ref a => match H a with
    | some (.tup _) => true
    | _ => false
  | _ => false
def isL (H : Hp) : V → Bool
  | .ref a => match H a with
    | some (.lst _) => true
    | _ => false
  | _ => false
def isD (H : Hp) : V → Bool
  | .ref a => match H a with
    | some (.dK _) => true
    | _ => false
  | _ => false
theorem isT_lst {H : Hp} {a : Addr} {xs : List V} (e : H a = some (.lst xs)) : isT H (.ref a) = false := by
  unfold isT
  dsimp only
  rw [e]
theorem isT_tup {H : Hp} {a : Addr} {xs : List V} (e : H a = some (.tup xs)) : isT H (.ref a) = true := by
  unfold isT
  dsimp only
  rw [e]
theorem isT_dK {H : Hp} {a : Addr} {kvs : List (Key × V)} (e : H a = some (.dK kvs)) : isT H (.ref a) = false := by
  unfold isT
  dsimp only
  rw [e]
theorem isL_lst {H : Hp} {a : Addr} {xs : List V} (e : H a = some (.lst xs)) : isL H (.ref a) = true := by
  unfold isL
  dsimp only
  rw [e]
theorem isL_tup {H : Hp} {a : Addr} {xs : List V} (e : H a = some (.tup xs)) : isL H (.ref a) = false := by
  unfold isL
  dsimp only
  rw [e]
theorem isL_dK {H : Hp} {a : Addr} {kvs : List (Key × V)} (e : H a = some (.dK kvs)) : isL H (.ref a) = false := by
  unfold isL
  dsimp only
  rw [e]
theorem isD_lst {H : Hp} {a : Addr} {xs : List V} (e : H a = some (.lst xs)) : isD H (.ref a) = false := by
  unfold isD
  dsimp only
  rw [e]
theorem isD_tup {H : Hp} {a : Addr} {xs : List V} (e : H a = some (.tup xs)) : isD H (.ref a) = false := by
  unfold isD
  dsimp only
  rw [e]
theorem isD_dK {H : Hp} {a : Addr} {kvs : List (Key × V)} (e : H a = some (.dK kvs)) : isD H (.ref a) = true := by
  unfold isD
  dsimp only
  rw [e]
section
variable {K : PySem.W.Frag} {H : Hp} {v : V} {Q : VK}
theorem isi_of {x : V} {n t : String} {b : Bool} (ty : TyX K H x (.type t)) (e : kitB t n = some b) (q : Q (.bl b) H) : rIsi K [x, .ty n] H Q := ⟨x, .ty n, .type t, .type n, b, rfl, .ty n, ty, kit_ty e, q⟩
theorem isi_int (W : Wt H v) (q : Q (.bl (isI v || isB v)) H) : rIsi K [v, .ty "int"] H Q := by
  cases W with
  | non => exact isi_of (b := false) (.base .non) (by decide +kernel) q
  | bl b => exact isi_of (b := true) (.base (.bl b)) (by decide +kernel) q
  | int i => exact isi_of (b := true) (.base (.int i)) (by decide +kernel) q
  | str x => exact isi_of (b := false) (.base (.str x)) (by decide +kernel) q
  | lst e => exact isi_of (b := false) (.base (.lst e)) (by decide +kernel) q
  | tup e => exact isi_of (b := false) (.base (.tup e)) (by decide +kernel) q
  | dct e => exact isi_of (b := false) (.base (.dK e)) (by decide +kernel) q
theorem isi_bool (W : Wt H v) (q : Q (.bl (isB v)) H) : rIsi K [v, .ty "bool"] H Q := by
  cases W with
  | non => exact isi_of (b := false) (.base .non) (by decide +kernel) q
  | bl b => exact isi_of (b := true) (.base (.bl b)) (by decide +kernel) q
  | int i => exact isi_of (b := false) (.base (.int i)) (by decide +kernel) q
  | str x => exact isi_of (b := false) (.base (.str x)) (by decide +kernel) q
  | lst e => exact isi_of (b := false) (.base (.lst e)) (by decide +kernel) q
  | tup e => exact isi_of (b := false) (.base (.tup e)) (by decide +kernel) q
  | dct e => exact isi_of (b := false) (.base (.dK e)) (by decide +kernel) q
theorem isi_str (W : Wt H v) (q : Q (.bl (isS v)) H) : rIsi K [v, .ty "str"] H Q := by
  cases W with
  | non => exact isi_of (b := false) (.base .non) (by decide +kernel) q
  | bl b => exact isi_of (b := false) (.base (.bl b)) (by decide +kernel) q
  | int i => exact isi_of (b := false) (.base (.int i)) (by decide +kernel) q
  | str x => exact isi_of (b := true) (.base (.str x)) (by decide +kernel) q
  | lst e => exact isi_of (b := false) (.base (.lst e)) (by decide +kernel) q
  | tup e => exact isi_of (b := false) (.base (.tup e)) (by decide +kernel) q
  | dct e => exact isi_of (b := false) (.base (.dK e)) (by decide +kernel) q
theorem isi_tuple (W : Wt H v) (q : Q (.bl (isT H v)) H) : rIsi K [v, .ty "tuple"] H Q := by
  cases W with
  | non => exact isi_of (b := false) (.base .non) (by decide +kernel) q
  | bl b => exact isi_of (b := false) (.base (.bl b)) (by decide +kernel) q
  | int i => exact isi_of (b := false) (.base (.int i)) (by decide +kernel) q
  | str x => exact isi_of (b := false) (.base (.str x)) (by decide +kernel) q
  | lst e => exact isi_of (b := false) (.base (.lst e)) (by decide +kernel) (by rw [isT_lst e] at q; exact q)
  | tup e => exact isi_of (b := true) (.base (.tup e)) (by decide +kernel) (by rw [isT_tup e] at q; exact q)
  | dct e => exact isi_of (b := false) (.base (.dK e)) (by decide +kernel) (by rw [isT_dK e] at q; exact q)
theorem isi_list (W : Wt H v) (q : Q (.bl (isL H v)) H) : rIsi K [v, .ty "list"] H Q := by
  cases W with
  | non => exact isi_of (b := false) (.base .non) (by decide +kernel) q
  | bl b => exact isi_of (b := false) (.base (.bl b)) (by decide +kernel) q
  | int i => exact isi_of (b := false) (.base (.int i)) (by decide +kernel) q
  | str x => exact isi_of (b := false) (.base (.str x)) (by decide +kernel) q
  | lst e => exact isi_of (b := true) (.base (.lst e)) (by decide +kernel) (by rw [isL_lst e] at q; exact q)
  | tup e => exact isi_of (b := false) (.base (.tup e)) (by decide +kernel) (by rw [isL_tup e] at q; exact q)
  | dct e => exact isi_of (b := false) (.base (.dK e)) (by decide +kernel) (by rw [isL_dK e] at q; exact q)
theorem isi_dict (W : Wt H v) (q : Q (.bl (isD H v)) H) : rIsi K [v, .ty "dict"] H Q := by
  cases W with
  | non => exact isi_of (b := false) (.base .non) (by decide +kernel) q
  | bl b => exact isi_of (b := false) (.base (.bl b)) (by decide +kernel) q
  | int i => exact isi_of (b := false) (.base (.int i)) (by decide +kernel) q
  | str x => exact isi_of (b := false) (.base (.str x)) (by decide +kernel) q
  | lst e => exact isi_of (b := false) (.base (.lst e)) (by decide +kernel) (by rw [isD_lst e] at q; exact q)
  | tup e => exact isi_of (b := false) (.base (.tup e)) (by decide +kernel) (by rw [isD_tup e] at q; exact q)
  | dct e => exact isi_of (b := true) (.base (.dK e)) (by decide +kernel) (by rw [isD_dK e] at q; exact q)
end
section
variable {K : PySem.W.Frag} {H : Hp} {v : V} {R : Bool → Prop}
theorem ei_int (W : Wt H v) (q : R (isI v || isB v)) : ∃ (x c : V) (t u : Value) (b : Bool), [v, V.ty "int"] = [x, c] ∧ ClsV c u ∧ TyX K H x t ∧ PySem.W.kitOne K t u = some b ∧ R b := isi_int (Q := fun z _ => ∃ b, z = .bl b ∧ R b) W ⟨_, rfl, q⟩ |> fun ⟨x, c, t, u, b, h1, h2, h3, h4, b2, h5, h6⟩ => ⟨x, c, t, u, b, h1, h2, h3, h4, by cases h5; exact h6⟩
theorem ei_bool (W : Wt H v) (q : R (isB v)) : ∃ (x c : V) (t u : Value) (b : Bool), [v, V.ty "bool"] = [x, c] ∧ ClsV c u ∧ TyX K H x t ∧ PySem.W.kitOne K t u = some b ∧ R b := isi_bool (Q := fun z _ => ∃ b, z = .bl b ∧ R b) W ⟨_, rfl, q⟩ |> fun ⟨x, c, t, u, b, h1, h2, h3, h4, b2, h5, h6⟩ => ⟨x, c, t, u, b, h1, h2, h3, h4, by cases h5; exact h6⟩
theorem ei_str (W : Wt H v) (q : R (isS v)) : ∃ (x c : V) (t u : Value) (b : Bool), [v, V.ty "str"] = [x, c] ∧ ClsV c u ∧ TyX K H x t ∧ PySem.W.kitOne K t u = some b ∧ R b := isi_str (Q := fun z _ => ∃ b, z = .bl b ∧ R b) W ⟨_, rfl, q⟩ |> fun ⟨x, c, t, u, b, h1, h2, h3, h4, b2, h5, h6⟩ => ⟨x, c, t, u, b, h1, h2, h3, h4, by cases h5; exact h6⟩
theorem ei_tuple (W : Wt H v) (q : R (isT H v)) : ∃ (x c : V) (t u : Value) (b : Bool), [v, V.ty "tuple"] = [x, c] ∧ ClsV c u ∧ TyX K H x t ∧ PySem.W.kitOne K t u = some b ∧ R b := isi_tuple (Q := fun z _ => ∃ b, z = .bl b ∧ R b) W ⟨_, rfl, q⟩ |> fun ⟨x, c, t, u, b, h1, h2, h3, h4, b2, h5, h6⟩ => ⟨x, c, t, u, b, h1, h2, h3, h4, by cases h5; exact h6⟩
theorem ei_list (W : Wt H v) (q : R (isL H v)) : ∃ (x c : V) (t u : Value) (b : Bool), [v, V.ty "list"] = [x, c] ∧ ClsV c u ∧ TyX K H x t ∧ PySem.W.kitOne K t u = some b ∧ R b := isi_list (Q := fun z _ => ∃ b, z = .bl b ∧ R b) W ⟨_, rfl, q⟩ |> fun ⟨x, c, t, u, b, h1, h2, h3, h4, b2, h5, h6⟩ => ⟨x, c, t, u, b, h1, h2, h3, h4, by cases h5; exact h6⟩
theorem ei_dict (W : Wt H v) (q : R (isD H v)) : ∃ (x c : V) (t u : Value) (b : Bool), [v, V.ty "dict"] = [x, c] ∧ ClsV c u ∧ TyX K H x t ∧ PySem.W.kitOne K t u = some b ∧ R b := isi_dict (Q := fun z _ => ∃ b, z = .bl b ∧ R b) W ⟨_, rfl, q⟩ |> fun ⟨x, c, t, u, b, h1, h2, h3, h4, b2, h5, h6⟩ => ⟨x, c, t, u, b, h1, h2, h3, h4, by cases h5; exact h6⟩
end
theorem Wt.same {H H' : Hp} {v : V} (W : Wt H v) (e : Same H H') : Wt H' v := by
  cases W with
  | non => exact .non
  | bl b => exact .bl b
  | int i => exact .int i
  | str x => exact .str x
  | lst q => exact .lst (e _ _ q)
  | tup q => exact .tup (e _ _ q)
  | dct q => exact .dct (e _ _ q)
/-- not the object at h -/
def Off (h : Addr) (v : V) : Prop := v ≠ .ref h
theorem Wt.but {h : Addr} {H H' : Hp} {v : V} (W : Wt H v) (n : Off h v) (e : But h H H') : Wt H' v := by
  cases W with
  | non => exact .non
  | bl b => exact .bl b
  | int i => exact .int i
  | str x => exact .str x
  | lst q => exact .lst (e _ _ (fun z => n (by rw [z])) q)
  | tup q => exact .tup (e _ _ (fun z => n (by rw [z])) q)
  | dct q => exact .dct (e _ _ (fun z => n (by rw [z])) q)
theorem del_new {H : Hp} {a : Addr} {o : HO} (h : H a = none) : del (upd H a o) a = H := by
  funext b
  by_cases e : b = a
  · rw [e, del_same, h]
  · rw [del_ne e, upd_ne e]
/-- an integer within bounds -/
def btw (a b : Int) : V → Bool
  | .int i => decide (a ≤ i) && decide (i ≤ b)
  | _ => false
theorem btw_int {a b : Int} {v : V} (h : btw a b v = true) : ∃ i, v = .int i ∧ a ≤ i ∧ i ≤ b := by
  cases v with
  | int i =>
    obtain ⟨h1, h2⟩ := Bool.and_eq_true_iff.mp (show (decide (a ≤ i) && decide (i ≤ b)) = true from h)
    exact ⟨i, rfl, of_decide_eq_true h1, of_decide_eq_true h2⟩
  | _ => cases h
/-! ### promises of the program's first functions -/
def spPlain : Sp := fun vs H Q _ => ∃ v, vs = [v] ∧ Wt H v ∧ Q (.bl (isI v)) H
def spBetween : Sp := fun vs H Q _ => ∃ (a b : Int) (v : V), vs = [.int a, .int b, v] ∧ Wt H v ∧ Q (.bl (btw a b v)) H
def spWithin : Sp := fun vs H Q _ => ∃ (a b : Int) (v : V), vs = [v, .int a, .int b] ∧ Wt H v ∧ Q (.bl (btw a b v)) H
def spBtw (a b : Int) : Sp := fun vs H Q _ => ∃ v, vs = [v] ∧ Wt H v ∧ Q (.bl (btw a b v)) H
/-- a __init__ that leaves a fresh error as it is -/
def spErr0 (K : PySem.W.Frag) : Sp := fun vs H Q _ => ∃ (a C : Addr), vs = [.ref a] ∧ OexC K C ∧ H a = some (exo a C none) ∧ Q .non H
/-- a list or tuple, one of its items drawn -/
def spPick (K : PySem.W.Frag) : Sp := fun vs H Q _ => ∃ (h a : Addr) (xs : List V), vs = [.ref h, .ref a] ∧ Hand H h ∧ a ≠ h ∧ H a = some (.lst xs) ∧ 0 < xs.length ∧ xs.length < 1073741824 ∧
  ∀ (j : Nat) (v : V) (H' : Hp), xs[j]? = some v → Kp h H H' → Q v H'
/-- a drawn integer within bounds -/
def spDraw (lo hi : Int) : Sp := fun vs H Q _ => ∃ (h : Addr), vs = [.ref h] ∧ Hand H h ∧ ∀ (r : Int) (H' : Hp), lo ≤ r → r ≤ hi → Kp h H H' → Q (.int r) H'
theorem sz_b {n : Nat} (h : Nat.ble n 1000 = true) : n ≤ sizeLine := Nat.le_trans (Nat.le_of_ble_eq_true h) (by decide)
theorem new_at {H H' : Hp} {l : Addr} {o : HO} (hl : H l = none) (e : upd H l o = H') : Same H H' ∧ H' l = some o := by
  subst e
  exact ⟨Same.new hl, upd_same⟩
theorem Hand.ne {H : Hp} {h l : Addr} (A : Hand H h) (hl : H l = none) : l ≠ h := fun z => by
  obtain ⟨ys, y⟩ := A.some
  rw [z, y] at hl
  cases hl
theorem same_mut {H G : Hp} {p : Addr} {o : HO} (e : Same H G) (h : H p = none) : Same H (upd G p o) := fun b x q => by
  rw [upd_ne (ne_of_none q h)]
  exact e b x q
end Gw

set_option Elab.async false
set_option linter.all false
set_option maxRecDepth 100000
namespace Gw
/-! ### the seeds' powers -/
abbrev pN : Nat := 2147483647
def PN (k : Nat) : Nat := 48271 ^ k % pN
theorem PN_add (a b : Nat) : PN a * PN b % pN = PN (a + b) := by
  unfold PN
  rw [Nat.pow_add, ← Nat.mul_mod]
def pf : Nat → Nat → Nat
  | 0, _ => 1
  | f + 1, n => if n = 0 then 1 else if n % 2 = 0 then pf f (n / 2) * pf f (n / 2) % pN else (pf f (n / 2) * pf f (n / 2) % pN) * 48271 % pN
theorem pf_eq : ∀ (f n : Nat), n < 2 ^ f → pf f n = PN n
  | 0, n, h => by
    have : n = 0 := by rw [Nat.pow_zero] at h; omega
    subst this
    rfl
  | f + 1, n, h => by
    have h2 : n / 2 < 2 ^ f := by rw [Nat.pow_succ] at h; omega
    have ih := pf_eq f (n / 2) h2
    unfold pf
    by_cases h0 : n = 0
    · rw [if_pos h0, h0]
      rfl
    · rw [if_neg h0, ih, PN_add]
      by_cases h1 : n % 2 = 0
      · rw [if_pos h1]
        congr 1
        omega
      · rw [if_neg h1]
        have e : PN 1 = 48271 := rfl
        have z := PN_add (n / 2 + n / 2) 1
        rw [e] at z
        rw [z]
        congr 1
        omega
theorem PN_fermat : PN 2147483646 = 1 := by
  rw [← pf_eq 31 2147483646 (by decide)]
  decide +kernel
theorem PN_mul (t : Nat) : PN (2147483646 * t) = 1 := by
  induction t with
  | zero => rfl
  | succ t ih =>
    rw [Nat.mul_succ, ← PN_add, ih, PN_fermat]
    rfl
@[irreducible] def pwI (k : Nat) : Int := ((PN k : Nat) : Int)
theorem pwI_bounds (k : Nat) : 0 ≤ pwI k ∧ pwI k < 2147483647 := by
  have : PN k < pN := Nat.mod_lt _ (by decide)
  unfold pwI
  unfold pN at this
  omega
theorem pwI_add (a b : Nat) : pwI a * pwI b % 2147483647 = pwI (a + b) := by
  unfold pwI
  rw [← PN_add, ← Int.natCast_mul]
  exact (Int.natCast_emod _ _).symm
theorem pwI_zero : pwI 0 = 1 := by unfold pwI; rfl
theorem pwI_one : pwI 1 = 48271 := by unfold pwI; rfl
/-- the seed so many times behind s -/
@[irreducible] def SI (s : Int) (k : Nat) : Int := s * pwI k % 2147483647
theorem SI_bounds (s : Int) (k : Nat) : 0 ≤ SI s k ∧ SI s k < 2147483647 := by
  unfold SI
  exact ⟨Int.emod_nonneg _ (by decide), Int.emod_lt_of_pos _ (by decide)⟩
theorem emod_mul (a b : Int) : a % 2147483647 * b % 2147483647 = a * b % 2147483647 := by
  rw [Int.mul_emod, Int.emod_emod_of_dvd _ (Int.dvd_refl _), ← Int.mul_emod]
theorem mul_emod' (a b : Int) : a * (b % 2147483647) % 2147483647 = a * b % 2147483647 := by
  rw [Int.mul_comm, emod_mul, Int.mul_comm]
theorem SI_add (s : Int) (a b : Nat) : SI s a * pwI b % 2147483647 = SI s (a + b) := by
  unfold SI
  rw [emod_mul, Int.mul_assoc, ← pwI_add, mul_emod']
theorem SI_next (s : Int) (a : Nat) : SI s a * 48271 % 2147483647 = SI s (a + 1) := by rw [← SI_add, pwI_one]
theorem SI_SI (s : Int) (a b : Nat) : SI (SI s a) b = SI s (a + b) := by rw [← SI_add, SI]
theorem SI_one (s : Int) : s * 48271 % 2147483647 = SI s 1 := by rw [SI, pwI_one]
theorem SI_zero {s : Int} (h0 : 0 ≤ s) (h1 : s < 2147483647) : SI s 0 = s := by
  unfold SI
  rw [pwI_zero, Int.mul_one]
  exact Int.emod_eq_of_lt h0 h1
theorem SI_around {s : Int} (h0 : 0 ≤ s) (h1 : s < 2147483647) (t : Nat) : SI s (2147483646 * t) = s := by
  have e : SI s (2147483646 * t) = SI s 0 := by
    unfold SI pwI
    rw [PN_mul] <;> rfl
  rw [e, SI_zero h0 h1]
theorem SI_pos {s : Int} (h0 : 1 ≤ s) (h1 : s ≤ 2147483646) (k : Nat) : 1 ≤ SI s k := by
  have h := SI_bounds s k
  by_cases e : SI s k = 0
  · exfalso
    have z := SI_add s k (2147483646 * k - k)
    rw [e, Int.zero_mul, show k + (2147483646 * k - k) = 2147483646 * k by omega, SI_around (by omega) (by omega)] at z
    have : (0 : Int) % 2147483647 = 0 := rfl
    omega
  · omega
theorem SI_le (s : Int) (k : Nat) : SI s k ≤ 2147483646 := by
  have := (SI_bounds s k).2
  omega
theorem pw_sq (a : Nat) : pwI a * pwI a % 2147483647 = pwI (2 * a) := by
  rw [pwI_add]
  congr 1
  omega
theorem pw_ten (a : Nat) : pwI (8 * a) * pwI (2 * a) % 2147483647 = pwI (10 * a) := by
  rw [pwI_add]
  congr 1
  omega
theorem pw_next (a : Nat) : pwI a * 48271 % 2147483647 = pwI (a + 1) := by rw [← pwI_add, pwI_one]
theorem div_bd {x d : Int} (h0 : -100000000000000000000 ≤ x) (h1 : x ≤ 100000000000000000000) (d0 : 0 < d) : -100000000000000000000 ≤ x / d ∧ x / d ≤ 100000000000000000000 :=
  ⟨Int.le_ediv_of_mul_le d0 (by omega), Int.ediv_le_of_le_mul d0 (by omega)⟩
end Gw

set_option Elab.async false
set_option linter.all false
set_option maxRecDepth 100000
set_option maxHeartbeats 4000000
namespace Gw
open PySem PySem.Spec PyProof.Rows L2 He
theorem raise0 {K : PySem.W.Frag} {C : Addr} {σ : L2.St} {H : Hp} {Q : XK} (x : OexC K C) (q : Q (.ref C) none H) : tMk0 C (spErr0 K) σ H Q := fun a na => ⟨a, C, rfl, x, upd_same, rfl, upd_same, by rw [del_new na]; exact q⟩
/-- a text, sign by sign -/
theorem for_str {x : Str} {g : TG} {tb : TS} {D : Ends} {σ : L2.St} {H : Hp} (Pv : Nat → L2.St → Hp → Prop) (h0 : Pv 0 σ H)
    (hs : ∀ (i : Nat) (c : Nat) (σ : L2.St) (H : Hp), x.cps.toList[i]? = some c → Pv i σ H → g (.str ⟨#[c]⟩) σ H fun σ2 H2 => tb { D with nx := Pv (i + 1), ct := Pv (i + 1), bk := D.nx } σ2 H2) (hd : ∀ σ H, Pv x.cps.toList.length σ H → D.nx σ H) :
    ∃ W : Nat → Nat → L2.St → Hp → Prop, (∃ m, W 0 m σ H) ∧ ∀ i m σ H, W i m σ H →
      ((Its x).stop i H ∧ D.nx σ H) ∨ ((Its x).go i H ∧ ∃ N : L2.St → Hp → Prop, (∀ σ' H', N σ' H' → ∃ m', m' < m ∧ W (i + 1) m' σ' H') ∧ ∀ v H', (Its x).yld i H v H' → g v σ H' fun σ2 H2 => tb { D with nx := N, ct := N, bk := D.nx } σ2 H2) := by
  have el : x.cps.toList.length = x.cps.size := by simp
  refine ⟨fun i m σ H => m = x.cps.size - i ∧ i ≤ x.cps.size ∧ Pv i σ H, ⟨_, rfl, Nat.zero_le _, h0⟩, ?_⟩
  rintro i m σ H ⟨rfl, hi, p⟩
  by_cases hlt : i < x.cps.size
  · refine .inr ⟨hlt, Pv (i + 1), fun σ' H' p' => ⟨x.cps.size - (i + 1), by omega, rfl, hlt, p'⟩, fun v H' y => ?_⟩
    obtain ⟨rfl, c, hc, rfl⟩ := y
    exact hs i c σ H' (by rw [Array.getElem?_toList]; exact hc) p
  · have e : i = x.cps.toList.length := by omega
    subst e
    exact .inl ⟨Nat.le_of_eq el.symm, hd σ H p⟩
/-! ### promises of guessedworlds.numbers -/
def nn : V → Bool
  | .int n => decide (0 ≤ n)
  | _ => false
abbrev small : V → Bool := btw (-2147483648) 2147483647
abbrev seed : V → Bool := btw 1 2147483646
def spWrapped (K : PySem.W.Frag) : Sp := fun vs H Q E => ∃ v, vs = [v] ∧ Wt H v ∧ (∀ i, v = .int i → Q (.int ((i + 2147483648) % 4294967296 - 2147483648)) H) ∧ (isI v = false → E (.ref (ga K "NoNumber")) none H)
def spNext (K : PySem.W.Frag) : Sp := fun vs H Q E => ∃ v, vs = [v] ∧ Wt H v ∧ (∀ i, v = .int i → 1 ≤ i → i ≤ 2147483646 → Q (.int (SI i 1)) H) ∧ (seed v = false → E (.ref (ga K "NoSeed")) none H)
def spNext0 : Sp := fun vs H Q _ => ∃ i, vs = [.int i] ∧ 1 ≤ i ∧ i ≤ 2147483646 ∧ Q (.int (SI i 1)) H
def spAfter (K : PySem.W.Frag) : Sp := fun vs H Q E => ∃ v u, vs = [v, u] ∧ Wt H v ∧ Wt H u ∧ (∀ i n, v = .int i → 1 ≤ i → i ≤ 2147483646 → u = .int n → 0 ≤ n → Q (.int (SI i n.toNat)) H) ∧
  (seed v = false → E (.ref (ga K "NoSeed")) none H) ∧ (seed v = true → nn u = false → E (.ref (ga K "NoNumber")) none H)
def spAfter0 : Sp := fun vs H Q _ => ∃ i n, vs = [.int i, .int n] ∧ 1 ≤ i ∧ i ≤ 2147483646 ∧ 0 ≤ n ∧ Q (.int (SI i n.toNat)) H
def drawnI (i n : Int) : List V := if n < 1 then [.int 0, .int i] else [.int (SI i 1 / 16 % n), .int (SI i 1)]
def spDrawn (K : PySem.W.Frag) : Sp := fun vs H Q E => ∃ v u, vs = [v, u] ∧ Wt H v ∧ Wt H u ∧
  (∀ i n, v = .int i → 1 ≤ i → i ≤ 2147483646 → u = .int n → -2147483648 ≤ n → n ≤ 2147483647 → ∀ p, H p = none → Q (.ref p) (upd H p (.tup (drawnI i n)))) ∧
  (seed v = false → E (.ref (ga K "NoSeed")) none H) ∧ (seed v = true → small u = false → E (.ref (ga K "NoNumber")) none H)
end Gw

set_option Elab.async false
set_option linter.all false
set_option maxRecDepth 100000
set_option maxHeartbeats 4000000
namespace Gw
open PySem PySem.Spec PyProof.Rows L2 He
/-! ### promises of the laws' own helpers -/
def spHand (K : PySem.W.Frag) : Sp := fun vs H Q _ => ∃ (a : Addr) (ns : List Int), vs = [.ref a] ∧ SqL K H a (ns.map V.int) ∧ ∀ (h : Addr) (H' : Hp), H h = none → Hand H' h → Same H H' → Q (.ref h) H'
/-- bounded, if an int -/
def Bd (v : V) : Prop := ∀ i, v = .int i → -100000000000000000000 ≤ i ∧ i ≤ 100000000000000000000
def spOdd : Sp := fun vs H Q _ => ∃ (h : Addr), vs = [.ref h] ∧ Hand H h ∧ ∀ (v : V) (H' : Hp), Wt H' v → Off h v → Bd v → Kp h H H' → Q v H'
def spSome : Sp := fun vs H Q _ => ∃ (h : Addr) (u : V), vs = [.ref h, u] ∧ Hand H h ∧ Wt H u ∧ Off h u ∧ Bd u ∧ ∀ (v : V) (H' : Hp), Wt H' v → Off h v → Bd v → Kp h H H' → Q v H'
def spPower : Sp := fun vs H Q _ => ∃ n, vs = [.int n] ∧ 0 ≤ n ∧ n ≤ 1000000000000000000000 ∧ Q (.int (pwI n.toNat)) H
def spChained : Sp := fun vs H Q _ => ∃ s n, vs = [.int s, .int n] ∧ 1 ≤ s ∧ s ≤ 2147483646 ∧ 0 ≤ n ∧ n ≤ 1000 ∧ Q (.int (SI s n.toNat)) H
/-- a new tuple of what f says of the arguments -/
def spTup (f : List V → List V) (n : Nat) : Sp := fun vs H Q _ => vs.length = n ∧ (∀ v ∈ vs, Wt H v) ∧ (∀ v ∈ vs, Bd v) ∧ ∀ p, H p = none → Q (.ref p) (upd H p (.tup (f vs)))
def resW (v : V) : List V := match v with
  | .int i => [.str "told", .int ((i + 2147483648) % 4294967296 - 2147483648)]
  | _ => [.str "NoNumber"]
def resN (v : V) : List V := match v with
  | .int i => if 1 ≤ i ∧ i ≤ 2147483646 then [.str "told", .int (SI i 1)] else [.str "NoSeed"]
  | _ => [.str "NoSeed"]
def resA (v u : V) : List V := if seed v = true then (if nn u = true then (match v, u with
    | .int i, .int n => [.str "told", .int (SI i n.toNat)]
    | _, _ => []) else [.str "NoNumber"]) else [.str "NoSeed"]
def sp1 (f : V → List V) : Sp := fun vs H Q _ => ∃ v, vs = [v] ∧ Wt H v ∧ ∀ p, H p = none → Q (.ref p) (upd H p (.tup (f v)))
def sp2 (f : V → V → List V) : Sp := fun vs H Q _ => ∃ v u, vs = [v, u] ∧ Wt H v ∧ Wt H u ∧ Bd u ∧ ∀ p, H p = none → Q (.ref p) (upd H p (.tup (f v u)))
/-- of a draw: the tuple of "told" and a tuple, or of an error's name -/
def spDr : Sp := fun vs H Q _ => ∃ v u, vs = [v, u] ∧ Wt H v ∧ Wt H u ∧
  (∀ i n, v = .int i → 1 ≤ i → i ≤ 2147483646 → u = .int n → -2147483648 ≤ n → n ≤ 2147483647 → ∀ p r, H p = none → (upd H p (.tup (drawnI i n))) r = none → Q (.ref r) (upd (upd H p (.tup (drawnI i n))) r (.tup [.str "told", .ref p]))) ∧
  (seed v = false → ∀ r, H r = none → Q (.ref r) (upd H r (.tup [.str "NoSeed"]))) ∧ (seed v = true → small u = false → ∀ r, H r = none → Q (.ref r) (upd H r (.tup [.str "NoNumber"])))
/-! ### data that are the same, to a depth -/
def Sm (H : Hp) : Nat → V → V → Prop
  | 0, v, u => v = u ∧ (isI u || isS u || isN u || isB u) = true
  | n + 1, v, u => (v = u ∧ (isI u || isS u || isN u || isB u) = true) ∨ ∃ a b xs ys, v = .ref a ∧ u = .ref b ∧ H a = some (.tup xs) ∧ H b = some (.tup ys) ∧ xs.length = ys.length ∧ ∀ (i : Nat) x y, xs[i]? = some x → ys[i]? = some y → Sm H n x y
theorem Sm.same {H H' : Hp} (e : Same H H') : ∀ {n : Nat} {v u : V}, Sm H n v u → Sm H' n v u
  | 0, _, _, h => h
  | n + 1, v, u, h => by
    rcases h with h | ⟨a, b, xs, ys, h1, h2, h3, h4, h5, h6⟩
    · exact .inl h
    · exact .inr ⟨a, b, xs, ys, h1, h2, e _ _ h3, e _ _ h4, h5, fun i x y hx hy => (h6 i x y hx hy).same e⟩
theorem Sm.wt {H : Hp} : ∀ {n : Nat} {v u : V}, Sm H n v u → Wt H v ∧ Wt H u
  | 0, v, u, h => by
    obtain ⟨rfl, h⟩ := h
    cases v <;> first | exact ⟨.int _, .int _⟩ | exact ⟨.str _, .str _⟩ | exact ⟨.non, .non⟩ | exact ⟨.bl _, .bl _⟩ | cases h
  | n + 1, v, u, h => by
    rcases h with ⟨rfl, h⟩ | ⟨a, b, xs, ys, rfl, rfl, h3, h4, _⟩
    · cases v <;> first | exact ⟨.int _, .int _⟩ | exact ⟨.str _, .str _⟩ | exact ⟨.non, .non⟩ | exact ⟨.bl _, .bl _⟩ | cases h
    · exact ⟨.tup h3, .tup h4⟩
theorem Sm.flat {H : Hp} {n : Nat} {v : V} (h : (isI v || isS v || isN v || isB v) = true) : Sm H n v v := by
  cases n with
  | zero => exact ⟨rfl, h⟩
  | succ n => exact .inl ⟨rfl, h⟩
def spSame (n : Nat) : Sp := fun vs H Q _ => ∃ v u, vs = [v, u] ∧ Sm H n v u ∧ ∀ H', Same H H' → Q (.bl true) H'
def SmB (H : Hp) : Nat → V → V → Prop
  | 0, _, _ => False
  | n + 1, v, u => Sm H n v u
theorem SmB.same {H H' : Hp} (e : Same H H') : ∀ {n : Nat} {v u : V}, SmB H n v u → SmB H' n v u
  | 0, _, _, h => h
  | n + 1, _, _, h => Sm.same e h
def spSameB (n : Nat) : Sp := fun vs H Q _ => ∃ v u, vs = [v, u] ∧ SmB H n v u ∧ ∀ H', Same H H' → Q (.bl true) H'
/-! ### a text, so many times -/
def rMulS : R2 := fun x y H Q => ∃ (z : Str) (n : Int), x = .str z ∧ y = .int n ∧ PySem.MulOk z n ∧ Q (.str (PySem.Txt.mul z n)) H
theorem op_mulS {X : Cx} : OpR X (binaryOp .Mult) rMulS := by
  intro pins s σ H x y v u Q I rx ry h
  obtain ⟨z, n, rfl, rfl, ok, q⟩ := h
  obtain ⟨t, rfl⟩ := rx
  obtain ⟨t', rfl⟩ := ry
  exact PySem.SB.mul ok fun t2 k => ⟨.str _, H, I.tok k, ⟨_, rfl⟩, q⟩
/-! ### the signs of a number -/
theorem digit_text {c : Nat} (h : 48 ≤ c ∧ c ≤ 57) : PySem.intText? ⟨#[c]⟩ = some ((c - 48 : Nat) : Int) := by
  have cs : c = 48 ∨ c = 49 ∨ c = 50 ∨ c = 51 ∨ c = 52 ∨ c = 53 ∨ c = 54 ∨ c = 55 ∨ c = 56 ∨ c = 57 := by omega
  rcases cs with rfl | rfl | rfl | rfl | rfl | rfl | rfl | rfl | rfl | rfl <;> decide +kernel
theorem num_digit {m i c : Nat} (h : (PySem.Str.ofString (toString ((m : Nat) : Int))).cps.toList[i]? = some c) : 48 ≤ c ∧ c ≤ 57 := by
  rw [PySem.W.KIN.signs_num] at h
  obtain ⟨ch, hch, e⟩ := List.mem_map.mp (List.mem_of_getElem? h)
  have r := PyProof.Rows.digit_range (Nat.isDigit_of_mem_toDigits (by decide) (by decide) hch)
  rw [← e]
  exact r
theorem num_val (m : Nat) : PySem.NumText.digitsVal (PySem.Str.ofString (toString ((m : Nat) : Int))).cps.toList = m := by
  rw [PySem.W.KIN.signs_num, PySem.W.KIN.val_back]
theorem take_val {l : List Nat} {i c : Nat} (h : l[i]? = some c) : PySem.NumText.digitsVal (l.take (i + 1)) = 10 * PySem.NumText.digitsVal (l.take i) + (c - 48) := by
  rw [List.take_add_one, h]
  show PySem.NumText.digitsVal (l.take i ++ [c]) = _
  rw [PySem.NumText.digitsVal_snoc]
  omega
theorem log_small {i : Int} (h0 : 0 ≤ i) (h : i ≤ 1000000000000000000000) : i.natAbs.log2 < 1920 := by
  have h1 : i.natAbs < 2 ^ 70 := by omega
  exact Nat.lt_of_lt_of_le (PySem.Flt.log2_lt_of (by decide) h1) (by decide)
abbrev flatB (x : V) : Bool := isI x || isS x || isN x || isB x
theorem Sm.tups {H : Hp} {n : Nat} {a b : Addr} {xs : List V} (ha : H a = some (.tup xs)) (hb : H b = some (.tup xs)) (fl : ∀ x ∈ xs, flatB x = true) : Sm H (n + 1) (.ref a) (.ref b) :=
  .inr ⟨a, b, xs, xs, rfl, rfl, ha, hb, rfl, fun i x y hx hy => by
    rw [hx] at hy
    cases hy
    exact Sm.flat (fl x (List.mem_of_getElem? hx))⟩
theorem SmB.tups {H : Hp} {n : Nat} {a b : Addr} {xs : List V} (ha : H a = some (.tup xs)) (hb : H b = some (.tup xs)) (fl : ∀ x ∈ xs, flatB x = true) : SmB H (n + 2) (.ref a) (.ref b) := Sm.tups ha hb fl
theorem SmB.flat {H : Hp} {n : Nat} {v : V} (h : flatB v = true) : SmB H (n + 1) v v := Sm.flat h
theorem resW_flat (v : V) : ∀ x ∈ resW v, flatB x = true := by
  intro x hx
  cases v <;> (unfold resW at hx; simp only [List.mem_cons, List.not_mem_nil, or_false] at hx)
  case int i =>
    rcases hx with rfl | rfl <;> rfl
  all_goals (subst hx; rfl)
theorem resA_flat (v u : V) : ∀ x ∈ resA v u, flatB x = true := by
  intro x hx
  unfold resA at hx
  split at hx
  · split at hx
    · split at hx
      · simp only [List.mem_cons, List.not_mem_nil, or_false] at hx
        rcases hx with rfl | rfl <;> rfl
      · cases hx
    · simp only [List.mem_cons, List.not_mem_nil, or_false] at hx
      subst hx
      rfl
  · simp only [List.mem_cons, List.not_mem_nil, or_false] at hx
    subst hx
    rfl
theorem resN_eq (v : V) : resN v = resA v (.int 1) := by
  unfold resA
  cases v with
  | int i =>
    have e1 : nn (.int 1) = true := rfl
    by_cases h : 1 ≤ i ∧ i ≤ 2147483646
    · have hv : seed (.int i) = true := by show (decide _ && decide _) = true; rw [decide_eq_true h.1, decide_eq_true h.2]; rfl
      rw [if_pos hv, if_pos e1]
      exact if_pos h
    · have hv : ¬ seed (.int i) = true := fun z => by
        obtain ⟨j, e, h1, h2⟩ := btw_int z
        cases e
        exact h ⟨h1, h2⟩
      rw [if_neg hv]
      exact if_neg h
  | _ => rfl
def spLaw (K : PySem.W.Frag) : Sp := fun vs H Q _ => ∃ (a : Addr) (ns : List Int), vs = [.ref a] ∧ SqL K H a (ns.map V.int) ∧ ∀ H', Q (.bl true) H'
end Gw

set_option Elab.async false
set_option linter.all false
set_option maxRecDepth 100000
set_option maxHeartbeats 4000000
namespace PySem
open Sem (wp)
set_option maxHeartbeats 1000000 in
theorem gw_enumerate_newB {v : Value} {o : Obj} {H : Heap → Prop} (B : Begins v o H) :
    Meets (Builtin.«enumerate.__new__» ⟨[.type "enumerate", v], []⟩) (fun _ R s => H s.heap ∧
      R (.ok (.ret (.ref (s.heap.push o).objs.size))) { s with heap := (s.heap.push o).push { cls := .type "enumerate", data := .fields #[.none, .bool false, .ref s.heap.objs.size, rawInt 0, .none, .none] } }) :=
  .of_wp fun prog w A R s h => by
    obtain ⟨hp, g, d, tk, os⟩ := s; obtain ⟨h1, h⟩ := h
    have hsub := sub_enumerate
    have q1 : ∀ {A' : Around} {E : Value → Shared → Prop} {Q : Value → Shared → Prop}, Q (.ref hp.objs.size) ⟨hp.push o, g, d, tk, os⟩ → wpAny (model prog w) A' (pyIter v) Q E ⟨hp, g, d, tk, os⟩ :=
      fun q => B.iter prog w _ _ ⟨hp, g, d, tk, os⟩ _ h1 q
    wp_walk using q1
    refine wpAny_stack_any fun st => wpAny_pure ?_
    split
    · rename_i c _ _ _ _ _
      cases (c == Value.type "enumerate")
      · wp_walk using q1
        exact ⟨_, rfl, h⟩
      · wp_walk using q1
        exact ⟨_, rfl, h⟩
    · wp_walk using q1
      exact ⟨_, rfl, h⟩
theorem gw_enum_begins {prog : Program} {w : World} {A : Around} {E : Value → Shared → Prop} {s : Shared} {v : Value} {o : Obj} {H : Heap → Prop} {Q : Value → Shared → Prop} (B : Begins v o H) (h1 : H s.heap)
    (h : ∀ h', IsEnum h' (s.heap.objs.size + 1) s.heap.objs.size 0 .none → h'.get? s.heap.objs.size = some o → h'.objs.size = s.heap.objs.size + 2 →
      (∀ b o, s.heap.get? b = some o → h'.get? b = some o) → Q (.ref (s.heap.objs.size + 1)) { s with heap := h' }) :
    wpAny (model prog w) A (call (.type "enumerate") [v]) Q E s := by
  refine callType_new F.called_enumerate (by decide) (F.typeCall_enumerate_1 _) (F.newCall_enumerate_1 _) (fun obj => F.args_object_init_2 obj _) F.entry_enumerate_new
    (gw_enumerate_newB B) ⟨h1, ?_⟩
  have hz : (s.heap.push o).objs.size = s.heap.objs.size + 1 := Heap.size_push ..
  show _ ∧ _
  rw [hz]
  have he : IsEnum ((s.heap.push o).push { cls := .type "enumerate", data := .fields #[.none, .bool false, .ref s.heap.objs.size, rawInt 0, .none, .none] }) (s.heap.objs.size + 1) s.heap.objs.size 0 .none := by
    have := Heap.get?_push_size (s.heap.push o) (o := { cls := .type "enumerate", data := .fields #[.none, .bool false, .ref s.heap.objs.size, rawInt 0, .none, .none] }) rfl
    rw [hz] at this; exact this
  refine ⟨⟨_, he, rfl⟩, h _ he (Heap.get?_push_of_some _ (Heap.get?_push_size _ B.free)) (by rw [Heap.size_push, hz]) fun b o x => Heap.get?_push_of_some _ (Heap.get?_push_of_some _ x)⟩
end PySem
namespace Gw
open PySem PySem.Spec PyProof.Rows L2 He
/-! ### enumerate(tuple) -/
def IteT (K : PySem.W.Frag) (a : Addr) (n : Nat) : It :=
  ⟨fun i H => ∃ (xs : List V) (x : V), SqT K H a xs ∧ xs.length = n ∧ xs[i]? = some x, fun i H v H' => ∃ T x, v = .ref T ∧ H T = none ∧ H' = upd H T (.tup [.int (i : Nat), x]) ∧ ∀ xs, SqT K H a xs → xs[i]? = some x, fun i H => ∃ xs : List V, SqT K H a xs ∧ xs.length = n ∧ n ≤ i⟩
theorem turn_enumT {P : Program} {w : World} {K : PySem.W.Frag} {elts : List Expr} {kk : Nat} {tpos : Pos} (a e it : Addr) (n : Nat) :
    Turn P w K (.Tuple elts kk tpos) (IteT K a n) [e, it] e (fun i h => (∃ old, IsEnum h e it ((i : Nat) : Int) old) ∧ h.IsTupleIter it a i ∧ e ≠ it ∧ a ≠ it ∧ e ≠ a ∧ i ≤ n) where
  mem := by simp
  obj := fun i h st b hb => by
    obtain ⟨⟨old, he⟩, ⟨o, ho, hc, hd⟩, _⟩ := st
    have e' : b = e ∨ b = it := by simpa using hb
    rcases e' with z | z
    · rw [z]; exact ⟨_, he, fun v q => nomatch q⟩
    · rw [z]; exact ⟨o, ho, fun v q => by rw [hd] at q; cases q⟩
  keep := fun i h h' st k => let ⟨⟨old, he⟩, hi, hne⟩ := st; ⟨⟨old, k e (by simp) _ he⟩, hi.at fun o q => k it (by simp) o q, hne⟩
  item := by
    intro X hP hw hK hc i pins s σ H E I hf st hg
    subst hP hw hK
    obtain ⟨⟨old, he⟩, hit, hne, hat, hea, hin⟩ := st
    obtain ⟨xs, x, hq, hn, hx⟩ := hg
    obtain ⟨its, rv, p, hz⟩ := I.tuple hq
    obtain ⟨u, hu, ru⟩ := rv.get hx
    have hel : e < s.heap.objs.size := Heap.lt_size he
    have hil : it < s.heap.objs.size := by obtain ⟨_, q, _⟩ := hit; exact Heap.lt_size q
    have hlt : i < its.toArray.size := by
      have z := (List.getElem?_eq_some_iff.mp hu).1
      simpa using z
    have D := PySem.Draws.tuple (prog := X.prog) (w := X.w) (A := X.A.in1) (show X.A.in1.handled = none from I.ok.hd hc) it a hat its.toArray
    refine PySem.wpAny_pyNext_enum_itemC (c := ((i : Nat) : Int)) D he ⟨hit, p⟩ hlt hne (by simp [hne, hea]) fun x' h' tk hx' ho hit' hT hsz hk => ?_
    have eu : x' = u := by
      have q1 : its.toArray[i]? = some x' := hx'
      have q2 : its.toArray[i]? = some u := by simpa using hu
      rw [q1] at q2
      exact Option.some.inj q2
    subst eu
    refine ⟨_, rfl, wpAny_letOwnedTupleGo_enum (s := { s with heap := h', toks := tk + 1 }) ho fun h'' he' sb => ?_⟩
    have hT2 : h''.get? s.heap.objs.size = some { cls := .type "tuple", data := .seq #[.int i tk, x'] } := (sb.2 _ (Nat.ne_of_gt hel)).trans hT
    have new : ObjOk X.prog X.w (upd H s.heap.objs.size (.tup [.int (i : Nat), x])) h'' s.heap.objs.size (.tup [.int (i : Nat), x]) :=
      ⟨by show 2 ≤ sizeLine; decide, [.int i tk, x'], .cons ⟨_, rfl⟩ (.cons ru .nil), ⟨_, hT2, rfl, _, rfl⟩⟩
    have I1 : Inv X pins σ (upd H s.heap.objs.size (.tup [.int (i : Nat), x])) { s with heap := h'', toks := tk + 1 } :=
      I.turnedNew (ch := [e, it]) (fun b ob hb q => (sb.2 b (fun z => hb (by simp [z]))).trans (hk b ob (fun z => hb (by simp [z])) (fun z => hb (by simp [z])) q)) hf (Nat.le_refl _) new
    refine ⟨.ref s.heap.objs.size, _, I1, rfl, ⟨_, x, rfl, I.hok.fresh (Nat.le_refl _), rfl, fun ys hy => by rw [I.tuple_inj hy hq]; exact hx⟩, ⟨⟨x', ?_⟩, hit'.1.at fun o q => (sb.2 it (Ne.symm hne)).trans q, hne, hat, hea, by have z := (List.getElem?_eq_some_iff.mp hx).1; omega⟩, fun b hb => ?_⟩
    · have e1 : ((i + 1 : Nat) : Int) = (i : Int) + 1 := by omega
      rw [e1]; exact he'
    · have hb' : b < s.heap.objs.size := by
        have e' : b = e ∨ b = it := by simpa using hb
        rcases e' with z | z
        · rw [z]; exact hel
        · rw [z]; exact hil
      rw [upd_ne (Nat.ne_of_lt hb')]
      exact (hf b hb).1
  done := by
    intro X hP hw hK hc i pins s σ H E I hf st hg
    subst hP hw hK
    obtain ⟨⟨old, he⟩, hit, hne, hat, hea, hin⟩ := st
    obtain ⟨xs, hq, hn, hx⟩ := hg
    obtain ⟨its, rv, p, hz⟩ := I.tuple hq
    obtain ⟨f0, f1, f2, f3, f4, f5⟩ := hf it (by simp)
    have hl := rv.length
    have D := PySem.Draws.tuple (prog := X.prog) (w := X.w) (A := X.A.in1) (show X.A.in1.handled = none from I.ok.hd hc) it a hat its.toArray
    have ei : i = its.toArray.size := by simp; omega
    refine PySem.wpAny_pyNext_enum_endD (i := ((i : Nat) : Int)) D he ⟨by rw [← ei]; exact hit, p⟩ fun h' eb => ⟨rfl, I.turned (t' := s.toks) (fun b o hb q => eb b o hb q) f0 f1 f3 f4 f5⟩
  self := fun A i s Q E st h => let ⟨⟨_, he⟩, _⟩ := st; wpAny_pyIter_enum he h
def iEnumT (K : PySem.W.Frag) (ta : TA) : TI := fun σ H R => ta σ H fun vs H1 => ∃ a xs, vs = [.ref a] ∧ SqT K H1 a xs ∧ R (IteT K a xs.length) H1
theorem pi_enumT {X : Cx} {e : Expr} {ta : TA} {p pos tpos : Pos} {elts : List Expr} {kk : Nat} (hg : Gl X "enumerate") (hm : X.mg "enumerate" = none) (ha : PA X [e] ta) (hs : starEach [e] X.env = [(false, eval e X.env)] := by rfl) :
    PI X (.Tuple elts kk tpos) (.Call (.Name "enumerate" p) [e] [] pos) (iEnumT X.K ta) := by
  refine ⟨fun pins s σ H R I h => ?_⟩
  refine Call_ (ld_blt I hg hm boot_enumerate (PyProof.Rows.callWith_type1 (thn (ha.run pos pins s σ H _ I h) fun us s1 ⟨vs, H1, I1, r1, q1⟩ => ?_) hs rfl))
  obtain ⟨a, xs, ex, hq, q⟩ := q1
  subst ex
  cases r1 with
  | cons r rr =>
    cases rr
    cases r
    obtain ⟨its, rv, p', hz⟩ := I1.tuple hq
    have hal : a < s1.heap.objs.size := by obtain ⟨o, ho, _⟩ := p'; exact Heap.lt_size ho
    refine PySem.gw_enum_begins (PySem.begins_tuple a its.toArray) p' fun h' he hit hsz hk => wpAny_pyIter_enum he ?_
    have I2 : Inv X pins σ H1 { s1 with heap := h' } := I1.kept (t' := s1.toks) hk
    refine ⟨s1.heap.objs.size + 1, [s1.heap.objs.size + 1, s1.heap.objs.size], _, _, H1, rfl, I2, turn_enumT a (s1.heap.objs.size + 1) s1.heap.objs.size xs.length, ⟨⟨.none, he⟩, ⟨_, hit, rfl, rfl⟩, Nat.succ_ne_self _, Nat.ne_of_lt hal, Nat.ne_of_gt (Nat.lt_succ_of_lt hal), Nat.zero_le _⟩, fun b hb => ?_, q⟩
    have e' : b = s1.heap.objs.size + 1 ∨ b = s1.heap.objs.size := by simpa using hb
    have hle : s1.heap.objs.size ≤ b := by
      rcases e' with z | z
      · rw [z]; exact Nat.le_add_right _ _
      · rw [z]; exact Nat.le_refl _
    exact I1.fpOk hle (I1.hok.fresh hle)
theorem for_enumT {K : PySem.W.Frag} {a : Addr} {xs : List V} {g : TG} {tb : TS} {D : Ends} {σ : L2.St} {H : Hp} (Pv : Nat → L2.St → Hp → Prop) (h0 : Pv 0 σ H) (hl : ∀ i σ H, Pv i σ H → SqT K H a xs)
    (hs : ∀ i x t σ H, xs[i]? = some x → Pv i σ H → H t = none → g (.ref t) σ (upd H t (.tup [.int (i : Nat), x])) fun σ2 H2 => tb { D with nx := Pv (i + 1), ct := Pv (i + 1), bk := D.nx } σ2 H2) (hd : ∀ σ H, Pv xs.length σ H → D.nx σ H) :
    ∃ W : Nat → Nat → L2.St → Hp → Prop, (∃ m, W 0 m σ H) ∧ ∀ i m σ H, W i m σ H →
      ((IteT K a xs.length).stop i H ∧ D.nx σ H) ∨ ((IteT K a xs.length).go i H ∧ ∃ N : L2.St → Hp → Prop, (∀ σ' H', N σ' H' → ∃ m', m' < m ∧ W (i + 1) m' σ' H') ∧ ∀ x H', (IteT K a xs.length).yld i H x H' → g x σ H' fun σ2 H2 => tb { D with nx := N, ct := N, bk := D.nx } σ2 H2) := by
  refine ⟨fun i m σ H => m = xs.length - i ∧ i ≤ xs.length ∧ Pv i σ H, ⟨xs.length, by simp, Nat.zero_le _, h0⟩, ?_⟩
  rintro i m σ H ⟨rfl, hi, p⟩
  have q := hl i σ H p
  by_cases hlt : i < xs.length
  · refine .inr ⟨⟨xs, xs[i], q, rfl, by simp [hlt]⟩, Pv (i + 1), fun σ' H' p' => ⟨xs.length - (i + 1), by omega, rfl, hlt, p'⟩, fun x H' y => ?_⟩
    obtain ⟨T, x, rfl, hT, rfl, y⟩ := y
    exact hs i x T σ _ (y xs q) p hT
  · have e : i = xs.length := by omega
    subst e
    exact .inl ⟨⟨xs, q, rfl, Nat.le_refl _⟩, hd σ H p⟩
/-! ### range(i, j) of any integers -/
theorem turn_long {P : Program} {w : World} {K : PySem.W.Frag} {tg : Expr} (it : Addr) (lo : Int) (n : Nat) : Turn P w K tg (Itr lo n) [it] it (fun i h => IsLongIter h it (lo + (i : Nat) * 1) ((n : Int) - (i : Nat)) 1) where
  mem := by simp
  obj := fun i h st b hb => by
    have e : b = it := by simpa using hb
    subst e
    exact ⟨_, st, fun v z => by
      have z' : Data.fields _ = Data.cell v := z
      cases z'⟩
  keep := fun i h h' st k => k it (by simp) _ st
  item := by
    intro X hP hw hK hc i pins s σ H E I hf st hg
    subst hP hw hK
    obtain ⟨f0, f1, f2, f3, f4, f5⟩ := hf it (by simp)
    have W := Walks.longrange (prog := X.prog) (w := X.w) (I.ok.hd hc) it lo 1 n
    refine W.item i s _ _ hg st fun v h' tk hv st' kk => ?_
    obtain ⟨t, rfl⟩ := hv
    have I1 : Inv X pins σ H { s with heap := h', toks := tk } := I.turned (fun b o hb e => kk b o (by simpa using hb) e) f0 f1 f3 f4 f5
    refine ⟨_, rfl, go_of (s := { s with heap := h', toks := tk }) (n := "longrange_iterator") st' rfl rfl (by decide) ⟨.int (lo + i), H, I1, ⟨t, ?_⟩, ⟨rfl, rfl⟩, st', fun b hb => (hf b hb).1⟩⟩
    rw [Int.mul_one]
  done := by
    intro X hP hw hK hc i pins s σ H E I hf st hg
    subst hP hw hK
    obtain ⟨f0, f1, f2, f3, f4, f5⟩ := hf it (by simp)
    exact wpAny_pyNext_long_end (I.ok.hd hc) st (by have : n ≤ i := hg; omega) fun h' eb => ⟨rfl, I.turned (t' := s.toks) (fun b o hb e => eb b o hb e) f0 f1 f3 f4 f5⟩
  self := fun A i s Q E st h => wpAny_pyIter_longiter st h
theorem range_itW {X : Cx} {tg : Expr} {pins : List (Addr × Obj)} {σ : L2.St} {H : Hp} {s : Shared} {R : It → Hp → Prop} {E : Value → Shared → Prop} {lo hi : Int} {t u v : Tok} {tk : Nat} (I : Inv X pins σ H s)
    (q : R (Itr lo (hi - lo).toNat) H) : wpAny (model X.prog X.w) X.A (pyIter (.ref s.heap.objs.size)) (PIE X pins σ tg R) E { s with heap := s.heap.push { cls := .type "range", data := .fields #[.int lo t, .int hi u, .int 1 v] }, toks := tk } := by
  have I1 : Inv X pins σ H { s with heap := s.heap.push { cls := .type "range", data := .fields #[.int lo t, .int hi u, .int 1 v] }, toks := tk } := I.kept fun b o e => Heap.get?_push_of_some _ e
  have e1 : lo + ((0 : Nat) : Int) * 1 = lo := by simp
  have e2 : (((hi - lo).toNat : Nat) : Int) - ((0 : Nat) : Int) = Builtin.Range.rangeSize lo hi 1 := by rw [rangeSize_one]; split <;> omega
  cases hs : Builtin.Range.small lo hi 1
  · refine wpAny_pyIter_longrange (IsRange.new ..) hs ?_
    refine pi_one (tk := tk) I1 _ (turn_long _ lo (hi - lo).toNat) ?_ q
    show IsLongIter _ _ (lo + ((0 : Nat) : Int) * 1) ((((hi - lo).toNat : Nat) : Int) - ((0 : Nat) : Int)) 1
    rw [e1, e2]
    exact Heap.get?_push_size _ rfl
  · refine wpAny_pyIter_range (IsRange.new ..) hs ?_
    refine pi_one (tk := tk) I1 _ (turn_range _ lo (hi - lo).toNat) ?_ q
    show IsRangeIter _ _ (lo + ((0 : Nat) : Int) * 1) ((((hi - lo).toNat : Nat) : Int) - ((0 : Nat) : Int)) 1
    rw [e1, e2]
    exact Heap.get?_push_size _ rfl
def iRng2W (ta : TA) : TI := fun σ H R => ta σ H fun vs H1 => ∃ i j : Int, vs = [.int i, .int j] ∧ R (Itr i (j - i).toNat) H1
theorem pi_range2W {X : Cx} {tg : Expr} {a b : Expr} {ta : TA} {p pos : Pos} (hg : Gl X "range") (hm : X.mg "range" = none) (ha : PA X [a, b] ta) (hs : starEach [a, b] X.env = [(false, eval a X.env), (false, eval b X.env)] := by rfl) (hs2 : starEach [b] X.env = [(false, eval b X.env)] := by rfl) :
    PI X tg (.Call (.Name "range" p) [a, b] [] pos) (iRng2W ta) := by
  refine ⟨fun pins s σ H R I h => ?_⟩
  refine Call_ (ld_blt I hg hm boot_range (PyProof.Rows.callWith_type1 (thn (ha.run pos pins s σ H _ I h) fun us s1 ⟨vs, H1, I1, r1, q1⟩ => ?_) (by rw [hs, hs2]) (by rw [hs2]; rfl)))
  obtain ⟨i, j, e, q⟩ := q1
  subst e
  cases r1 with
  | cons r rr =>
    cases rr with
    | cons r' rr =>
      cases rr
      obtain ⟨t, rfl⟩ := r
      obtain ⟨t', rfl⟩ := r'
      exact call_range_2 (range_itW I1 q)
def iRng1W (ta : TA) : TI := fun σ H R => ta σ H fun vs H1 => ∃ j : Int, vs = [.int j] ∧ R (Itr 0 j.toNat) H1
theorem pi_range1W {X : Cx} {tg : Expr} {a : Expr} {ta : TA} {p pos : Pos} (hg : Gl X "range") (hm : X.mg "range" = none) (ha : PA X [a] ta) (hs : starEach [a] X.env = [(false, eval a X.env)] := by rfl) :
    PI X tg (.Call (.Name "range" p) [a] [] pos) (iRng1W ta) := by
  refine ⟨fun pins s σ H R I h => ?_⟩
  refine Call_ (ld_blt I hg hm boot_range (PyProof.Rows.callWith_type1 (thn (ha.run pos pins s σ H _ I h) fun us s1 ⟨vs, H1, I1, r1, q1⟩ => ?_) (by rw [hs]; rfl) (by rfl)))
  obtain ⟨j, e, q⟩ := q1
  subst e
  cases r1 with
  | cons r rr =>
    cases rr
    obtain ⟨t, rfl⟩ := r
    refine call_range_1 (range_itW I1 (lo := 0) ?_)
    rw [Int.sub_zero]
    exact q
/-! ### the own ==, whatever it answers -/
/-- an own == of two instances of the class at C: what R says of them, for some outcome -/
def rOwnEq (C : Addr) (sp : Sp) : R2 := fun x y H Q => ∃ a b dx dy fs gs, x = .ref a ∧ y = .ref b ∧ H a = some (.ins C dx fs) ∧ H b = some (.ins C dy gs) ∧ sp [.ref a, .ref b] H (fun v H' => ∃ r : Bool, v = .bl r ∧ Q (.bl r) H') E0
theorem op_ownEq {X : Cx} {CX : CXT} {n : Nat} {C f : Addr} {fd : FuncData} {ps : List Str} {sp : Sp} (F : FnOk X.prog X.w X.K X.mg X.base CX n f fd ps sp) (hr : Room n X.A)
    (hs : PySem.W.findIn X.K (.ref C) "__eq__" = some (some (.ref f))) (hf : PySem.W.isFn X.K (.ref f) = true) (hb : Binds X.K fd ps []) (hx : Passes CX X E0) : OpR X (compareOp .Eq) (rOwnEq C sp) := by
  intro pins s σ H x y v u Q I rx ry d
  obtain ⟨a, b, dx, dy, fs, gs, rfl, rfl, ha, hb', hsp⟩ := d
  cases rx
  cases ry
  obtain ⟨mA, J, _⟩ := ins_get I.hok ha
  obtain ⟨mB, J', _⟩ := ins_get I.hok hb'
  obtain ⟨od, J, _⟩ := J.look
  obtain ⟨od', J', _⟩ := J'.look
  obtain ⟨m, hF⟩ := I.fr
  show wpAny (model X.prog X.w) X.A (richCompare .Eq (.ref a) (.ref b)) (EP X pins σ Q) X.xe s
  refine PySem.W.cmp_K (op := .Eq) (tb := .ref C) hr.units0 hF I.ok.mod.kin J J'.type (by simp [PySem.W.notFirst]) hs hf ?_
  have hl := F.len _ _ _ _ hsp
  have r2 : Vals [V.ref a, V.ref b] [Value.ref a, Value.ref b] := .cons rfl (.cons rfl .nil)
  refine wpAny_call (codeAny_mono (F.run X.A X.stack s H ⟨[.ref a, .ref b], []⟩ [.ref a, .ref b] [.ref a, .ref b] _ E0 hr I.env0 (by
    have := hb s [.ref a, .ref b] I.kIn (by simpa using hl)
    simpa using this) r2 hsp) fun r s' hq => ?_)
  cases r with
  | error e => exact hx pins σ H s e s' I hq
  | ok fl =>
    cases fl with
    | ret w =>
      obtain ⟨z, H', I', rz, r, ez, q⟩ := I.after hq
      subst ez
      cases (show w = Value.bool r from rz)
      exact ⟨.bl r, H', I', rfl, q⟩
    | next => exact False.elim hq
    | brk => exact False.elim hq
    | cont => exact False.elim hq
/-! ### a def that may raise, where it doesn't -/
theorem noraise {P : Program} {w : World} {K : PySem.W.Frag} {mg : Str → Option Value} {base : Heap} {k : Nat} {f : Addr} {fd : FuncData} {ps : List Str} {sp sp' : Sp} (F : FnOk P w K mg base (L2.CX P w) k f fd ps sp)
    (h : ∀ vs H Q E, sp' vs H Q E → sp vs H Q E0) : FnOk P w K mg base CX0 k f fd ps sp' :=
  ⟨fun vs H Q E q => F.len vs H Q E0 (h _ _ _ _ q), fun A outer s H args us vs Q E hr he hb hv hs => codeAny_mono (F.run A outer s H args us vs Q E0 hr he hb hv (h _ _ _ _ hs)) fun r s' z => by
    cases r with
    | error e => obtain ⟨_, _, _, _, _, _, _, _, _, _, _, _, z⟩ := z; exact z.elim
    | ok fl => cases fl <;> exact z⟩
/-! ### making an instance by an __init__ that may raise, in a try -/
def tMakeS (C : Addr) (sp : Sp) (E : L2.St → XK) (t : TA) : TE := fun σ H Q => t σ H fun vs H1 => ∀ x dx, H1 x = none → H1 dx = none → dx ≠ x →
  sp (.ref x :: vs) (upd (upd H1 dx (.own x)) x (.ins C dx [])) (fun v H2 => v = .non ∧ Q (.ref x) H2) (E σ)
section
variable {X : Cx} {CX : CXT} {k : Nat} {f C : Addr} {fd : FuncData} {ps : List Str} {sp : Sp} {E : L2.St → XK} {x : Str} {p pos : Pos} {e : Expr} {es : List Expr} {t : TA}
theorem run_makeS {pins : List (Addr × Obj)} {σ : L2.St} {H : Hp} {s : Shared} {Q : VK} {us : List Value} {vs : List V} (M : Mk X.K C f) (F : FnOk X.prog X.w X.K X.mg X.base CX k f fd ps sp) (hr : Room (k + 1) X.A) (hb : Binds X.K fd ps [])
    (hx : PassesAt CX X σ (E σ)) (I : Inv X pins σ H s) (r : Vals vs us)
    (h : ∀ x dx, H x = none → H dx = none → dx ≠ x → sp (.ref x :: vs) (upd (upd H dx (.own x)) x (.ins C dx [])) (fun v H2 => v = .non ∧ Q (.ref x) H2) (E σ)) :
    wpAny (model X.prog X.w) X.A (call (.ref C) us) (EP X pins σ Q) X.xe s := by
  have hq := h (s.heap.objs.size + 1) s.heap.objs.size (I.hok.fresh (Nat.le_succ _)) (I.hok.fresh (Nat.le_refl _)) (Nat.ne_of_lt (Nat.lt_succ_self _))
  have I2 := Inv.made (C := C) I
  have r2 : Vals (V.ref (s.heap.objs.size + 1) :: vs) (Value.ref (s.heap.objs.size + 1) :: us) := .cons rfl r
  have hl : (Value.ref (s.heap.objs.size + 1) :: us ++ []).length = ps.length := by
    have e := r2.length
    rw [F.len _ _ _ _ hq] at e
    rw [List.append_nil]
    exact e.symm
  have hB := hb _ (Value.ref (s.heap.objs.size + 1) :: us) I2.kIn hl
  rw [List.append_nil] at hB
  refine wpAny_call (make_map (f := f) I.kIn M.makes M.init (beq_iff_eq.mp M.fn) (codeAny_mono (F.run _ X.stack _ _ ⟨Value.ref (s.heap.objs.size + 1) :: us, []⟩ (Value.ref (s.heap.objs.size + 1) :: us) _ _ (E σ) (hr.make C us [])
    (I2.env0.make C us []) hB r2 hq) fun r s' hq' => ?_))
  cases r with
  | error e => exact hx pins _ _ e s' I2 hq'
  | ok fl =>
    cases fl with
    | ret u =>
      obtain ⟨v, H', I3, rv, ev, q3⟩ := I2.after hq'
      subst ev
      exact ⟨rv, ⟨V.ref (s.heap.objs.size + 1), H', I3, rfl, q3⟩⟩
    | next => exact False.elim hq'
    | brk => exact False.elim hq'
    | cont => exact False.elim hq'
theorem pe_makeS (M : Mk X.K C f) (F : FnOk X.prog X.w X.K X.mg X.base CX k f fd ps sp) (hr : Room (k + 1) X.A) (hm : X.mg x = some (.ref C)) (hb : Binds X.K fd ps []) (hx : ∀ σ, PassesAt CX X σ (E σ))
    (ha : PA X (e :: es) t) (hg : Gl X x := by rfl) (hdb : (x == ("__debug__" : Str)) = false := by decide) (he : starEach (e :: es) X.env = (false, eval e X.env) :: starEach es X.env := by rfl) (hpl : (backTo pos (starEach es X.env)).any (·.1) = false := by rfl) :
    PE X (.Call (.Name x p) (e :: es) [] pos) (tMakeS C sp E t) := by
  refine ⟨fun pins s σ H Q I h => ?_⟩
  refine wpAny_Call_Name_kw (ld_glob I hg hm ?_ hdb)
  refine PySem.W.callWith_K (h₀ := X.base) I.ok.mod.kin M.kp (thn (ha.run pos pins s σ H _ I h) fun us s1 ⟨vs, H1, I1, r, q⟩ => ⟨I1.kIn, ?_⟩) he hpl
  exact run_makeS M F hr hb (hx σ) I1 r q
end
/-! ### a class of instances: what the head tells of it -/
structure ClsT (K : PySem.W.Frag) (C f g : Addr) : Prop where
  cl : Cls K C
  mkr : Mk K C f
  eq : PySem.W.findIn K (.ref C) "__eq__" = some (some (.ref g))
  eqf : PySem.W.isFn K (.ref g) = true
def clsB (K : PySem.W.Frag) (C f g : Addr) : Bool := PySem.W.plainGet K C Str.empty && (PySem.W.hasDictIn K C && (PySem.W.plainOver K C && (eqO (PySem.W.findIn K (.ref C) "__setattr__") (some (some (.builtin "object.__setattr__"))) &&
  (PySem.W.makesIn K C && (eqO (PySem.W.findIn K (.ref C) "__init__") (some (some (.ref f))) && (PySem.W.isFn K (.ref f) && (PySem.W.keepIn K (.ref C) && (eqO (PySem.W.findIn K (.ref C) "__eq__") (some (some (.ref g))) && PySem.W.isFn K (.ref g)))))))))
theorem clsB_ok {K : PySem.W.Frag} {C f g : Addr} (h : clsB K C f g = true) : ClsT K C f g := by
  obtain ⟨h1, h⟩ := ba h
  obtain ⟨h2, h⟩ := ba h
  obtain ⟨h3, h⟩ := ba h
  obtain ⟨h4, h⟩ := ba h
  obtain ⟨h5, h⟩ := ba h
  obtain ⟨h6, h⟩ := ba h
  obtain ⟨h7, h⟩ := ba h
  obtain ⟨h8, h⟩ := ba h
  obtain ⟨h9, h10⟩ := ba h
  exact ⟨⟨h1, h2, h3, eqO_ok h4⟩, ⟨h5, eqO_ok h6, h7, h8⟩, eqO_ok h9, h10⟩
def noB (K : PySem.W.Frag) (C : Addr) (x : Str) : Bool := eqO (PySem.W.findIn K (.ref C) x) (some none)
theorem noB_ok {K : PySem.W.Frag} {C : Addr} {x : Str} (h : noB K C x = true) : NoAttr K C x := eqO_ok h
/-- isinstance of an instance: what is asked of its class -/
structure InsT (K : PySem.W.Frag) (C : Addr) : Prop where
  ha : PySem.W.findIn K (.ref C) "__class__" = some (some (.builtin "object.__class__"))
  hn : PySem.W.specialIn K (.builtin "object.__class__") "__get__" = some (some (.builtin "getset_descriptor.__get__"))
  htk : PySem.W.takesIn K (.builtin "object.__class__") = some true
  hm : PySem.W.mroIn K C (.type "object") = some true
def insB (K : PySem.W.Frag) (C : Addr) : Bool := eqO (PySem.W.findIn K (.ref C) "__class__") (some (some (.builtin "object.__class__"))) && (eqO (PySem.W.specialIn K (.builtin "object.__class__") "__get__") (some (some (.builtin "getset_descriptor.__get__"))) &&
  (decide (PySem.W.takesIn K (.builtin "object.__class__") = some true) && decide (PySem.W.mroIn K C (.type "object") = some true)))
theorem insB_ok {K : PySem.W.Frag} {C : Addr} (h : insB K C = true) : InsT K C := by
  obtain ⟨h1, h⟩ := ba h
  obtain ⟨h2, h⟩ := ba h
  obtain ⟨h3, h4⟩ := ba h
  exact ⟨eqO_ok h1, eqO_ok h2, of_decide_eq_true h3, of_decide_eq_true h4⟩
theorem ei_ins {K : PySem.W.Frag} {H : Hp} {C p dx : Addr} {fs : List (Str × V)} {R : Bool → Prop} (e : H p = some (.ins C dx fs)) (c : Cls K C) (i : InsT K C) (q : R true) :
    ∃ (x c : V) (t u : Value) (b : Bool), [V.ref p, V.ref C] = [x, c] ∧ ClsV c u ∧ TyX K H x t ∧ PySem.W.kitOne K t u = some b ∧ R b :=
  ⟨.ref p, .ref C, .ref C, .ref C, true, rfl, .own C, .base (.ins e c i.ha i.hn i.htk i.hm), if_pos (beq_self_eq_true _), q⟩
end Gw

set_option Elab.async false
set_option linter.all false
set_option maxRecDepth 100000
set_option maxHeartbeats 4000000
namespace Gw
open PySem PySem.Spec PyProof.Rows L2 He
/-! ### signs and rows -/
def signs : List Nat := [46, 35, 48, 49, 50, 51, 52, 53, 54, 55, 56, 57]
def sgB (c : Nat) : Bool := decide (c ∈ signs)
theorem sg1 (c : Nat) : decide (c ∈ (".#0123456789" : Str).cps.toList) = sgB c := by
  have e : (".#0123456789" : Str).cps.toList = signs := by decide +kernel
  rw [e]; rfl
theorem sg2 (c : Nat) : decide (c ∈ ("#.0123456789" : Str).cps.toList) = sgB c := by
  have e : ("#.0123456789" : Str).cps.toList = [35, 46, 48, 49, 50, 51, 52, 53, 54, 55, 56, 57] := by decide +kernel
  rw [e]
  unfold sgB signs
  refine decide_eq_decide.mpr ?_
  simp only [List.mem_cons]
  constructor <;> (intro h; rcases h with h | h | h <;> first | exact .inl h | exact .inr (.inl h) | exact .inr (.inr h))
def allS (z : Str) : Bool := z.cps.toList.all sgB
def rowOk : V → Bool
  | .str z => decide (1 ≤ z.length) && (decide (z.length ≤ 40) && allS z)
  | _ => false
def slen : V → Nat
  | .str z => z.length
  | _ => 0
def wid : List V → Nat
  | x :: _ => slen x
  | [] => 0
def rowB (n : Nat) (v : V) : Bool := rowOk v && decide (slen v = n)
theorem rowOk_str {v : V} (h : rowOk v = true) : ∃ z, v = .str z ∧ 1 ≤ z.length ∧ z.length ≤ 40 ∧ allS z = true := by
  cases v with
  | str z =>
    obtain ⟨h1, h⟩ := Bool.and_eq_true_iff.mp h
    obtain ⟨h2, h3⟩ := Bool.and_eq_true_iff.mp h
    exact ⟨z, rfl, of_decide_eq_true h1, of_decide_eq_true h2, h3⟩
  | _ => cases h
theorem rowOk_of {z : Str} (h1 : 1 ≤ z.length) (h2 : z.length ≤ 40) (h3 : allS z = true) : rowOk (.str z) = true := by
  show (decide _ && (decide _ && allS z)) = true
  rw [decide_eq_true h1, decide_eq_true h2, h3]; rfl
theorem rowB_str {n : Nat} {v : V} (h : rowB n v = true) : ∃ z, v = .str z ∧ 1 ≤ z.length ∧ z.length ≤ 40 ∧ allS z = true ∧ z.length = n := by
  obtain ⟨h1, h2⟩ := Bool.and_eq_true_iff.mp h
  obtain ⟨z, rfl, a, b, c⟩ := rowOk_str h1
  exact ⟨z, rfl, a, b, c, of_decide_eq_true h2⟩
theorem rowB_of {n : Nat} {z : Str} (h1 : 1 ≤ z.length) (h2 : z.length ≤ 40) (h3 : allS z = true) (h4 : z.length = n) : rowB n (.str z) = true := by
  unfold rowB
  rw [rowOk_of h1 h2 h3, decide_eq_true (show slen (.str z) = n from h4)]; rfl
/-! ### grounds -/
structure GoodL (xs : List V) : Prop where
  l1 : 1 ≤ xs.length
  l2 : xs.length ≤ 30
  all : ∀ x ∈ xs, rowB (wid xs) x = true
theorem GoodL.at {xs : List V} (g : GoodL xs) {i : Nat} {x : V} (h : xs[i]? = some x) : ∃ z, x = .str z ∧ 1 ≤ z.length ∧ z.length ≤ 40 ∧ allS z = true ∧ z.length = wid xs := rowB_str (g.all x (List.mem_of_getElem? h))
theorem GoodL.wid {xs : List V} (g : GoodL xs) : 1 ≤ Gw.wid xs ∧ Gw.wid xs ≤ 40 := by
  have h0 : 0 < xs.length := g.l1
  obtain ⟨z, _, a, b, _, e⟩ := g.at (List.getElem?_eq_getElem h0)
  omega
def badI (xs : List V) : Option Nat := xs.findIdx? (fun v => !rowB (wid xs) v)
def badL (xs : List V) : Option Int := if 1 ≤ xs.length ∧ xs.length ≤ 30 then (badI xs).map (fun k => (k : Int)) else some (-1)
def badOf (H : Hp) : V → Option Int
  | .ref a => match H a with
    | some (.tup xs) => badL xs
    | _ => some (-1)
  | _ => some (-1)
theorem badOf_tup {H : Hp} {a : Addr} {xs : List V} (e : H a = some (.tup xs)) : badOf H (.ref a) = badL xs := by
  show (match H a with | some (.tup xs) => badL xs | _ => some (-1)) = _
  rw [e]
theorem badOf_not {H : Hp} {v : V} (h : isT H v = false) : badOf H v = some (-1) := by
  cases v with
  | ref a =>
    show (match H a with | some (.tup xs) => badL xs | _ => some (-1)) = _
    have h' : (match H a with | some (.tup _) => true | _ => false) = false := h
    split
    · rename_i xs e
      rw [e] at h'
      cases h'
    · rfl
  | _ => rfl
theorem badOf_same {H H' : Hp} {v : V} (W : Wt H v) (s : Same H H') : badOf H' v = badOf H v := by
  cases W with
  | lst e => rw [badOf_not (isT_lst e), badOf_not (isT_lst (s _ _ e))]
  | tup e => rw [badOf_tup e, badOf_tup (s _ _ e)]
  | dct e => rw [badOf_not (isT_dK e), badOf_not (isT_dK (s _ _ e))]
  | _ => rfl
theorem isT_ex {H : Hp} {v : V} (h : isT H v = true) : ∃ a xs, v = .ref a ∧ H a = some (.tup xs) := by
  cases v with
  | ref a =>
    have h' : (match H a with | some (.tup _) => true | _ => false) = true := h
    cases e : H a with
    | none => rw [e] at h'; cases h'
    | some o =>
      cases o with
      | tup xs => exact ⟨a, xs, rfl, e⟩
      | _ => rw [e] at h'; cases h'
  | _ => cases h
theorem badL_len {xs : List V} (h : ¬ (1 ≤ xs.length ∧ xs.length ≤ 30)) : badL xs = some (-1) := if_neg h
/-- all rows ahead of the k-th are right -/
def Pre (xs : List V) (k : Nat) : Prop := ∀ (j : Nat) (x : V), j < k → xs[j]? = some x → rowB (wid xs) x = true
theorem Pre.zero {xs : List V} : Pre xs 0 := fun j x h => absurd h (Nat.not_lt_zero _)
theorem Pre.succ {xs : List V} {k : Nat} {x : V} (p : Pre xs k) (h : xs[k]? = some x) (r : rowB (wid xs) x = true) : Pre xs (k + 1) := fun j y hj hy => by
  by_cases e : j = k
  · subst e
    rw [h] at hy
    cases hy
    exact r
  · exact p j y (by omega) hy
theorem badL_at {xs : List V} {k : Nat} {x : V} (h1 : 1 ≤ xs.length) (h2 : xs.length ≤ 30) (p : Pre xs k) (h : xs[k]? = some x) (r : rowB (wid xs) x = false) : badL xs = some (k : Int) := by
  unfold badL
  rw [if_pos ⟨h1, h2⟩]
  have e : badI xs = some k := by
    unfold badI
    obtain ⟨hk, hx⟩ := List.getElem?_eq_some_iff.mp h
    rw [List.findIdx?_eq_some_iff_getElem]
    refine ⟨hk, by rw [hx, r]; rfl, fun j hj => ?_⟩
    have hj' : j < xs.length := by omega
    rw [p j _ hj (List.getElem?_eq_getElem hj')]
    decide
  rw [e]; rfl
theorem badL_none {xs : List V} (h1 : 1 ≤ xs.length) (h2 : xs.length ≤ 30) (p : Pre xs xs.length) : badL xs = none ∧ GoodL xs := by
  have g : ∀ x ∈ xs, rowB (wid xs) x = true := fun x hx => by
    obtain ⟨j, hj⟩ := List.mem_iff_getElem?.mp hx
    exact p j x (List.getElem?_eq_some_iff.mp hj).1 hj
  refine ⟨?_, ⟨h1, h2, g⟩⟩
  unfold badL
  rw [if_pos ⟨h1, h2⟩]
  have e : badI xs = none := by
    unfold badI
    rw [List.findIdx?_eq_none_iff]
    intro x hx
    rw [g x hx]; rfl
  rw [e]; rfl
theorem GoodL.bad {xs : List V} (g : GoodL xs) : badL xs = none := (badL_none g.l1 g.l2 fun _ x _ h => g.all x (List.mem_of_getElem? h)).1
theorem good_of {xs : List V} (h : badL xs = none) : GoodL xs := by
  unfold badL at h
  by_cases c : 1 ≤ xs.length ∧ xs.length ≤ 30
  · rw [if_pos c] at h
    refine ⟨c.1, c.2, fun x hx => ?_⟩
    have e : badI xs = none := by
      cases q : badI xs with
      | none => rfl
      | some k => rw [q] at h; cases h
    unfold badI at e
    rw [List.findIdx?_eq_none_iff] at e
    have := e x hx
    cases r : rowB (Gw.wid xs) x with
    | true => rfl
    | false => rw [r] at this; cases this
  · rw [if_neg c] at h
    cases h
theorem good_ex {H : Hp} {v : V} (h : badOf H v = none) : ∃ a xs, v = .ref a ∧ H a = some (.tup xs) ∧ GoodL xs := by
  cases c : isT H v with
  | false => rw [badOf_not c] at h; cases h
  | true =>
    obtain ⟨a, xs, rfl, e⟩ := isT_ex c
    rw [badOf_tup e] at h
    exact ⟨a, xs, rfl, e, good_of h⟩
def badV : Option Int → V
  | none => .non
  | some k => .int k
/-! ### things that may be rows of a ground -/
def Nc (H : Hp) (v : V) : Prop := Wt H v ∧ ∀ z, v = .str z → z.length ≤ 1000
structure Th (H : Hp) (h : Addr) (v : V) : Prop where
  nc : Nc H v
  off : Off h v
  its : ∀ a xs, v = .ref a → H a = some (.tup xs) → xs.length ≤ 1000 ∧ ∀ x ∈ xs, Nc H x ∧ Off h x
theorem Nc.same {H H' : Hp} {v : V} (n : Nc H v) (s : Same H H') : Nc H' v := ⟨n.1.same s, n.2⟩
theorem Wt.tup_of {H : Hp} {a : Addr} (W : Wt H (.ref a)) : ∃ o, H a = some o := by
  cases W with
  | lst e => exact ⟨_, e⟩
  | tup e => exact ⟨_, e⟩
  | dct e => exact ⟨_, e⟩
theorem Th.same {H H' : Hp} {h : Addr} {v : V} (t : Th H h v) (s : Same H H') : Th H' h v := ⟨t.nc.same s, t.off, fun a xs ev e => by
  subst ev
  obtain ⟨o, q⟩ := t.nc.1.tup_of
  have q' := s _ _ q
  rw [e] at q'
  cases q'
  obtain ⟨l, al⟩ := t.its a xs rfl q
  exact ⟨l, fun x hx => ⟨(al x hx).1.same s, (al x hx).2⟩⟩⟩
theorem Nc.but {H H' : Hp} {h : Addr} {v : V} (n : Nc H v) (o : Off h v) (s : But h H H') : Nc H' v := ⟨n.1.but o s, n.2⟩
theorem Th.but {H H' : Hp} {h : Addr} {v : V} (t : Th H h v) (s : But h H H') : Th H' h v := ⟨t.nc.but t.off s, t.off, fun a xs ev e => by
  subst ev
  obtain ⟨o, q⟩ := t.nc.1.tup_of
  have q' := s _ _ (fun z => t.off (by rw [z])) q
  rw [e] at q'
  cases q'
  obtain ⟨l, al⟩ := t.its a xs rfl q
  exact ⟨l, fun x hx => ⟨(al x hx).1.but (al x hx).2 s, (al x hx).2⟩⟩⟩
/-! ### the sign of a unit -/
def gs (xs : List V) (p r : Int) : Nat :=
  if 0 ≤ p ∧ p < (wid xs : Nat) ∧ 0 ≤ r ∧ r < (xs.length : Nat) then (match xs[r.toNat]? with
    | some (.str z) => z.cps.toList.getD p.toNat 35
    | _ => 35) else 35
theorem gs_in {xs : List V} (g : GoodL xs) {p r : Int} (h1 : 0 ≤ p) (h2 : p < (wid xs : Nat)) (h3 : 0 ≤ r) (h4 : r < (xs.length : Nat)) :
    ∃ z, atI xs r = some (.str z) ∧ z.length ≤ 40 ∧ atI z.cps.toList p = some (gs xs p r) := by
  obtain ⟨i, rfl⟩ : ∃ i : Nat, r = (i : Int) := ⟨r.toNat, by omega⟩
  obtain ⟨j, rfl⟩ : ∃ j : Nat, p = (j : Int) := ⟨p.toNat, by omega⟩
  have hi : i < xs.length := by omega
  have hx := List.getElem?_eq_getElem hi
  obtain ⟨z, ez, a, b, c, d⟩ := g.at hx
  have hj : j < z.cps.toList.length := by
    have : z.cps.toList.length = z.length := by simp [Str.length]
    omega
  refine ⟨z, by rw [← ez]; exact atI_nat hx, b, ?_⟩
  have e : gs xs j i = z.cps.toList[j] := by
    unfold gs
    rw [if_pos ⟨h1, h2, h3, h4⟩]
    have q : xs[((i : Nat) : Int).toNat]? = some (.str z) := by rw [Int.toNat_natCast, hx, ez]
    rw [q]
    show z.cps.toList.getD ((j : Nat) : Int).toNat 35 = _
    rw [Int.toNat_natCast, List.getD_eq_getElem?_getD, List.getElem?_eq_getElem hj]; rfl
  rw [e]
  exact atI_nat (List.getElem?_eq_getElem hj)
theorem gs_out {xs : List V} {p r : Int} (h : ¬ (0 ≤ p ∧ p < (wid xs : Nat) ∧ 0 ≤ r ∧ r < (xs.length : Nat))) : gs xs p r = 35 := if_neg h
def OpenP (xs : List V) (x y w h : Int) : Prop := ∀ a b : Int, 0 ≤ a → a < w → 0 ≤ b → b < h → gs xs ((x + a) / 8) ((y + b) / 8) ≠ 35
/-- all signs in reach -/
theorem open_iff {xs : List V} {x y w h : Int} (hw : 1 ≤ w) (hh : 1 ≤ h) : OpenP xs x y w h ↔ ∀ p r : Int, x / 8 ≤ p → p < (x + w - 1) / 8 + 1 → y / 8 ≤ r → r < (y + h - 1) / 8 + 1 → gs xs p r ≠ 35 := by
  constructor
  · intro o p r p1 p2 r1 r2
    by_cases cx : x ≤ 8 * p
    · by_cases cy : y ≤ 8 * r
      · have q := o (8 * p - x) (8 * r - y) (by omega) (by omega) (by omega) (by omega)
        rw [show (x + (8 * p - x)) / 8 = p by omega, show (y + (8 * r - y)) / 8 = r by omega] at q
        exact q
      · have q := o (8 * p - x) 0 (by omega) (by omega) (by omega) (by omega)
        rw [show (x + (8 * p - x)) / 8 = p by omega, show (y + 0) / 8 = r by omega] at q
        exact q
    · by_cases cy : y ≤ 8 * r
      · have q := o 0 (8 * r - y) (by omega) (by omega) (by omega) (by omega)
        rw [show (x + 0) / 8 = p by omega, show (y + (8 * r - y)) / 8 = r by omega] at q
        exact q
      · have q := o 0 0 (by omega) (by omega) (by omega) (by omega)
        rw [show (x + 0) / 8 = p by omega, show (y + 0) / 8 = r by omega] at q
        exact q
  · intro o a b a1 a2 b1 b2
    exact o _ _ (by omega) (by omega) (by omega) (by omega)
/-! ### promises -/
def GrO (K : PySem.W.Frag) (H : Hp) (p a : Addr) (xs : List V) : Prop := H a = some (.tup xs) ∧ GoodL xs ∧ ∃ dx fs, H p = some (.ins (ga K "Ground") dx fs) ∧ fs.lookup ("rows" : Str) = some (.ref a) ∧ fs.lookup ("wide" : Str) = some (.int (8 * (wid xs : Nat))) ∧ fs.lookup ("high" : Str) = some (.int (8 * (xs.length : Nat)))
theorem GrO.same {K : PySem.W.Frag} {H H' : Hp} {p a : Addr} {xs : List V} (g : GrO K H p a xs) (s : Same H H') : GrO K H' p a xs := by
  obtain ⟨h1, h2, dx, fs, h3, h4⟩ := g
  exact ⟨s _ _ h1, h2, dx, fs, s _ _ h3, h4⟩
theorem GrO.kp {K : PySem.W.Frag} {H H' : Hp} {h p a : Addr} {xs : List V} (g : GrO K H p a xs) (k : Kp h H H') : GrO K H' p a xs := by
  obtain ⟨h1, h2, dx, fs, h3, h4⟩ := g
  refine ⟨k.tup h1, h2, dx, fs, k.keep h3 (fun z => ?_), h4⟩
  obtain ⟨ys, q⟩ := k.old.some
  rw [z, q] at h3
  cases h3
def spRow : Sp := fun vs H Q _ => ∃ v, vs = [v] ∧ Nc H v ∧ ∀ H', Same H H' → Q (.bl (rowOk v)) H'
def spBadG (K : PySem.W.Frag) : Sp := fun vs H Q _ => ∃ (a C : Addr) (v : V), vs = [.ref a, v] ∧ OexC K C ∧ NoAttr K C "part" ∧ H a = some (exo a C none) ∧ ∀ dx, H dx = none → dx ≠ a → Q .non (upd (upd H dx (exd dx [(("part" : Str), v)])) a (exo a C (some dx)))
def spGI (K : PySem.W.Frag) : Sp := fun vs H Q E => ∃ (p dx h : Addr) (v : V), vs = [.ref p, v] ∧ H p = some (.ins (ga K "Ground") dx []) ∧ Th H h v ∧
  (badOf H v = none → ∀ a xs, v = .ref a → H a = some (.tup xs) → ∀ H', But p H H' → GrO K H' p a xs → Q .non H') ∧
  (∀ k, badOf H v = some k → ∀ d H', But p H H' → H' d = some (.xd [(("part" : Str), .int k)]) → E (.ref (ga K "BadGround")) (some d) H')
def spGEq (K : PySem.W.Frag) : Sp := fun vs H Q _ => ∃ (p q a b : Addr) (xs ys : List V), vs = [.ref p, .ref q] ∧ GrO K H p a xs ∧ GrO K H q b ys ∧ Q (.bl (decide (xs = ys))) H
def spSA (K : PySem.W.Frag) : Sp := fun vs H Q E => ∃ (p a : Addr) (xs : List V) (v u : V), vs = [.ref p, v, u] ∧ GrO K H p a xs ∧ Wt H v ∧ Wt H u ∧
  (∀ x y, v = .int x → u = .int y → Q (.str ⟨#[gs xs (x / 8) (y / 8)]⟩) H) ∧ ((isI v && isI u) = false → E (.ref (ga K "NoNumber")) none H)
def spSA0 (K : PySem.W.Frag) : Sp := fun vs H Q E => ∃ (p a : Addr) (xs : List V) (x y : Int), vs = [.ref p, .int x, .int y] ∧ GrO K H p a xs ∧ Q (.str ⟨#[gs xs (x / 8) (y / 8)]⟩) H
def stre : V → Bool := btw 1 32
def spIO (K : PySem.W.Frag) : Sp := fun vs H Q E => ∃ (p a : Addr) (xs : List V) (v u w h : V), vs = [.ref p, v, u, w, h] ∧ GrO K H p a xs ∧ Wt H v ∧ Wt H u ∧ Wt H w ∧ Wt H h ∧
  (∀ x y m n, v = .int x → u = .int y → w = .int m → h = .int n → 1 ≤ m → m ≤ 32 → 1 ≤ n → n ≤ 32 → ∀ r : Bool, (r = true ↔ OpenP xs x y m n) → Q (.bl r) H) ∧
  ((isI v && isI u && (stre w && stre h)) = false → E (.ref (ga K "NoNumber")) none H)
section
variable {H : Hp} {h : Addr}
theorem Th.fl {v : V} (W : Wt H v) (l : ∀ z, v = .str z → z.length ≤ 1000) (nr : ∀ a, v ≠ .ref a) : Th H h v := ⟨⟨W, l⟩, nr h, fun a _ z _ => absurd z (nr a)⟩
theorem Th.ls {a : Addr} {xs : List V} (e : H a = some (.lst xs)) (o : Off h (.ref a)) : Th H h (.ref a) := ⟨⟨.lst e, fun _ z => nomatch z⟩, o, fun b ys z q => by
  cases z
  rw [e] at q
  cases q⟩
theorem Th.dk {a : Addr} {xs : List (Key × V)} (e : H a = some (.dK xs)) (o : Off h (.ref a)) : Th H h (.ref a) := ⟨⟨.dct e, fun _ z => nomatch z⟩, o, fun b ys z q => by
  cases z
  rw [e] at q
  cases q⟩
theorem Th.tp {a : Addr} {xs : List V} (e : H a = some (.tup xs)) (o : Off h (.ref a)) (l : xs.length ≤ 1000) (its : ∀ x ∈ xs, Nc H x ∧ Off h x) : Th H h (.ref a) := ⟨⟨.tup e, fun _ z => nomatch z⟩, o, fun b ys z q => by
  cases z
  rw [e] at q
  cases q
  exact ⟨l, its⟩⟩
end
def spOddT : Sp := fun vs H Q _ => ∃ (h : Addr), vs = [.ref h] ∧ Hand H h ∧ ∀ (v : V) (H' : Hp), Th H' h v → Bd v → Kp h H H' → Q v H'
/-! ### promises of the law's helpers -/
def spSign : Sp := fun vs H Q _ => ∃ (h : Addr) (n : Int), vs = [.ref h, .int n] ∧ Hand H h ∧ ∀ (c : Nat) (H' : Hp), sgB c = true → Kp h H H' → Q (.str ⟨#[c]⟩) H'
def spRows : Sp := fun vs H Q _ => ∃ (h : Addr) (m n : Int), vs = [.ref h, .int m, .int n] ∧ Hand H h ∧ 1 ≤ m ∧ m ≤ 40 ∧ 1 ≤ n ∧ n ≤ 30 ∧ ∀ (p : Addr) (xs : List V) (H' : Hp), H' p = some (.tup xs) → GoodL xs → Kp h H H' → Q (.ref p) H'
def spGround : Sp := fun vs H Q _ => ∃ (h : Addr), vs = [.ref h] ∧ Hand H h ∧ ∀ (p : Addr) (xs : List V) (H' : Hp), H' p = some (.tup xs) → GoodL xs → Kp h H H' → Q (.ref p) H'
def spSpoil : Sp := fun vs H Q _ => ∃ (h a : Addr) (xs : List V), vs = [.ref h, .ref a] ∧ Hand H h ∧ H a = some (.tup xs) ∧ GoodL xs ∧ ∀ (v : V) (H' : Hp), Th H' h v → Kp h H H' → Q v H'
def spLSign : Sp := fun vs H Q _ => ∃ (a : Addr) (xs : List V) (x y : Int), vs = [.ref a, .int x, .int y] ∧ H a = some (.tup xs) ∧ GoodL xs ∧ Q (.str ⟨#[gs xs (x / 8) (y / 8)]⟩) H
def spFirst : Sp := fun vs H Q _ => ∃ (h : Addr) (v : V), vs = [v] ∧ Th H h v ∧ ∀ H', Same H H' → Q (badV (badOf H v)) H'
def resM (v : V) (xs : List V) : Option Int → List V
  | none => [.str "told", v, .int (8 * (wid xs : Nat)), .int (8 * (xs.length : Nat))]
  | some k => [.str "BadGround", .int k]
def spMade : Sp := fun vs H Q _ => ∃ (h : Addr) (v : V), vs = [v] ∧ Th H h v ∧ ∀ (t : Addr) (xs : List V) (H' : Hp), Same H H' → (badOf H v = none → ∃ a, v = .ref a ∧ H a = some (.tup xs)) → H' t = some (.tup (resM v xs (badOf H v))) → Q (.ref t) H'
def resS (xs : List V) (v u : V) : List V := match v, u with
  | .int x, .int y => [.str "told", .str ⟨#[gs xs (x / 8) (y / 8)]⟩]
  | _, _ => [.str "NoNumber"]
def spSigned (K : PySem.W.Frag) : Sp := fun vs H Q _ => ∃ (p a : Addr) (xs : List V) (v u : V), vs = [.ref p, v, u] ∧ GrO K H p a xs ∧ Wt H v ∧ Wt H u ∧ ∀ t, H t = none → Q (.ref t) (upd H t (.tup (resS xs v u)))
def spOpened (K : PySem.W.Frag) : Sp := fun vs H Q _ => ∃ (p a : Addr) (xs : List V) (v u w h : V), vs = [.ref p, v, u, w, h] ∧ GrO K H p a xs ∧ Wt H v ∧ Wt H u ∧ Wt H w ∧ Wt H h ∧
  (∀ x y m n, v = .int x → u = .int y → w = .int m → h = .int n → 1 ≤ m → m ≤ 32 → 1 ≤ n → n ≤ 32 → ∀ (r : Bool) t, (r = true ↔ OpenP xs x y m n) → H t = none → Q (.ref t) (upd H t (.tup [.str "told", .bl r]))) ∧
  ((isI v && isI u && (stre w && stre h)) = false → ∀ t, H t = none → Q (.ref t) (upd H t (.tup [.str "NoNumber"])))
def spUnits : Sp := fun vs H Q _ => ∃ (a : Addr) (xs : List V) (x y m n : Int), vs = [.ref a, .int x, .int y, .int m, .int n] ∧ H a = some (.tup xs) ∧ GoodL xs ∧ 1 ≤ m ∧ m ≤ 32 ∧ 1 ≤ n ∧ n ≤ 32 ∧ ∀ r : Bool, (r = true ↔ OpenP xs x y m n) → Q (.bl r) H
def spWhere : Sp := fun vs H Q _ => ∃ (h : Addr) (l : Int), vs = [.ref h, .int l] ∧ Hand H h ∧ 1 ≤ l ∧ l ≤ 40 ∧ ∀ (r : Int) (H' : Hp), -100000000000000000000 ≤ r → r ≤ 100000000000000000000 → Kp h H H' → Q (.int r) H'
def spSide : Sp := fun vs H Q _ => ∃ (h : Addr), vs = [.ref h] ∧ Hand H h ∧ ∀ (v : V) (H' : Hp), (∀ G, Wt G v) → Kp h H H' → Q v H'
def spAsked (K : PySem.W.Frag) : Sp := fun vs H Q _ => ∃ (h p a : Addr) (xs : List V), vs = [.ref h, .ref a, .ref p] ∧ Hand H h ∧ GrO K H p a xs ∧ ∀ H', Kp h H H' → Q (.bl true) H'
theorem lc_str {x : Str} {g : TG} {tt : TT} {te : TE} {vs : List Nat} {σ : L2.St} {H1 : Hp} {D : Addr} {Qd : Hp → Prop} (Pv : Nat → Hp → Prop) (h0 : Pv 0 (upd H1 D (.lst [])))
    (hs : ∀ (i c : Nat) H, x.cps.toList[i]? = some c → Pv i H → g (.str ⟨#[c]⟩) (wipe σ vs) H fun σ2 H2 => wipe σ2 vs = wipe σ vs ∧ tt σ2 H2 fun b H3 =>
      if b = true then te σ2 H3 fun y H4 => ∃ acc, H4 D = some (.lst acc) ∧ acc.length < sizeLine ∧ Pv (i + 1) (upd H4 D (.lst (acc ++ [y]))) else Pv (i + 1) H3) (hd : ∀ H, Pv x.cps.toList.length H → Qd H) :
    ∃ W : Nat → Nat → Hp → Prop, (∃ m, W 0 m (upd H1 D (.lst []))) ∧ ∀ i m H, W i m H →
      ((Its x).stop i H ∧ Qd H) ∨ ((Its x).go i H ∧ ∃ Nx : Hp → Prop, (∀ H', Nx H' → ∃ m', m' < m ∧ W (i + 1) m' H') ∧ ∀ v H', (Its x).yld i H v H' → g v (wipe σ vs) H' fun σ2 H2 => wipe σ2 vs = wipe σ vs ∧ tt σ2 H2 fun b H3 =>
        if b = true then te σ2 H3 fun y H4 => ∃ acc, H4 D = some (.lst acc) ∧ acc.length < sizeLine ∧ Nx (upd H4 D (.lst (acc ++ [y]))) else Nx H3) := by
  have el : x.cps.toList.length = x.cps.size := by simp
  refine ⟨fun i m H => m = x.cps.size - i ∧ i ≤ x.cps.size ∧ Pv i H, ⟨_, rfl, Nat.zero_le _, h0⟩, ?_⟩
  rintro i m H ⟨rfl, hi, p⟩
  by_cases hlt : i < x.cps.size
  · refine .inr ⟨hlt, Pv (i + 1), fun H' p' => ⟨x.cps.size - (i + 1), by omega, rfl, hlt, p'⟩, fun v H' y => ?_⟩
    obtain ⟨rfl, c, hc, rfl⟩ := y
    exact hs i c H' (by rw [Array.getElem?_toList]; exact hc) p
  · have e : i = x.cps.toList.length := by omega
    subst e
    exact .inl ⟨Nat.le_of_eq el.symm, hd H p⟩
theorem take_one {α : Type} {l : List α} {i : Nat} {c : α} (h : l[i]? = some c) : l.take (i + 1) = l.take i ++ [c] := by
  rw [List.take_add_one, h]; rfl
theorem raiseBG {K : PySem.W.Frag} {C : Addr} {H : Hp} {Q : XK} {v : V} (x : OexC K C) (na : NoAttr K C "part") (q : ∀ d, H d = none → Q (.ref C) (some d) (upd H d (.xd [(("part" : Str), v)]))) :
    [v].length ≤ 1000 ∧ ∀ a, H a = none → spBadG K (.ref a :: ([v] ++ [])) (upd H a (exo a C none)) (fun u H2 => u = .non ∧ ∃ (d : Addr) (fs : List (Str × V)), H2 a = some (exo a C (some d)) ∧ H2 d = some (exd d fs) ∧ H d = none ∧ Q (.ref C) (some d) (upd (del H2 a) d (.xd fs))) (fun _ _ _ => False) := by
  refine ⟨by show 1 ≤ 1000; decide, fun a ha => ⟨a, C, v, rfl, x, na, upd_same, fun dx h1 h2 => ?_⟩⟩
  rw [upd_ne h2] at h1
  refine ⟨rfl, dx, _, upd_same, by rw [upd_ne h2, upd_same], h1, ?_⟩
  have e : upd (del (upd (upd (upd H a (exo a C none)) dx (exd dx [(("part" : Str), v)])) a (exo a C (some dx))) a) dx (.xd [(("part" : Str), v)]) = upd H dx (.xd [(("part" : Str), v)]) := by
    funext b
    by_cases hb : b = dx
    · rw [hb, upd_same, upd_same]
    · rw [upd_ne hb, upd_ne hb]
      by_cases hc : b = a
      · rw [hc, del_same, ha]
      · rw [del_ne hc, upd_ne hc, upd_ne hb, upd_ne hc]
  rw [e]
  exact q dx h1
theorem But.mk {p : Addr} {H G : Hp} {o : HO} (s : Same H G) : But p H (L2.upd G p o) := fun b u n e => by
  rw [upd_ne n]
  exact s _ _ e
theorem put_at {p : Addr} {H G G1 : Hp} {o : HO} (e : L2.upd G p o = G1) (b : Gw.But p H G) : Gw.But p H G1 ∧ G1 p = some o := by
  subst e
  refine ⟨fun c u n q => ?_, upd_same⟩
  rw [upd_ne n]
  exact b c u n q
/-! ### rows as data -/
def dOf : V → PyData
  | .str z => .str z
  | _ => .none
def isGS : V → Bool
  | .str z => PyData.strOk z
  | _ => false
theorem strOk_of {z : Str} (h : allS z = true) : PyData.strOk z = true := by
  unfold PyData.strOk
  rw [← Array.all_toList]
  unfold allS at h
  rw [List.all_eq_true] at h ⊢
  intro c hc
  have hs := of_decide_eq_true (h c hc)
  simp only [signs, List.mem_cons, List.not_mem_nil, or_false] at hs
  rcases hs with rfl | rfl | rfl | rfl | rfl | rfl | rfl | rfl | rfl | rfl | rfl | rfl <;> decide
theorem isGS_of {n : Nat} {v : V} (h : rowB n v = true) : isGS v = true := by
  obtain ⟨z, rfl, _, _, a, _⟩ := rowB_str h
  exact strOk_of a
theorem dp_all {K : PySem.W.Frag} {H : Hp} : ∀ {xs : List V}, (∀ x ∈ xs, isGS x = true) → DpAll K H xs (xs.map dOf)
  | [], _ => .nil
  | x :: xs, h => by
    have hx := h x List.mem_cons_self
    cases x with
    | str z => exact .cons (.str z) (dp_all fun y hy => h y (List.mem_cons_of_mem _ hy))
    | _ => cases hx
theorem lay_all : ∀ {xs : List V}, (∀ x ∈ xs, isGS x = true) → PyData.canLayAll0 (xs.map dOf) = true ∧ PyData.depthAll (xs.map dOf) = 0
  | [], _ => ⟨by simp only [List.map, PyData.canLayAll0], by simp only [List.map, PyData.depthAll]⟩
  | x :: xs, h => by
    have hx := h x List.mem_cons_self
    obtain ⟨a, b⟩ := lay_all (xs := xs) fun y hy => h y (List.mem_cons_of_mem _ hy)
    cases x with
    | str z =>
      refine ⟨?_, ?_⟩
      · simp only [List.map, PyData.canLayAll0, a, Bool.and_true]
        show PyData.canLay0 (.str z) = true
        simp only [PyData.canLay0]
        exact hx
      · simp only [List.map, PyData.depthAll, b]
        show max (PyData.depth (.str z)) 0 = 0
        simp only [PyData.depth]; rfl
    | _ => cases hx
theorem shaped_tup {xs : List V} (h : ∀ x ∈ xs, isGS x = true) : SeqAt.shaped (.tuple (xs.map dOf)) = true := by
  obtain ⟨a, b⟩ := lay_all h
  unfold SeqAt.shaped
  simp only [PyData.canLay0, PyData.depth, a, b, Bool.true_and]
  decide
theorem eqv_all : ∀ {xs ys : List V}, (∀ x ∈ xs, isGS x = true) → (∀ x ∈ ys, isGS x = true) → PyData.eqvAll (xs.map dOf) (ys.map dOf) = decide (xs = ys)
  | [], [], _, _ => by simp only [List.map, PyData.eqvAll]; rfl
  | [], _ :: _, _, _ => by simp only [List.map, PyData.eqvAll]; rfl
  | _ :: _, [], _, _ => by simp only [List.map, PyData.eqvAll]; rfl
  | x :: xs, y :: ys, h, k => by
    have hx := h x List.mem_cons_self
    have hy := k y List.mem_cons_self
    have e := eqv_all (xs := xs) (ys := ys) (fun z hz => h z (List.mem_cons_of_mem _ hz)) fun z hz => k z (List.mem_cons_of_mem _ hz)
    cases x with
    | str a =>
      cases y with
      | str b =>
        simp only [List.map, PyData.eqvAll, e]
        show (PyData.eqv (.str a) (.str b) && decide (xs = ys)) = _
        simp only [PyData.eqv]
        by_cases q : a = b
        · subst q
          rw [beq_self_eq_true, Bool.true_and]
          exact decide_eq_decide.mpr ⟨fun z => by rw [z], fun z => (List.cons.inj z).2⟩
        · rw [show (a == b) = false from beq_eq_false_iff_ne.mpr q, Bool.false_and]
          exact (decide_eq_false fun z => q (V.str.inj (List.cons.inj z).1)).symm
      | _ => cases hy
    | _ => cases hx
theorem GoodL.gS {xs : List V} (g : GoodL xs) : ∀ x ∈ xs, isGS x = true := fun x hx => isGS_of (g.all x hx)
/-- the answer of == for the rows of two grounds -/
theorem eqD_good {K : PySem.W.Frag} {H : Hp} {Q : VK} {a b : Addr} {xs ys : List V} (gx : GoodL xs) (gy : GoodL ys) (ha : H a = some (.tup xs)) (hb : H b = some (.tup ys)) (q : Q (.bl (decide (xs = ys))) H) : rEqD K (.ref a) (.ref b) H Q := by
  refine ⟨_, _, .tup (SqT.of ha) (dp_all gx.gS), .tup (SqT.of hb) (dp_all gy.gS), shaped_tup gx.gS, shaped_tup gy.gS, ?_⟩
  have e : PyData.eqv (.tuple (xs.map dOf)) (.tuple (ys.map dOf)) = decide (xs = ys) := by
    simp only [PyData.eqv]
    exact eqv_all gx.gS gy.gS
  rw [e]
  exact q
theorem sharp {c : Nat} (h : V.str ⟨#[c]⟩ = V.str ("#" : Str)) : c = 35 := by
  have e : ("#" : Str).cps.toList = [35] := by decide +kernel
  have q := congrArg (fun z => z.cps.toList) (V.str.inj h)
  have q2 : [c] = ("#" : Str).cps.toList := q
  rw [e] at q2
  exact (List.cons.inj q2).1
theorem sharp' : V.str ⟨#[35]⟩ = V.str ("#" : Str) := by
  have e : (⟨#[35]⟩ : Str) = ("#" : Str) := by decide +kernel
  rw [e]
theorem join0' : ∀ ws : List Str, (PySem.Str.join ("" : Str) ws).cps.toList = (ws.map (fun z => z.cps.toList)).flatten
  | [] => rfl
  | [x] => by show x.cps.toList = _; simp
  | x :: y :: r => by
    show ((x.cps ++ ("" : Str).cps) ++ (PySem.Str.join ("" : Str) (y :: r)).cps).toList = _
    have e : ("" : Str).cps = #[] := rfl
    rw [e, Array.toList_append, Array.toList_append, join0' (y :: r)]
    simp
theorem join0 (ws : List Str) : (PySem.Txt.join ("" : Str) ws).cps.toList = (ws.map (fun z => z.cps.toList)).flatten := by
  have e : PySem.Txt.join ("" : Str) ws = PySem.Str.join ("" : Str) ws := PySem.StrLaws.glued_eq_join _ _
  rw [e, join0']
theorem join_signs {ws : List Str} (h : ∀ w ∈ ws, ∃ c, w = ⟨#[c]⟩ ∧ sgB c = true) : (PySem.Txt.join ("" : Str) ws).length = ws.length ∧ allS (PySem.Txt.join ("" : Str) ws) = true ∧ (ws.map (·.length)).sum = ws.length := by
  have e1 : (ws.map (fun z => z.cps.toList)).flatten.length = ws.length ∧ (ws.map (fun z => z.cps.toList)).flatten.all sgB = true ∧ (ws.map (·.length)).sum = ws.length := by
    induction ws with
    | nil => exact ⟨rfl, rfl, rfl⟩
    | cons w ws ih =>
      obtain ⟨c, rfl, hc⟩ := h w List.mem_cons_self
      obtain ⟨a, b, d⟩ := ih fun x hx => h x (List.mem_cons_of_mem _ hx)
      refine ⟨?_, ?_, ?_⟩
      · simp only [List.map_cons, List.flatten_cons, List.length_append, a, List.length_cons]
        show 1 + ws.length = _
        omega
      · simp only [List.map_cons, List.flatten_cons, List.all_append, b, Bool.and_true]
        show (sgB c && true) = true
        rw [hc]; rfl
      · simp only [List.map_cons, List.sum_cons, d, List.length_cons]
        show 1 + ws.length = _
        omega
  refine ⟨?_, ?_, e1.2.2⟩
  · show (PySem.Txt.join ("" : Str) ws).cps.size = _
    rw [← Array.length_toList, join0]
    exact e1.1
  · unfold allS
    rw [join0]
    exact e1.2.1
def Rws (m : Nat) (zs : List Str) : Prop := ∀ z ∈ zs, z.length = m ∧ allS z = true
theorem Rws.good {m : Nat} {zs : List Str} (r : Rws m zs) (m1 : 1 ≤ m) (m2 : m ≤ 40) (l1 : 1 ≤ zs.length) (l2 : zs.length ≤ 30) : GoodL (zs.map V.str) := by
  have w : wid (zs.map V.str) = m := by
    cases zs with
    | nil => cases l1
    | cons z r' => exact (r z List.mem_cons_self).1
  refine ⟨by rw [List.length_map]; exact l1, by rw [List.length_map]; exact l2, fun x hx => ?_⟩
  obtain ⟨z, hz, rfl⟩ := List.mem_map.mp hx
  obtain ⟨a, b⟩ := r z hz
  rw [w]
  exact rowB_of (by omega) (by omega) b a
theorem GoodL.rws {xs : List V} (g : GoodL xs) : ∃ zs, xs = zs.map V.str ∧ Rws (Gw.wid xs) zs ∧ zs.length = xs.length := by
  have key : ∀ (n : Nat) (ys : List V), (∀ x ∈ ys, rowB n x = true) → ∃ zs, ys = zs.map V.str ∧ Rws n zs ∧ zs.length = ys.length := by
    intro n ys
    induction ys with
    | nil => intro _; exact ⟨[], rfl, fun _ h => (nomatch h), rfl⟩
    | cons y ys ih =>
      intro h
      obtain ⟨zs, e, r, l⟩ := ih fun x hx => h x (List.mem_cons_of_mem _ hx)
      obtain ⟨z, ez, _, _, a, b⟩ := rowB_str (h y List.mem_cons_self)
      refine ⟨z :: zs, by rw [e, ez]; rfl, fun w hw => ?_, by rw [List.length_cons, List.length_cons, l]⟩
      rcases List.mem_cons.mp hw with q | hw
      · rw [q]; exact ⟨b, a⟩
      · exact r w hw
  exact key _ xs g.all
/-! ### cut and repeated rows -/
theorem GoodL.sub {xs ys : List V} (g : GoodL xs) (h : ∀ y ∈ ys, y ∈ xs) (l1 : 1 ≤ ys.length) (l2 : ys.length ≤ 30) : GoodL ys := by
  have w : Gw.wid ys = Gw.wid xs := by
    cases ys with
    | nil => cases l1
    | cons y r =>
      obtain ⟨z, rfl, _, _, _, e⟩ := rowB_str (g.all y (h y List.mem_cons_self))
      exact e
  exact ⟨l1, l2, fun y hy => by rw [w]; exact g.all y (h y hy)⟩
theorem mul_list {z : Str} {n : Int} (hn : 2 ≤ n) (hz : 1 ≤ z.length) : (PySem.Txt.mul z n).cps.toList = (List.replicate n.toNat z.cps.toList).flatten := by
  unfold PySem.Txt.mul
  have c : (n == 1 || z.length == 0) = false := by
    rw [Bool.or_eq_false_iff]
    exact ⟨beq_eq_false_iff_ne.mpr (by omega), beq_eq_false_iff_ne.mpr (by omega)⟩
  rw [if_neg (by omega), if_neg (by rw [c]; exact Bool.false_ne_true)]
  show ((List.replicate n.toNat z.cps).foldl (· ++ ·) #[]).toList = _
  have key : ∀ (m : Nat) (acc : Array Nat), ((List.replicate m z.cps).foldl (· ++ ·) acc).toList = acc.toList ++ (List.replicate m z.cps.toList).flatten := by
    intro m
    induction m with
    | zero => intro acc; simp
    | succ m ih =>
      intro acc
      rw [List.replicate_succ, List.foldl_cons, ih, List.replicate_succ, List.flatten_cons, Array.toList_append, List.append_assoc]
  rw [key]; simp
theorem mul_ok {z : Str} {n : Int} (h2 : z.length ≤ 40) (hn : n = 40 ∨ n = 41) : PySem.MulOk z n := by
  rcases hn with rfl | rfl
  · refine ⟨by decide, fun _ _ => by omega, fun _ _ => ?_⟩
    unfold PySem.Builtin.Str.tooLong
    have hh : z.length * (40 : Int).toNat ≤ 1640 := by show z.length * 40 ≤ 1640; omega
    exact decide_eq_false (Nat.not_lt.mpr (Nat.le_trans hh (by decide)))
  · refine ⟨by decide, fun _ _ => by omega, fun _ _ => ?_⟩
    unfold PySem.Builtin.Str.tooLong
    have hh : z.length * (41 : Int).toNat ≤ 1640 := by show z.length * 41 ≤ 1640; omega
    exact decide_eq_false (Nat.not_lt.mpr (Nat.le_trans hh (by decide)))
theorem cut_list (z : Str) (k : Nat) : (cutS z none (some (k : Int))).cps.toList = z.cps.toList.take (min k z.length) := by
  unfold cutS
  rw [HT.sIx_none, HT.sIx_nat]
  simp
theorem len_list (z : Str) : z.cps.toList.length = z.length := by simp [Str.length]
theorem flat_len {α : Type} (l : List α) : ∀ m, (List.replicate m l).flatten.length = m * l.length
  | 0 => by simp
  | m + 1 => by rw [List.replicate_succ, List.flatten_cons, List.length_append, flat_len l m, Nat.succ_mul]; omega
theorem flat_mem {α : Type} {l : List α} {x : α} : ∀ {m}, x ∈ (List.replicate m l).flatten → x ∈ l := by
  intro m h
  obtain ⟨l', hl, hx⟩ := List.mem_flatten.mp h
  rw [(List.mem_replicate.mp hl).2] at hx
  exact hx
theorem len_mul' {z : Str} {n : Int} (hn : 2 ≤ n) (hz : 1 ≤ z.length) : (PySem.Txt.mul z n).length = n.toNat * z.length := by
  rw [← len_list, mul_list hn hz, flat_len, len_list]
theorem cut_mul {z : Str} {n : Int} {k : Nat} (hn : 2 ≤ n) (hz : 1 ≤ z.length) (hk : k ≤ n.toNat) (a : allS z = true) : (cutS (PySem.Txt.mul z n) none (some (k : Int))).length = k ∧ allS (cutS (PySem.Txt.mul z n) none (some (k : Int))) = true := by
  have hl := len_mul' hn hz
  have hge : k ≤ (PySem.Txt.mul z n).length := by
    rw [hl]
    exact Nat.le_trans hk (Nat.le_mul_of_pos_right _ hz)
  refine ⟨?_, ?_⟩
  · rw [← len_list, cut_list, List.length_take, len_list]
    omega
  · unfold allS
    rw [cut_list, List.all_eq_true]
    intro c hc
    have hc2 := List.mem_of_mem_take hc
    rw [mul_list hn hz] at hc2
    unfold allS at a
    exact List.all_eq_true.mp a c (flat_mem hc2)
theorem sIx30 (n d : Nat) : HT.sIx n d (some 30) = min 30 n := HT.sIx_nat n d 30
theorem slA_un {K : PySem.W.Frag} {H : Hp} {Q : VK} {a : Addr} {xs : List V} {lo hi : Option Int} (ha : H a = some (.tup xs)) (q : ∀ p G, Same H G → G p = some (.tup (cutV xs lo hi)) → Q (.ref p) G) : rSlA K (.ref a) lo hi H Q := by
  refine ⟨a, xs, rfl, SqT.of ha, fun hw => ?_, fun _ p hp => q p _ (Same.new hp) upd_same⟩
  refine q a H (Same.refl H) ?_
  have e : cutV xs lo hi = xs := by
    unfold cutV
    rw [hw.1, hw.2]
    simp
  rw [e]
  exact ha
theorem catA_un {K : PySem.W.Frag} {H : Hp} {Q : VK} {a b : Addr} {xs ys : List V} (ha : H a = some (.tup xs)) (hb : H b = some (.tup ys)) (l : xs.length + ys.length ≤ sizeLine) (q : ∀ p G, Same H G → G p = some (.tup (xs ++ ys)) → Q (.ref p) G) : rCatA K (.ref a) (.ref b) H Q := by
  refine ⟨a, b, xs, ys, rfl, rfl, SqT.of ha, SqT.of hb, l, fun e => ?_, fun _ e => ?_, fun _ _ p hp => q p _ (Same.new hp) upd_same⟩
  · exact q b H (Same.refl H) (by rw [e]; exact hb)
  · exact q a H (Same.refl H) (by rw [e, List.append_nil]; exact ha)
theorem cutV_mem {xs : List V} {lo hi : Option Int} {x : V} (h : x ∈ cutV xs lo hi) : x ∈ xs := by
  unfold cutV at h
  exact List.mem_of_mem_drop (List.mem_of_mem_take h)
theorem str_app (i j : Str) : (i ++ j).length = i.length + j.length := by
  show (i.cps ++ j.cps).size = _
  rw [Array.size_append]; rfl
theorem GoodL.nc {xs : List V} (g : GoodL xs) {H : Hp} {h : Addr} {x : V} (hx : x ∈ xs) : Nc H x ∧ Off h x := by
  obtain ⟨z, rfl, _, b, _, _⟩ := rowB_str (g.all x hx)
  exact ⟨⟨.str z, fun z' e => by cases e; omega⟩, fun e => nomatch e⟩
theorem cutS_le {z : Str} {lo hi : Option Int} {n : Nat} (h : z.length ≤ n) : (cutS z lo hi).length ≤ n := Nat.le_trans (cutS_length z lo hi) h
theorem hand_off_tup {G : Hp} {h p : Addr} {us : List V} (A : Gw.Hand G h) (e : G p = some (.tup us)) : Off h (.ref p) := fun z => by
  obtain ⟨ys, q⟩ := A.some
  rw [V.ref.inj z, q] at e
  cases e
def Sx (u : V) : Prop := ∃ y, u = .str y ∧ y.length ≤ 1000
theorem Sx.nc {u : V} (s : Sx u) {H : Hp} {h : Addr} : Nc H u ∧ Off h u := by
  obtain ⟨y, rfl, l⟩ := s
  exact ⟨⟨.str y, fun z' e => by cases e; exact l⟩, fun e => nomatch e⟩
theorem cut_le (z : Str) (k : Nat) : (cutS z none (some (k : Int))).length ≤ k := by
  rw [← len_list, cut_list, List.length_take]
  omega
theorem pe_fldK {X : Cx} {e : Expr} {f : Str} {pos : Pos} {ta : TE} (K : PySem.W.Frag) (he : PE X e ta) (hK : X.K = K) (hb : attributeBase e f X.env (eval e X.env) = eval e X.env) : PE X (.Attribute e f pos) (tFld K ta f) := by
  subst hK
  exact pe_fld he hb
theorem resS_flat (xs : List V) (v u : V) : ∀ x ∈ resS xs v u, flatB x = true := by
  intro x hx
  unfold resS at hx
  split at hx <;> (simp only [List.mem_cons, List.not_mem_nil, or_false] at hx)
  · rcases hx with rfl | rfl <;> rfl
  · subst hx; rfl
/-- all four are as is_open asks -/
def okO (v u w h : V) : Bool := isI v && isI u && (stre w && stre h)
structure ResO (xs : List V) (v u w h : V) (os : List V) : Prop where
  yes : ∀ x y m n, v = .int x → u = .int y → w = .int m → h = .int n → 1 ≤ m → m ≤ 32 → 1 ≤ n → n ≤ 32 → ∃ r : Bool, (r = true ↔ OpenP xs x y m n) ∧ os = [.str "told", .bl r]
  no : okO v u w h = false → os = [.str "NoNumber"]
theorem okO_ints {v u w h : V} (e : okO v u w h = true) : ∃ x y m n, v = .int x ∧ u = .int y ∧ w = .int m ∧ h = .int n ∧ 1 ≤ m ∧ m ≤ 32 ∧ 1 ≤ n ∧ n ≤ 32 := by
  obtain ⟨e1, e2⟩ := Bool.and_eq_true_iff.mp e
  obtain ⟨e3, e4⟩ := Bool.and_eq_true_iff.mp e1
  obtain ⟨e5, e6⟩ := Bool.and_eq_true_iff.mp e2
  obtain ⟨m, rfl, m1, m2⟩ := btw_int e5
  obtain ⟨n, rfl, n1, n2⟩ := btw_int e6
  cases v <;> try cases e3
  cases u <;> try cases e4
  exact ⟨_, _, _, _, rfl, rfl, rfl, rfl, m1, m2, n1, n2⟩
def spGI0 (K : PySem.W.Frag) : Sp := fun vs H Q _ => ∃ (p dx a : Addr) (xs : List V), vs = [.ref p, .ref a] ∧ H p = some (.ins (ga K "Ground") dx []) ∧ H a = some (.tup xs) ∧ GoodL xs ∧ ∀ H', But p H H' → GrO K H' p a xs → Q .non H'
theorem Th.good {H : Hp} {h a : Addr} {xs : List V} (e : H a = some (.tup xs)) (n : a ≠ h) (g : GoodL xs) : Th H h (.ref a) :=
  .tp e (fun z => n (V.ref.inj z)) (Nat.le_trans g.l2 (by decide)) fun x hx => g.nc hx
theorem Th.goodH {H : Hp} {h a : Addr} {xs : List V} (A : Gw.Hand H h) (e : H a = some (.tup xs)) (g : GoodL xs) : Th H h (.ref a) :=
  .good e (fun z => hand_off_tup A e (by rw [z])) g
theorem badOf_good {H : Hp} {a : Addr} {xs : List V} (e : H a = some (.tup xs)) (g : GoodL xs) : badOf H (.ref a) = none := by rw [badOf_tup e, g.bad]
/-- what made tells, twice -/
theorem sm_made {H : Hp} {t d : Addr} {v : V} {xs : List V} {b : Option Int} (ht : H t = some (.tup (resM v xs b))) (hd : H d = some (.tup (resM v xs b))) (hb : b = none → ∃ a, v = .ref a ∧ H a = some (.tup xs) ∧ GoodL xs) : SmB H 3 (.ref t) (.ref d) := by
  cases b with
  | some k => exact SmB.tups ht hd (by intro x hx; simp only [resM, List.mem_cons, List.not_mem_nil, or_false] at hx; rcases hx with rfl | rfl <;> rfl)
  | none =>
    obtain ⟨a, rfl, ha, g⟩ := hb rfl
    refine .inr ⟨t, d, _, _, rfl, rfl, ht, hd, rfl, fun i x y hx hy => ?_⟩
    match i, hx, hy with
    | 0, hx, hy => cases hx; cases hy; exact Sm.flat rfl
    | 1, hx, hy =>
      cases hx; cases hy
      exact Sm.tups ha ha fun z hz => by
        obtain ⟨s, rfl, _⟩ := rowB_str (g.all z hz)
        rfl
    | 2, hx, hy => cases hx; cases hy; exact Sm.flat rfl
    | 3, hx, hy => cases hx; cases hy; exact Sm.flat rfl
    | i + 4, hx, hy => cases hx
end Gw

set_option Elab.async false
set_option linter.all false
set_option maxRecDepth 100000
set_option maxHeartbeats 4000000
namespace Gw
open PySem PySem.Spec PyProof.Rows L2 He
/-! ### a def that is run where no guard stands (repr asks so) -/
structure FnG (P : Program) (w : World) (K : PySem.W.Frag) (mg : Str → Option Value) (base : Heap) (CX : CXT) (k : Nat) (f : Addr) (fd : FuncData) (ps : List Str) (sp : Sp) : Prop where
  len : ∀ vs H Q E, sp vs H Q E → vs.length = ps.length
  run : ∀ (A : Around) (outer : List Env) (s : Shared) (H : Hp) (args : Args) (us : List Value) (vs : List V) (Q : VK) (E : XK), A.guards = some [] → Room k A → Env0 P w K mg base A outer s H → BindsTo s fd args (ps.zip us) → Vals vs us → sp vs H Q E →
    codeAny (model P w) A (.call (.ref f) args) (CR CX outer P w H s Q E) s
theorem fnG_of {CX : CXT} {P : Program} {w : World} {K : PySem.W.Frag} {mg : Str → Option Value} {base : Heap} {x qual : Str} {params : Arguments} {body : List Stmt} {scope : Scope} {dvs : List V} {kws : List (Str × V)} {f : Addr} {fd : FuncData} {N ps : List Str} {k : Nat} {sp : Sp}
    (F : FunD K x qual params body scope dvs kws f fd) (S : FnScope N ps scope) (len : ∀ vs H Q E, sp vs H Q E → vs.length = ps.length)
    (hb : ∀ (cdv : Value) (A : Around) (outer : List Env) (s : Shared) (H : Hp) (vs : List V) (Q : VK) (E : XK), A.guards = some [] → Room k (A.deeper (envOfC qual scope s.heap.objs.size f cdv)) → sp vs H Q E →
      ∃ t, PSs (cxOf CX P w K mg base N qual scope f cdv A outer s H E) body t ∧ t { nx := fun _ H' => Q .non H', rt := Q } (start N vs) H) : FnG P w K mg base CX (k + 1) f fd ps sp := by
  obtain ⟨oc, od, dV, kV, doc, pm, an, cdv, ct, osl, rfl, lk, hcd, _, _⟩ := F.ex
  refine ⟨len, fun A outer s H args us vs Q E hg room e0 bnd rv want => ?_⟩
  have two := len _ _ _ _ want
  have kin : K.In s.heap := e0.mod.kin.keeps fun b o e => (e0.bs b o e).1
  have noLim : s.heap.NoLimit := e0.mod.nolimit.keeps fun b o e => (e0.bs b o e).1
  have kinds : ∀ y ∈ ps.zip us, scope.names.lookup y.1 = some .local ∨ (scope.names.lookup y.1 = some .cell ∧ ((cellsFrom (s.heap.objs.size + 1) scope.names []).lookup y.1).isSome = true) := by
    rintro ⟨n, v⟩ hy
    exact (S.par n (List.of_mem_zip hy).1).elim .inl fun q => .inr ⟨q, PySem.W.cellsFrom_some _ _ _ (.inl q)⟩
  refine codeAny_call_function room.depth (kin _ _ lk) rfl S.co S.gen rfl (PySem.W.codeRec_of kin hcd) (bnd _ _ _ _ ?_)
  refine wpAny_newFunctionEnv_cells S.kind kinds fun env he s1 new => ?_
  subst he
  refine ⟨noLim.keeps new.toInCall.keep, codeAny_func ?_⟩
  obtain ⟨t, ht, hq⟩ := hb cdv A outer s H vs Q E hg (room.deeper _) want
  have I : Inv (cxOf CX P w K mg base N qual scope f cdv A outer s H E) [] (start N vs) H s1 := inv_start S room.hd e0 two rv new
  refine wpAny_mono (ht.run [] s1 (start N vs) H _ I hq) (fun fl s' hs => ?_) fun _ _ z => z
  cases fl with
  | ret u => exact let ⟨v, _, H', J, r, q⟩ := hs; ⟨v, H', J.os, J.bare, J.base, J.hok, r, q⟩
  | next => exact let ⟨_, H', J, q⟩ := hs; ⟨.non, H', J.os, J.bare, J.base, J.hok, rfl, q⟩
  | brk => exact hs.elim fun _ z => z.elim fun _ z => z.2.elim
  | cont => exact hs.elim fun _ z => z.elim fun _ z => z.2.elim
/-! ### repr of data -/
def rRepr (K : PySem.W.Frag) : List V → Hp → VK → Prop := fun xs H Q => ∃ (x : V) (d : PyData), xs = [x] ∧ Dp K H x d ∧ PyData.showable d = true ∧ d.hasDict = false ∧ d.depth ≤ 60 ∧ d.shown.length ≤ sizeLine ∧ Q (.str d.shown) H
theorem call_reprD {X : Cx} (hg : X.A.guards = some []) (hu : X.A.units + 64 < cLine) : CallR X (.builtin "repr") (rRepr X.K) := by
  intro pins s σ H xs us Q I r h
  obtain ⟨x, d, rfl, hd, hs, hn, dl, hl, q⟩ := h
  obtain ⟨u, rfl, ru⟩ := vals1 r
  obtain ⟨as, rd⟩ := Dp.reads I d x u hd ru
  have ref : ∀ a, u = .ref a → wpAny (model X.prog X.w) X.A (call (.builtin "repr") [u]) (EP X pins σ Q) X.xe s := fun a e => by
    subst e
    exact PySem.repr_of_reads' (h₀ := s.heap) rd hs (fun z => by rw [hn] at z; cases z) hg (by omega) (fun _ _ e => e)
      (fun h' v tk hk => ⟨.str d.shown, H, I.kept (t' := tk) hk, ⟨v, rfl⟩, q⟩) hl
  cases hd with
  | non => cases (show u = Value.none from ru); exact PySem.P.repr_of_none ⟨.str _, H, I.tok _, ⟨_, rfl⟩, q⟩
  | bl b => cases (show u = Value.bool b from ru); exact PySem.P.repr_of_bool ⟨.str _, H, I.tok _, ⟨_, rfl⟩, by cases b <;> exact q⟩
  | int i =>
    obtain ⟨t, rfl⟩ := (show ∃ t, u = Value.int i t from ru)
    exact PySem.P.repr_of_int (of_decide_eq_true (by simpa [PyData.showable] using hs)) ⟨.str _, H, I.tok _, ⟨_, rfl⟩, q⟩
  | str z =>
    obtain ⟨t, rfl⟩ := (show ∃ t, u = Value.str z t from ru)
    exact PySem.P.repr_of_str ⟨.str _, H, I.tok _, ⟨_, rfl⟩, q⟩ hl
  | lst h1 h2 => exact ref _ ru
  | tup h1 h2 => exact ref _ ru
/-! ### the law's own call, where no guard stands -/
theorem gdict {h : Heap} {H : Hp} {a b : Addr} {vs : Array Value} {o : Obj} {es : Array DictEntry} {ep : Nat} (only : ∀ c, H c ≠ none → c = a) (ha : h.get? a = some { cls := .type "list", data := .seq vs }) (e : h.get? b = some o) (d : o.data = .dict es ep) : H b = none := by
  cases q : H b with
  | none => rfl
  | some u =>
    obtain rfl := only b (by rw [q]; exact fun z => nomatch z)
    rw [ha] at e
    injection e with e
    subst e
    exact Data.noConfusion d
theorem law_callG {P : Program} {w : World} {K : PySem.W.Frag} {mg mb : Str → Option Value} {CX : CXT} {k : Nat} {fa a : Addr} {fd : FuncData} {x : Str} {sp : Sp} {s1 : Shared} {vs : List Value} {ns : List Int}
    (kin : K.In s1.heap) (gm : s1.heap.Ns mainGlobals mg) (gb : s1.heap.Ns builtinsNs mb) (bb : ∀ y : Str, y ≠ "__name__" → mb y = bootBuiltins y) (lim : s1.heap.NoLimit) (gens : s1.gens = #[])
    (ha : s1.heap.get? a = some { cls := .type "list", data := .seq vs.toArray }) (are : IntsAre vs ns) (short : ns.length ≤ sizeLine) (room : Room k callerA)
    (F : ∀ base : Heap, K.In base → base.Ns mainGlobals mg → FnG P w K mg base CX k fa fd [x] sp) (bnd : ∀ (s : Shared) (u : Value), BindsTo s fd ⟨[u], []⟩ [(x, u)])
    (want : ∀ H : Hp, Only H → SqL K H a (ns.map V.int) → sp [.ref a] H (fun v _ => v = .bl true) fun _ _ _ => False)
    (never : ∀ H e s', CX [] H s1 (fun _ _ _ => False) e s' → False) :
    codeAny (model P w) callerA (.call (.ref fa) ⟨[.ref a], []⟩) (fun r s' => r = .ok (.ret (.bool true)) ∧ OldK s1.heap s'.heap ∧ s'.os = s1.os ∧ AllBare s'.gens) s1 := by
  have vals := vals_ints are
  have same := are.length
  have step : ∀ H : Hp, Only H → SqL K H a (ns.map V.int) → HOk P w H s1.heap → (∀ b, H b ≠ none → b = a) → (H a ≠ none → K.lookup a = none) →
      codeAny (model P w) callerA (.call (.ref fa) ⟨[.ref a], []⟩) (fun r s' => r = .ok (.ret (.bool true)) ∧ OldK s1.heap s'.heap ∧ s'.os = s1.os ∧ AllBare s'.gens) s1 := by
    intro H only sq hok lone own
    have ns' : ∀ {b : Addr} {m : Str → Option Value}, s1.heap.Ns b m → (hidT s1.heap H).Ns b m := fun {b m} z => by
      obtain ⟨o, es, ep, e, d, r⟩ := z
      exact ⟨o, es, ep, hidT_get e (gdict lone ha e d), d, r⟩
    have kin' : K.In (hidT s1.heap H) := fun b o e => hidT_get (kin b o e) (by
      cases q : H b with
      | none => rfl
      | some u =>
        obtain rfl := lone b (by rw [q]; exact fun z => nomatch z)
        rw [own (by rw [q]; exact fun z => nomatch z)] at e
        exact nomatch e)
    have md : Mod K mg (hidT s1.heap H) := ⟨kin', ns' gm, ⟨mb, ns' gb, bb⟩, by
      obtain ⟨mc, h1, h2⟩ := lim
      exact ⟨mc, ns' h1, h2⟩⟩
    have nofr : ∀ b : Addr, b ∈ ([] : List Addr) → False := fun b z => nomatch z
    have e0 : Env0 P w K mg (hidT s1.heap H) callerA [] s1 H := ⟨rfl, md, fun b o e => of_hidT e, Nat.le_of_eq (hidT_size _ _), trivial, fun b z => (nofr b z).elim, hok, .of_eq gens⟩
    refine codeAny_mono ((F _ kin' (ns' gm)).run callerA [] s1 H ⟨[.ref a], []⟩ [.ref a] [.ref a] _ _ rfl room e0 (bnd s1 (.ref a)) (.cons rfl .nil) (want H only sq)) fun r s' out => ?_
    cases r with
    | error er => exact (never H er s' out).elim
    | ok fl =>
      cases fl with
      | ret u =>
        obtain ⟨v, H2, os, bare, un, hok2, rv, eq⟩ := out
        cases eq
        obtain rfl : u = Value.bool true := rv
        refine ⟨rfl, OldK.of_keep fun b o e => ?_, os, bare⟩
        cases q : H b with
        | none => exact un.keep b o e q (fun z => nofr b z) (fun z => nomatch z)
        | some u =>
          rcases only b with z | ⟨ob, ys, z⟩
          · rw [q] at z
            exact nomatch z
          · have e1 := (hok b _ z).1
            have e2 := (hok2 b _ (un.frzs b ob _ z)).1
            rw [e] at e1
            cases e1
            exact e2
      | next => exact out.elim
      | brk => exact out.elim
      | cont => exact out.elim
  cases hk : K.lookup a with
  | some o =>
    have e := kin a o hk
    rw [ha] at e
    cases e
    exact step (fun _ => none) (fun _ => .inl rfl) (.inr ⟨_, vs.toArray, _, hk, rfl, rfl, rfl, by rw [List.size_toArray, same]; exact short, by simpa using vals⟩) (fun b u z => nomatch (show (none : Option HO) = some u from z)) (fun b z => (z rfl).elim) fun z => (z rfl).elim
  | none =>
    have at_ : ∀ b, b ≠ a → (fun c => if c = a then some (HO.frz { cls := .type "list", data := .seq vs.toArray } (.lst (ns.map V.int))) else none) b = none := fun b n => if_neg n
    refine step (fun c => if c = a then some (.frz { cls := .type "list", data := .seq vs.toArray } (.lst (ns.map V.int))) else none) (fun b => ?_) (.inl (.inr ⟨_, if_pos rfl⟩)) (fun b u z => ?_) (fun b z => Decidable.byContradiction fun n => z (at_ b n)) fun _ => hk
    · by_cases n : b = a
      · exact .inr ⟨_, _, if_pos n⟩
      · exact .inl (if_neg n)
    · by_cases n : b = a
      · have z2 := (if_pos n).symm.trans z
        cases z2
        subst n
        exact ⟨ha, by rw [List.length_map]; exact short, vs, _, vals, ha⟩
      · rw [at_ b n] at z
        exact nomatch z
theorem walk_ofG {l : PySem.W.OpenLaw} {n k : Nat} {q : Program} {loose : List Str} {XP : (Str → Option Value) → Heap → Prop} {YP : World → Heap → Prop} {d : DefRec} {CX : CXT} {x : Str}
    (most : l.most = some n) (fits : n ≤ sizeLine) (nodef : d.params.defaults = []) (room : Room k callerA)
    (F : ∀ (w : World) (mg : Str → Option Value) (fa : Addr) (h : Heap), YP w h → h.Ns mainGlobals mg → mg d.name = some (.ref fa) →
      ∃ (K : PySem.W.Frag) (fd : FuncData) (sp : Sp), K.In h ∧ (∀ (s : Shared) (u : Value), BindsTo s fd ⟨[u], []⟩ [(x, u)]) ∧
        (∀ (H : Hp) (a : Addr) (ns : List Int), ns.length ≤ n → Only H → SqL K H a (ns.map V.int) → sp [.ref a] H (fun v _ => v = .bl true) fun _ _ _ => False) ∧
        ∀ base : Heap, K.In base → base.Ns mainGlobals mg → FnG l.prog w K mg base CX k fa fd [x] sp)
    (never : ∀ (H : Hp) (s : Shared) (e : Value) (s' : Shared), CX [] H s (fun _ _ _ => False) e s' → False) :
    PySem.W.WalkO q loose XP YP l.row.toRowW d [] (fun f vs => PySem.call f vs) := by
  refine Att.attach_call most nodef fun w s0 s1 mg mb fa o pm cd doc a vs ns G Y ho hd hcd hmg hobj hints hlen hg => ?_
  obtain ⟨K, fd, sp, kin, hb, hsp, hF⟩ := F w mg fa _ Y G.T.g hmg
  exact law_callG kin G.T.g G.T.b G.T.builtins G.T.nolimit hg hobj hints (Nat.le_trans hlen fits) room hF hb (fun H only sq => hsp H a ns hlen only sq) fun H e s' => never H s1 e s'
end Gw

set_option Elab.async false
set_option linter.all false
set_option maxRecDepth 100000
set_option maxHeartbeats 4000000
namespace Gw
open PySem PySem.Spec PyProof.Rows L2
theorem tuple_mul1 (l : Addr) (items : Array Value) (n : Nat) (dd : Option Addr) (sl : Array (Option Value)) (x : Int) (u : Tok) (c0 : (decide (x < -(2 ^ 63)) || decide (x ≥ 2 ^ 63)) = false) (c1 : (items.isEmpty || x == 1) = true) :
    Meets (Builtin.«tuple.__mul__» ⟨[.ref l, .int x u], []⟩) (fun _ R s => s.heap.get? l = some { cls := .type "tuple", dict := dd, data := .seq items n, slots := sl } ∧
      R (.ok (.ret (Value.ref l))) s) :=
  .of_wp fun prog w A R s h => by
    obtain ⟨hp, g, d, tk, os⟩ := s
    obtain ⟨hl, h⟩ := h
    have f1 := AutoSeq1.idx_int
    wp_walk using wpAny_loadPart' hl
    refine wpAny_ite_false (decide_eq_false (by rw [c0]; exact Bool.false_ne_true)) ?_
    wp_walk using wpAny_loadPart' hl
    exact ⟨_, rfl, h⟩
def rRepT1 (K : PySem.W.Frag) : R2 := fun x y H Q => ∃ l k xs, x = .ref l ∧ y = .int k ∧ SqT K H l xs ∧ (xs = [] ∨ k = 1) ∧ -1000 ≤ k ∧ k ≤ 1000 ∧ Q (.ref l) H
section
variable {X : Cx}
theorem op_repT1 : OpR X (binaryOp .Mult) (rRepT1 X.K) := by
  intro pins s σ H x y v u Q I rx ry h
  obtain ⟨l, k, xs, rfl, rfl, hT, hne, h1, h2, q⟩ := h
  cases rx
  obtain ⟨t, rfl⟩ := ry
  obtain ⟨its, r, ⟨⟨cls, dd, data, sl⟩, ho, hc, n, hd⟩, hs⟩ := I.tuple hT
  simp only at hc hd
  subst hc hd
  have hle : its.length = xs.length := r.length.symm
  have c0 : (decide (k < -(2 ^ 63)) || decide (k ≥ 2 ^ 63)) = false := by
    rw [decide_eq_false (by omega), decide_eq_false (by omega)] <;> rfl
  have c1 : (its.toArray.isEmpty || k == 1) = true := by
    rcases hne with rfl | rfl
    · have : its = [] := List.eq_nil_of_length_eq_zero hle
      subst this
      rfl
    · simp
  refine wpAny_binaryOp_repeat_ref (T := "tuple") (U := "int") (by decide) ⟨_, ho, rfl⟩ (fun s' => typeIs_int s' k t) noFill_tuple_mul F.fills_int_mul F.slot_int_rmul repeat_tuple F.slot_int_index.lookup
    (call_meets F.slot_int_rmul (typeIs_int s k t) F.entry_int_rmul (F.args_int_rmul_2 _ _) (int_rmul_tuple k t l its.toArray n dd sl)
      ⟨ho, rfl, ⟨_, ho, rfl⟩, call_meets F.slot_tuple_mul ⟨_, ho, rfl⟩ F.entry_tuple_mul (F.args_tuple_mul_2 _ _) (tuple_mul1 l its.toArray n dd sl k t c0 c1) ⟨ho, ?_⟩⟩)
  exact ⟨.ref l, H, I, rfl, q⟩
end
end Gw

set_option Elab.async false
set_option linter.all false
set_option maxRecDepth 100000
set_option maxHeartbeats 4000000
namespace Gw
open PySem PySem.Spec PyProof.Rows L2
/-- extend by a tuple, whatever else that has -/
theorem extend_tup (p q : Addr) (xs ys : Array Value) (k k2 : Nat) (dd : Option Addr) (sl : Array (Option Value)) (h0 : ¬ (!xs.isEmpty && Builtin.List.listTooLong (xs.size + ys.size)) = true) (h1 : xs.size ≤ sizeLine) (h2 : xs.size + ys.size ≤ sizeLine + 1) :
    Meets (Builtin.«list.extend» ⟨[.ref p, .ref q], []⟩) (fun _ R s => s.heap.get? p = some { cls := .type "list", dict := none, data := .seq xs k, slots := #[] } ∧
      s.heap.get? q = some { cls := .type "tuple", dict := dd, data := .seq ys k2, slots := sl } ∧ R (.ok (.ret Value.none)) { s with heap := s.heap.update p (Obj.mapSeq fun z => z ++ ys), toks := s.toks }) :=
  .of_wp fun prog w A R s h => by
    obtain ⟨hp, g, d, tk, os⟩ := s
    obtain ⟨e1, e2, h⟩ := h
    have g2 := AutoSeq1.sub_tuple_tuple
    have g4 := AutoSeq1.sub_tuple_list
    have g6 : (xs ++ ys).size ≤ sizeLine + 1 := by rw [Array.size_append]; exact h2
    wp_walk using (wpAny_updateSeq e1 rfl (hz := h1) (_hz' := g6)), AutoSeq1.wpAny_loadPart' e1, AutoSeq1.wpAny_loadPart' e2
    exact ⟨_, rfl, h⟩
def rExtT (K : PySem.W.Frag) : V → List V → Hp → VK → Prop := fun x vs H Q => ∃ l b xs zs, x = .ref l ∧ vs = [.ref b] ∧ H l = some (.lst xs) ∧ SqT K H b zs ∧ xs.length + zs.length ≤ sizeLine ∧ Q .non (upd H l (.lst (xs ++ zs)))
theorem mt_extT {X : Cx} : MtR X "list.extend" (rExtT X.K) := by
  intro pins s σ H x vs v us Q I rx rv h
  obtain ⟨l, b, xs, zs, rfl, rfl, hH, hB, hz, q⟩ := h
  cases rx
  obtain ⟨u, rfl, ru⟩ := rv.one
  cases ru
  obtain ⟨_, its, n, r, hl, e⟩ := I.lstM hH
  obtain ⟨its2, r2, ⟨⟨cls, dd, data, sl⟩, ho, hc, n2, hd⟩, hs⟩ := I.tuple hB
  simp only at hc hd
  subst hc hd
  have l1 := r.length
  have l2 := r2.length
  have hsz : its.toArray.size + its2.toArray.size ≤ sizeLine := by rw [List.size_toArray, List.size_toArray]; omega
  have hlong : ¬ (!its.toArray.isEmpty && Builtin.List.listTooLong (its.toArray.size + its2.toArray.size)) = true := by
    rw [notLongL hsz, Bool.and_false]
    exact Bool.false_ne_true
  refine call_meets F.slot_list_extend ⟨_, e, rfl⟩ F.entry_list_extend (F.args_list_extend_2 _ _) (extend_tup l b its.toArray its2.toArray n n2 dd sl hlong (by omega) (by omega)) ⟨e, ho, ?_⟩
  refine ⟨.non, _, I.lset (its' := its ++ its2) hH e (by simp) (r.append r2) ?_, rfl, q⟩
  rw [List.length_append]
  omega
end Gw

set_option Elab.async false
set_option linter.all false
set_option maxRecDepth 100000
set_option maxHeartbeats 4000000
namespace Gw
open PySem PySem.Spec PyProof.Rows L2 He
/-- a def that a second name of the module stands for: x the name, y its own -/
structure Da (K : PySem.W.Frag) (mg : Str → Option Value) (x y : Str) (st : Stmt) (ps : List Str) : Prop where
  F : FunD K y y (defArgs st) (defBody st) (defScope st) [] [] (ga K x) (fdAt K (ga K x))
  g : mg x = some (.ref (ga K x))
  b : Binds K (fdAt K (ga K x)) ps []
theorem da_of {K : PySem.W.Frag} {mg : Str → Option Value} {x y : Str} {st : Stmt} {ps : List Str} (h : ∃ fd, FunD K y y (defArgs st) (defBody st) (defScope st) [] [] (ga K x) fd) (g : mg x = some (.ref (ga K x)))
    (hb : ∀ (kV doc pm : Value) (an : Option Addr) (cdv ct : Value) (us : List Value), us.length = ps.length → bindArgs (PySem.W.fnOf y y (defArgs st) (defBody st) (defScope st) .none kV doc pm an cdv ct) ⟨us, []⟩ = pure (ps.zip us)) : Da K mg x y st ps := by
  obtain ⟨fd, F⟩ := h
  have e := fdAt_of F
  subst e
  exact ⟨F, g, F.bindsN hb⟩
/-- a class that is made, of which nothing is told of == -/
structure ClsU (K : PySem.W.Frag) (C f : Addr) : Prop where
  cl : Cls K C
  mkr : Mk K C f
def clsU (K : PySem.W.Frag) (C f : Addr) : Bool := (PySem.W.plainGet K C Str.empty && PySem.W.hasDictIn K C && PySem.W.plainOver K C) && eqO (PySem.W.findIn K (.ref C) "__setattr__") (some (some (.builtin "object.__setattr__"))) &&
  (PySem.W.makesIn K C && eqO (PySem.W.findIn K (.ref C) "__init__") (some (some (.ref f)))) && (PySem.W.isFn K (.ref f) && PySem.W.keepIn K (.ref C))
theorem clsU_ok {K : PySem.W.Frag} {C f : Addr} (h : clsU K C f = true) : ClsU K C f := by
  unfold clsU at h
  simp only [Bool.and_eq_true] at h
  obtain ⟨⟨⟨⟨⟨h1, h2⟩, h3⟩, h4⟩, h5, h6⟩, h7, h8⟩ := h
  exact ⟨⟨h1, h2, h3, eqO_ok h4⟩, ⟨h5, eqO_ok h6, h7, h8⟩⟩
end Gw

set_option Elab.async false
set_option linter.all false
set_option maxRecDepth 100000
set_option maxHeartbeats 4000000
namespace Ev
open PySem PySem.Spec PyProof.Rows L2 He Gw
/-! ### data: what stands without the heap -/
inductive D where
  | non | bl (b : Bool) | int (i : Int) | str (x : Str)
  | tup (ds : List D) | lst (ds : List D) | dct (ks : List Key) (ds : List D) | ins (c : Str) (ks : List Str) (ds : List D)
  | glo (x : Str) | ty (n : String) | scr (ns : List Int)
  deriving Inhabited
/-- a module's own tuple or list -/
def CstT (K : PySem.W.Frag) (a : Addr) (xs : List V) : Prop := ∃ (o : Obj) (its : Array Value) (n : Nat), K.lookup a = some o ∧ o.cls = .type "tuple" ∧ o.data = .seq its n ∧ its.size ≤ sizeLine ∧ Vals xs its.toList
def CstL (K : PySem.W.Frag) (a : Addr) (xs : List V) : Prop := ∃ (o : Obj) (its : Array Value) (n : Nat), K.lookup a = some o ∧ o.cls = .type "list" ∧ o.dict = none ∧ o.data = .seq its n ∧ its.size ≤ sizeLine ∧ Vals xs its.toList
/-- a stands off M, and is u there -/
def At (M : Addr → Prop) (H : Hp) (a : Addr) (u : HO) : Prop := ¬ M a ∧ H a = some u
mutual
/-- v is d, off M -/
def rd (K : PySem.W.Frag) (M : Addr → Prop) (H : Hp) : D → V → Prop
  | .non, v => v = .non
  | .bl b, v => v = .bl b
  | .int i, v => v = .int i
  | .str x, v => v = .str x
  | .tup ds, v => ∃ a vs, v = .ref a ∧ (At M H a (.tup vs) ∨ CstT K a vs) ∧ rdL K M H ds vs
  | .lst ds, v => ∃ a vs, v = .ref a ∧ At M H a (.lst vs) ∧ rdL K M H ds vs
  | .dct ks ds, v => ∃ a vs, v = .ref a ∧ At M H a (.dK (ks.zip vs)) ∧ ks.length = vs.length ∧ rdL K M H ds vs
  | .ins c ks ds, v => ∃ a dx vs, v = .ref a ∧ At M H a (.ins (ga K c) dx (ks.zip vs)) ∧ ks.length = vs.length ∧ rdL K M H ds vs
  | .glo x, v => v = .ref (ga K x)
  | .ty n, v => v = .ty n
  | .scr ns, v => ∃ a, v = .ref a ∧ ((¬ M a ∧ Rd H a (.lst (ns.map V.int))) ∨ CstL K a (ns.map V.int))
def rdL (K : PySem.W.Frag) (M : Addr → Prop) (H : Hp) : List D → List V → Prop
  | [], vs => vs = []
  | d :: ds, vs => ∃ v r, vs = v :: r ∧ rd K M H d v ∧ rdL K M H ds r
end
section
variable {K : PySem.W.Frag} {M M' : Addr → Prop} {H H' : Hp}
theorem rdL_len : ∀ {ds : List D} {vs : List V}, rdL K M H ds vs → ds.length = vs.length
  | [], _, h => by rw [rdL] at h; subst h; rfl
  | d :: ds, _, h => by
    rw [rdL] at h
    obtain ⟨v, r, rfl, _, h⟩ := h
    rw [List.length_cons, List.length_cons, rdL_len h]
theorem rdL_get : ∀ {ds : List D} {vs : List V} {i : Nat} {d : D}, rdL K M H ds vs → ds[i]? = some d → ∃ v, vs[i]? = some v ∧ rd K M H d v
  | [], _, _, _, _, e => by simp at e
  | d :: ds, _, 0, d', h, e => by
    rw [rdL] at h
    obtain ⟨v, r, rfl, h1, h⟩ := h
    simp at e
    subst e
    exact ⟨v, rfl, h1⟩
  | d :: ds, _, i + 1, d', h, e => by
    rw [rdL] at h
    obtain ⟨v, r, rfl, h1, h⟩ := h
    obtain ⟨v', e1, e2⟩ := rdL_get (i := i) (d := d') h (by simpa using e)
    exact ⟨v', by simpa using e1, e2⟩
theorem rdL_of : ∀ {ds : List D} {vs : List V}, ds.length = vs.length → (∀ (i : Nat) d v, ds[i]? = some d → vs[i]? = some v → rd K M H d v) → rdL K M H ds vs
  | [], [], _, _ => by rw [rdL]
  | [], _ :: _, e, _ => by simp at e
  | _ :: _, [], e, _ => by simp at e
  | d :: ds, v :: vs, e, h => by
    rw [rdL]
    exact ⟨v, vs, rfl, h 0 d v rfl rfl, rdL_of (by simpa using e) fun i d' v' h1 h2 => h (i + 1) d' v' (by simpa using h1) (by simpa using h2)⟩
theorem rdL_app : ∀ {ds es : List D} {vs us : List V}, rdL K M H ds vs → rdL K M H es us → rdL K M H (ds ++ es) (vs ++ us)
  | [], es, _, us, h, h' => by rw [rdL] at h; subst h; exact h'
  | d :: ds, es, _, us, h, h' => by
    rw [rdL] at h
    obtain ⟨v, r, rfl, h1, h⟩ := h
    show rdL K M H (d :: (ds ++ es)) (v :: (r ++ us))
    rw [rdL]
    exact ⟨v, _, rfl, h1, rdL_app h h'⟩
theorem rdL_one {d : D} {v : V} (h : rd K M H d v) : rdL K M H [d] [v] := by
  rw [rdL]
  exact ⟨v, [], rfl, h, by rw [rdL]⟩
theorem rdL_take {ds : List D} {vs : List V} (h : rdL K M H ds vs) (n : Nat) : rdL K M H (ds.take n) (vs.take n) :=
  rdL_of (by rw [List.length_take, List.length_take, rdL_len h]) fun i d v h1 h2 => by
    rw [List.getElem?_take] at h1 h2
    split at h1
    · rename_i hi
      rw [if_pos hi] at h2
      obtain ⟨v', e, r⟩ := rdL_get h h1
      rw [e] at h2
      cases h2
      exact r
    · cases h1
theorem rdL_drop {ds : List D} {vs : List V} (h : rdL K M H ds vs) (n : Nat) : rdL K M H (ds.drop n) (vs.drop n) :=
  rdL_of (by rw [List.length_drop, List.length_drop, rdL_len h]) fun i d v h1 h2 => by
    rw [List.getElem?_drop] at h1 h2
    obtain ⟨v', e, r⟩ := rdL_get h h1
    rw [e] at h2
    cases h2
    exact r
theorem rdL_set {ds : List D} {vs : List V} (h : rdL K M H ds vs) {d : D} {v : V} (hd : rd K M H d v) (n : Nat) : rdL K M H (ds.set n d) (vs.set n v) :=
  rdL_of (by rw [List.length_set, List.length_set, rdL_len h]) fun i d' v' h1 h2 => by
    by_cases e : n = i
    · subst e
      have hl : n < ds.length := by
        have := (List.getElem?_eq_some_iff.mp h1).1
        rw [List.length_set] at this
        exact this
      rw [List.getElem?_set_self hl] at h1
      rw [List.getElem?_set_self (by rw [← rdL_len h]; exact hl)] at h2
      cases h1
      cases h2
      exact hd
    · rw [List.getElem?_set_ne e] at h1 h2
      obtain ⟨v2, e2, r⟩ := rdL_get h h1
      rw [e2] at h2
      cases h2
      exact r
theorem rdL_rev {ds : List D} {vs : List V} (h : rdL K M H ds vs) : rdL K M H ds.reverse vs.reverse := by
  have l := rdL_len h
  refine rdL_of (by rw [List.length_reverse, List.length_reverse, l]) fun i d v h1 h2 => ?_
  have hi : i < ds.length := by
    have := (List.getElem?_eq_some_iff.mp h1).1
    rw [List.length_reverse] at this
    exact this
  rw [List.getElem?_reverse hi] at h1
  rw [List.getElem?_reverse (by rw [← l]; exact hi)] at h2
  obtain ⟨v2, e2, r⟩ := rdL_get h h1
  rw [← l, e2] at h2
  cases h2
  exact r
/-! ### what stays -/
structure Stay (M : Addr → Prop) (H : Hp) (M' : Addr → Prop) (H' : Hp) : Prop where
  keep : ∀ a o, ¬ M a → H a = some o → H' a = some o
  new : ∀ a, M' a → M a ∨ H a = none
theorem Stay.at_ {a : Addr} {u : HO} (s : Stay M H M' H') (h : At M H a u) : At M' H' a u := by
  obtain ⟨n, h⟩ := h
  exact ⟨fun z => (s.new a z).elim n (fun e => (by rw [e] at h; cases h)), s.keep a _ n h⟩
mutual
theorem rd_stay (s : Stay M H M' H') : ∀ (d : D) (v : V), rd K M H d v → rd K M' H' d v
  | .non, _, h => by rw [rd] at h ⊢; exact h
  | .bl _, _, h => by rw [rd] at h ⊢; exact h
  | .int _, _, h => by rw [rd] at h ⊢; exact h
  | .str _, _, h => by rw [rd] at h ⊢; exact h
  | .tup ds, _, h => by
    rw [rd] at h ⊢
    obtain ⟨a, vs, e, h1, h2⟩ := h
    exact ⟨a, vs, e, h1.imp s.at_ id, rdL_stay s ds vs h2⟩
  | .lst ds, _, h => by
    rw [rd] at h ⊢
    obtain ⟨a, vs, e, h1, h2⟩ := h
    exact ⟨a, vs, e, s.at_ h1, rdL_stay s ds vs h2⟩
  | .dct ks ds, _, h => by
    rw [rd] at h ⊢
    obtain ⟨a, vs, e, h1, h2, h3⟩ := h
    exact ⟨a, vs, e, s.at_ h1, h2, rdL_stay s ds vs h3⟩
  | .ins c ks ds, _, h => by
    rw [rd] at h ⊢
    obtain ⟨a, dx, vs, e, h1, h2, h3⟩ := h
    exact ⟨a, dx, vs, e, s.at_ h1, h2, rdL_stay s ds vs h3⟩
  | .glo _, _, h => by rw [rd] at h ⊢; exact h
  | .ty _, _, h => by rw [rd] at h ⊢; exact h
  | .scr ns, _, h => by
    rw [rd] at h ⊢
    obtain ⟨a, e, h⟩ := h
    refine ⟨a, e, h.imp (fun ⟨n, h⟩ => ?_) id⟩
    rcases h with h | ⟨o, h⟩
    · exact ⟨(s.at_ ⟨n, h⟩).1, .inl (s.keep a _ n h)⟩
    · exact ⟨(s.at_ ⟨n, h⟩).1, .inr ⟨o, s.keep a _ n h⟩⟩
theorem rdL_stay (s : Stay M H M' H') : ∀ (ds : List D) (vs : List V), rdL K M H ds vs → rdL K M' H' ds vs
  | [], _, h => by rw [rdL] at h ⊢; exact h
  | d :: ds, _, h => by
    rw [rdL] at h ⊢
    obtain ⟨v, r, e, h1, h2⟩ := h
    exact ⟨v, r, e, rd_stay s d v h1, rdL_stay s ds r h2⟩
end
end
/-! ### what a slot holds: data, or an object of one's own -/
inductive Wv where
  | fz (d : D) | ol (ds : List D) | od (ks : List Key) (ds : List D) | oi (c : Str) (ks : List Str) (ws : List Wv) | ow (ws : List Wv)
  deriving Inhabited
mutual
/-- v is w, its own objects at fp -/
def rw' (K : PySem.W.Frag) (M : Addr → Prop) (H : Hp) : Wv → V → List Addr → Prop
  | .fz d, v, fp => fp = [] ∧ rd K M H d v
  | .ol ds, v, fp => ∃ a vs, v = .ref a ∧ fp = [a] ∧ H a = some (.lst vs) ∧ rdL K M H ds vs
  | .od ks ds, v, fp => ∃ a vs, v = .ref a ∧ fp = [a] ∧ H a = some (.dK (ks.zip vs)) ∧ ks.length = vs.length ∧ rdL K M H ds vs
  | .oi c ks ws, v, fp => ∃ a dx vs fq, v = .ref a ∧ fp = a :: fq ∧ H a = some (.ins (ga K c) dx (ks.zip vs)) ∧ ks.length = vs.length ∧ rwL K M H ws vs fq
  | .ow ws, v, fp => ∃ a vs fq, v = .ref a ∧ fp = a :: fq ∧ H a = some (.lst vs) ∧ rwL K M H ws vs fq
def rwL (K : PySem.W.Frag) (M : Addr → Prop) (H : Hp) : List Wv → List V → List Addr → Prop
  | [], vs, fp => vs = [] ∧ fp = []
  | w :: ws, vs, fp => ∃ v r f1 f2, vs = v :: r ∧ fp = f1 ++ f2 ∧ rw' K M H w v f1 ∧ rwL K M H ws r f2
end
section
variable {K : PySem.W.Frag} {M M' : Addr → Prop} {H H' : Hp}
mutual
theorem rw_there : ∀ (w : Wv) (v : V) (fp : List Addr), rw' K M H w v fp → ∀ a ∈ fp, H a ≠ none
  | .fz _, _, _, h => by rw [rw'] at h; rw [h.1]; exact fun _ z => nomatch z
  | .ol _, _, _, h => by
    rw [rw'] at h
    obtain ⟨a, vs, _, rfl, e, _⟩ := h
    intro b hb
    rw [List.mem_singleton.mp hb, e]
    exact fun z => nomatch z
  | .od _ _, _, _, h => by
    rw [rw'] at h
    obtain ⟨a, vs, _, rfl, e, _⟩ := h
    intro b hb
    rw [List.mem_singleton.mp hb, e]
    exact fun z => nomatch z
  | .oi _ _ ws, _, _, h => by
    rw [rw'] at h
    obtain ⟨a, dx, vs, fq, _, rfl, e, _, h⟩ := h
    intro b hb
    rcases List.mem_cons.mp hb with rfl | hb
    · rw [e]; exact fun z => nomatch z
    · exact rwL_there ws _ _ h b hb
  | .ow ws, _, _, h => by
    rw [rw'] at h
    obtain ⟨a, vs, fq, _, rfl, e, h⟩ := h
    intro b hb
    rcases List.mem_cons.mp hb with rfl | hb
    · rw [e]; exact fun z => nomatch z
    · exact rwL_there ws _ _ h b hb
theorem rwL_there : ∀ (ws : List Wv) (vs : List V) (fp : List Addr), rwL K M H ws vs fp → ∀ a ∈ fp, H a ≠ none
  | [], _, _, h => by rw [rwL] at h; rw [h.2]; exact fun _ z => nomatch z
  | w :: ws, _, _, h => by
    rw [rwL] at h
    obtain ⟨v, r, f1, f2, _, rfl, h1, h2⟩ := h
    intro b hb
    rcases List.mem_append.mp hb with hb | hb
    · exact rw_there w _ _ h1 b hb
    · exact rwL_there ws _ _ h2 b hb
end
mutual
theorem rw_stay (s : Stay M H M' H') : ∀ (w : Wv) (v : V) (fp : List Addr), (∀ a ∈ fp, H' a = H a) → rw' K M H w v fp → rw' K M' H' w v fp
  | .fz d, _, _, _, h => by rw [rw'] at h ⊢; exact ⟨h.1, rd_stay s _ _ h.2⟩
  | .ol ds, _, _, k, h => by
    rw [rw'] at h ⊢
    obtain ⟨a, vs, e, rfl, e2, h⟩ := h
    exact ⟨a, vs, e, rfl, by rw [k a List.mem_cons_self, e2], rdL_stay s _ _ h⟩
  | .od ks ds, _, _, k, h => by
    rw [rw'] at h ⊢
    obtain ⟨a, vs, e, rfl, e2, l, h⟩ := h
    exact ⟨a, vs, e, rfl, by rw [k a List.mem_cons_self, e2], l, rdL_stay s _ _ h⟩
  | .oi c ks ws, _, _, k, h => by
    rw [rw'] at h ⊢
    obtain ⟨a, dx, vs, fq, e, rfl, e2, l, h⟩ := h
    exact ⟨a, dx, vs, fq, e, rfl, by rw [k a List.mem_cons_self, e2], l, rwL_stay s ws vs fq (fun b hb => k b (List.mem_cons_of_mem _ hb)) h⟩
  | .ow ws, _, _, k, h => by
    rw [rw'] at h ⊢
    obtain ⟨a, vs, fq, e, rfl, e2, h⟩ := h
    exact ⟨a, vs, fq, e, rfl, by rw [k a List.mem_cons_self, e2], rwL_stay s ws vs fq (fun b hb => k b (List.mem_cons_of_mem _ hb)) h⟩
theorem rwL_stay (s : Stay M H M' H') : ∀ (ws : List Wv) (vs : List V) (fp : List Addr), (∀ a ∈ fp, H' a = H a) → rwL K M H ws vs fp → rwL K M' H' ws vs fp
  | [], _, _, _, h => by rw [rwL] at h ⊢; exact h
  | w :: ws, _, _, k, h => by
    rw [rwL] at h ⊢
    obtain ⟨v, r, f1, f2, e, rfl, h1, h2⟩ := h
    exact ⟨v, r, f1, f2, e, rfl, rw_stay s w v f1 (fun a ha => k a (List.mem_append_left _ ha)) h1, rwL_stay s ws r f2 (fun a ha => k a (List.mem_append_right _ ha)) h2⟩
end
end
/-! ### the slots together -/
abbrev Fp := Nat → List Addr
abbrev En := List (Option Wv)
def inF (F : Fp) (a : Addr) : Prop := ∃ i, a ∈ F i
def av (B : Addr → Prop) (F : Fp) (a : Addr) : Prop := B a ∨ inF F a
structure Ok (K : PySem.W.Frag) (B : Addr → Prop) (F : Fp) (H : Hp) (σ : L2.St) (env : En) : Prop where
  len : env.length = σ.length
  at_ : ∀ i w, env[i]? = some (some w) → ∃ v, σ[i]? = some (some v) ∧ rw' K (av B F) H w v (F i)
  nd : ∀ i, (F i).Nodup
  dj : ∀ i j a, a ∈ F i → a ∈ F j → i = j
  there : ∀ a, av B F a → H a ≠ none
  sep : ∀ a, B a → ¬ inF F a
/-- from (F, H) to (F', H'): all but what is in F stays; F' has new ones beside those of F -/
structure Stp (F : Fp) (H : Hp) (F' : Fp) (H' : Hp) : Prop where
  keep : ∀ a o, ¬ inF F a → H a = some o → H' a = some o
  new : ∀ a, inF F' a → inF F a ∨ H a = none
section
variable {K : PySem.W.Frag} {B : Addr → Prop} {F F1 F2 F' : Fp} {H H1 H2 H' : Hp} {σ : L2.St} {env : En}
theorem Stp.refl : Stp F H F H := ⟨fun _ _ _ h => h, fun _ h => .inl h⟩
theorem Stp.trans (a : Stp F H F1 H1) (b : Stp F1 H1 F2 H2) : Stp F H F2 H2 where
  keep := fun c o n h => b.keep c o (fun z => (a.new c z).elim n fun e => by rw [e] at h; cases h) (a.keep c o n h)
  new := fun c h => by
    rcases b.new c h with h | h
    · exact a.new c h
    · by_cases n : inF F c
      · exact .inl n
      · cases e : H c with
        | none => exact .inr rfl
        | some o => rw [a.keep c o n e] at h; cases h
theorem Stp.stay (s : Stp F H F' H') (B : Addr → Prop) : Stay (av B F) H (av B F') H' where
  keep := fun a o n h => s.keep a o (fun z => n (.inr z)) h
  new := fun a h => h.elim (fun z => .inl (.inl z)) fun z => (s.new a z).imp (fun z => .inr z) id
theorem Stp.rd (s : Stp F H F' H') {d : D} {v : V} (h : rd K (av B F) H d v) : Ev.rd K (av B F') H' d v := rd_stay (s.stay B) d v h
theorem Stp.rdL (s : Stp F H F' H') {ds : List D} {vs : List V} (h : rdL K (av B F) H ds vs) : Ev.rdL K (av B F') H' ds vs := rdL_stay (s.stay B) ds vs h
/-- a new object -/
theorem Stp.upd {p : Addr} {o : HO} (n : H p = none) : Stp F H F (upd H p o) where
  keep := fun a u _ h => by rw [upd_ne (ne_of_none h n)]; exact h
  new := fun _ h => .inl h
theorem Ok.off (k : Ok K B F H σ env) {p : Addr} (n : H p = none) : ¬ av B F p := fun z => k.there p z n
/-- the heap grows: all that stood stands -/
theorem Ok.grow (k : Ok K B F H σ env) (g : ∀ a o, H a = some o → H' a = some o) : Ok K B F H' σ env where
  len := k.len
  at_ := fun i w e => by
    obtain ⟨v, e1, r⟩ := k.at_ i w e
    refine ⟨v, e1, rw_stay ⟨fun a o _ h => g a o h, fun a h => .inl h⟩ w v (F i) (fun a ha => ?_) r⟩
    cases q : H a with
    | none => exact absurd q (k.there a (.inr ⟨i, ha⟩))
    | some o => exact g a o q
  nd := k.nd
  dj := k.dj
  there := fun a h z => by
    cases q : H a with
    | none => exact k.there a h q
    | some o => rw [g a o q] at z; cases z
  sep := k.sep
theorem grow_upd {p : Addr} {o : HO} (n : H p = none) : ∀ a u, H a = some u → upd H p o a = some u := fun a u h => by rw [upd_ne (ne_of_none h n)]; exact h
theorem Stp.grow (g : ∀ a o, H a = some o → H' a = some o) : Stp F H F H' := ⟨fun a o _ h => g a o h, fun _ h => .inl h⟩
theorem Ok.get (k : Ok K B F H σ env) {i : Nat} {w : Wv} (e : env[i]? = some (some w)) : ∃ v, σ[i]? = some (some v) ∧ rw' K (av B F) H w v (F i) := k.at_ i w e
/-- a slot's own objects changed, or let go of -/
def putF (F : Fp) (i : Nat) (f : List Addr) : Fp := fun j => if j = i then f else F j
theorem putF_same {i : Nat} {f : List Addr} : putF F i f i = f := if_pos rfl
theorem putF_ne {i j : Nat} {f : List Addr} (h : j ≠ i) : putF F i f j = F j := if_neg h
theorem inF_put {i : Nat} {f : List Addr} {a : Addr} (h : inF (putF F i f) a) : a ∈ f ∨ inF F a := by
  obtain ⟨j, h⟩ := h
  by_cases e : j = i
  · rw [e, putF_same] at h; exact .inl h
  · rw [putF_ne e] at h; exact .inr ⟨j, h⟩
end
end Ev

set_option Elab.async false
set_option linter.all false
set_option maxRecDepth 100000
set_option maxHeartbeats 4000000
namespace Ev
open PySem PySem.Spec PyProof.Rows L2 He Gw
/-! ### the form in which a def is run -/
inductive Tg where
  | nm (i : Nat) | tup (is : List Nat)
def Tg.slots : Tg → List Nat
  | .nm i => [i]
  | .tup is => is
inductive Opc where
  | add | sub | mul | fdiv | mod | pow | neg
  | eq | ne | lt | le | gt | ge | isin | notin | is_ | isnot
  | idx | len | int | tuple | list | min2 | max2 | abs | isi | bool | str | join | sorted | all | any | sum | min | max | keys | dict | isio | dget | din | dnotin | divmod | kget | kin | knotin
  deriving DecidableEq
inductive Opc' where
  | append | pop | clear | reverse | insert | extend
  deriving DecidableEq
mutual
inductive E where
  | int (i : Int) | bl (b : Bool) | non | str (x : Str)
  | var (i : Nat)
  | frz (i : Nat)
  | kst (d : D)
  | op (o : Opc) (as : OL)
  | slc (a : Opd) (lo hi : OE)
  | chain (a : E) (o : Opc) (b : E) (o' : Opc) (c : E)
  | not (a : E) | and (a b : E) | or (a b : E) | one (a : E)
  | ite (c a b : E)
  | tup (es : EL) | lst (es : EL) | disp (t : Bool) (es : StL)
  | call (f : Nat) (as : AL)
  | make (c : Str) (f : Nat) (as : AL)
  | meth (c m : Str) (f : Nat) (r : Opd) (as : AL)
  | mut (m : Opc') (i : Nat) (as : EL)
  | fld (a : Opd) (f : Str)
  | dlt (ks : List Key) (es : EL)
  | eqc (c : Str) (f : Nat) (a b : E)
  | tru (i : Nat) | ix2 (i : Nat) (a : E) (k : Int)
  | lc (it : It') (t : Tg) (c : OE) (e : E)
  | dc (it : It') (t : Tg) (c : OE) (k e : E)
inductive OE where
  | no | yes (e : E)
inductive EL where
  | nil | cons (e : E) (es : EL)
/-- what a display holds, with starred ones -/
inductive StL where
  | nil | cons (e : E) (es : StL) | star (e : E) (es : StL)
/-- what an operation reads: a value, or a slot's own object as it stands when all have been worked out -/
inductive Opd where
  | e (e : E) | own (i : Nat)
inductive OL where
  | nil | cons (o : Opd) (os : OL)
/-- what is passed: a value, or a slot's own object, which the callee may change -/
inductive AL where
  | nil | val (e : E) (as : AL) | ref (i : Nat) (as : AL)
inductive It' where
  | seq (a : E) | rng (as : EL) | zip (as : EL) | enum (as : EL) | own (i : Nat)
end
mutual
inductive S where
  | asg (t : Tg) (e : E) | own (i : Nat) (e : E)
  | expr (e : E) | ret (e : E) | retW (e : E) | retO (i : Nat) | retN
  | if_ (c : E) (a b : SL)
  | for_ (t : Tg) (it : It') (b : SL)
  | while_ (c : E) (b : SL)
  | brk | cont | pass | doc
  | raise (c : Str) (ks : List Str) (as : EL)
  | try_ (b : SL) (hs : HL)
  | set (i : Nat) (ix e : E)
  | asgf (i j : Nat) (f : Str) (e : E)
  | setf (i : Nat) (f : Str) (e : E)
  | app2 (i : Nat) (e : E) | set2 (i : Nat) (a : E) (k : Int) (e : E)
inductive SL where
  | nil | cons (s : S) (ss : SL)
inductive HL where
  | nil | cons (c : Str) (n : Option Nat) (b : SL) (hs : HL) | ret (c : Str) (i : Nat) (f : Str) (k : Option D) (hs : HL)
end
/-! ### its meaning -/
structure Xc where
  c : Str
  ks : List Str
  ds : List D
inductive R (α : Type) where
  | ok (a : α) (e : En) | exc (x : Xc) (e : En) | stuck
@[simp] def R.bind {α β : Type} (r : R α) (f : α → En → R β) : R β := match r with
  | .ok a e => f a e
  | .exc x e => .exc x e
  | .stuck => .stuck
inductive CRes where
  | ok (r : Wv) (outs : List Wv) | exc (x : Xc) (outs : List Wv) | stuck
/-- the defs' meaning, the module's names -/
structure Ct where
  cal : Nat → List Wv → CRes
  fuel : Nat
  isa : Str → Str → Option Bool
  fok : Str → Str → Bool
mutual
def frz : Wv → Option D
  | .fz d => some d
  | .ol ds => some (.lst ds)
  | .od ks ds => some (.dct ks ds)
  | .oi c ks ws => (frzL ws).map (.ins c ks)
  | .ow ws => (frzL ws).map .lst
def frzL : List Wv → Option (List D)
  | [] => some []
  | w :: ws => match frz w, frzL ws with
    | some d, some ds => some (d :: ds)
    | _, _ => none
end
/-- the items of what is walked -/
def items : D → Option (List D)
  | .scr ns => some (ns.map D.int)
  | .lst ds => some ds
  | .tup ds => some ds
  | .str z => some (z.cps.toList.map fun c => .str ⟨#[c]⟩)
  | _ => none
def rngI : List D → Option (List D)
  | [.int n] => if -(2 ^ 62) ≤ n ∧ n < 2 ^ 62 then some ((List.range n.toNat).map fun k : Nat => .int (k : Int)) else some ((List.range n.toNat).map fun k : Nat => .int (k : Int))
  | [.int i, .int j] => some ((List.range (j - i).toNat).map fun k : Nat => .int (i + (k : Int)))
  | [.int i, .int j, .int c] => if c = -1 ∧ -(2 ^ 62) ≤ i ∧ i < 2 ^ 62 ∧ -(2 ^ 62) ≤ j ∧ j < 2 ^ 62 then some ((List.range (i - j).toNat).map fun k : Nat => .int (i - (k : Int))) else none
  | _ => none
def zipI : List D → Option (List D)
  | [.lst xs, .lst ys] => some (List.zipWith (fun x y => .tup [x, y]) xs ys)
  | [.tup xs, .tup ys] => some (List.zipWith (fun x y => .tup [x, y]) xs ys)
  | _ => none
def enumI : List D → Option (List D)
  | [.lst xs] => some (List.zipWith (fun (i : Nat) x => .tup [.int (i : Int), x]) (List.range xs.length) xs)
  | [.tup xs] => some (List.zipWith (fun (i : Nat) x => .tup [.int (i : Int), x]) (List.range xs.length) xs)
  | _ => none
/-- a target's slots filled; a slot with an object of one's own is let go of, but a passed one is not -/
def bind1 (pn : Nat → Bool) (env : En) (i : Nat) (w : Wv) : Option En := if pn i = true ∨ env.length ≤ i then none else some (env.set i (some w))
def bindL (pn : Nat → Bool) : En → List Nat → List D → Option En
  | env, [], [] => some env
  | env, i :: is, d :: ds => (bind1 pn env i (.fz d)).bind fun e => bindL pn e is ds
  | _, _, _ => none
def bindT (pn : Nat → Bool) (env : En) : Tg → D → Option En
  | .nm i, d => bind1 pn env i (.fz d)
  | .tup is, .tup ds => bindL pn env is ds
  | .tup is, .lst ds => bindL pn env is ds
  | _, _ => none
def wipeE (env : En) : List Nat → En
  | [] => env
  | i :: is => (wipeE env is).set i none
def mulOk (i j : Int) : Bool := (decide (-(2 ^ 64) < i) && decide (i < 2 ^ 64)) || (decide (-(2 ^ 64) < j) && decide (j < 2 ^ 64))
def truD : D → Option Bool
  | .bl b => some b
  | .int i => some (i != 0)
  | .non => some false
  | .str x => if x.length ≤ sizeLine then some ((x.length : Int) != 0) else none
  | .tup ds => some (!ds.isEmpty)
  | .lst ds => some (!ds.isEmpty)
  | .dct ks _ => some (!ks.isEmpty)
  | _ => none
/-- == of data: none where it isn't told -/
def depD : D → Nat
  | .tup ds => dL ds + 1
  | .lst ds => dL ds + 1
  | _ => 0
where dL : List D → Nat
  | [] => 0
  | d :: ds => max (depD d) (dL ds)
mutual
def toP : D → Option PyData
  | .non => some .none
  | .bl b => some (.bool b)
  | .int i => some (.int i)
  | .str x => some (.str x)
  | .tup ds => (toPL ds).map .tuple
  | .lst ds => (toPL ds).map .list
  | .dct _ _ => none
  | .ins _ _ _ => none
  | .glo _ => none
  | .ty _ => none
  | .scr _ => none
def toPL : List D → Option (List PyData)
  | [] => some []
  | d :: ds => match toP d, toPL ds with
    | some p, some ps => some (p :: ps)
    | _, _ => none
end
def eqD (a b : D) : Option Bool := match toP a, toP b with
  | some p, some q => if SeqAt.shaped p = true ∧ SeqAt.shaped q = true then some (PyData.eqv p q) else none
  | _, _ => none
def isTy (n : String) : D → Option Bool
  | .non => some (n == "NoneType")
  | .bl _ => some (n == "bool" || n == "int")
  | .int _ => some (n == "int")
  | .str _ => some (n == "str")
  | .tup _ => some (n == "tuple")
  | .lst _ => some (n == "list")
  | .dct _ _ => some (n == "dict")
  | _ => none
def intB (f : Int → Int → Option D) : D → D → Option D
  | .int i, .int j => f i j
  | _, _ => none
def addD : D → D → Option D
  | .int i, .int j => some (.int (i + j))
  | .str x, .str y => if x.length + y.length ≤ sizeLine then some (.str (x ++ y)) else none
  | .tup xs, .tup ys => if xs.length + ys.length ≤ sizeLine then some (.tup (xs ++ ys)) else none
  | .lst xs, .lst ys => if xs.length + ys.length ≤ sizeLine then some (.lst (xs ++ ys)) else none
  | _, _ => none
def mulD : D → D → Option D
  | .int i, .int j => if mulOk i j = true then some (.int (i * j)) else none
  | .lst xs, .int k => if -(2 ^ 63) ≤ k ∧ k < 2 ^ 63 ∧ xs.length * k.toNat ≤ sizeLine then some (.lst (List.replicate k.toNat xs).flatten) else none
  | .tup xs, .int k => if 1 ≤ k ∧ k ≤ 1000 ∧ xs.length ≤ 1000 then some (.tup (List.replicate k.toNat xs).flatten) else none
  | _, _ => none
def isNonD : D → D → Option D
  | .non, .non => some (.bl true)
  | .bl _, .non => some (.bl false)
  | .int _, .non => some (.bl false)
  | .str _, .non => some (.bl false)
  | .tup _, .non => some (.bl false)
  | .lst _, .non => some (.bl false)
  | .dct _ _, .non => some (.bl false)
  | .ins _ _ _, .non => some (.bl false)
  | _, _ => none
def notB : D → Option D
  | .bl b => some (.bl (!b))
  | _ => none
def isBlD : D → D → Option D
  | .bl a, .bl b => some (.bl (a == b))
  | .non, .bl _ => some (.bl false)
  | .int _, .bl _ => some (.bl false)
  | .str _, .bl _ => some (.bl false)
  | .tup _, .bl _ => some (.bl false)
  | .lst _, .bl _ => some (.bl false)
  | .dct _ _, .bl _ => some (.bl false)
  | .ins _ _ _, .bl _ => some (.bl false)
  | _, _ => none
def idxD : D → D → Option D
  | .lst ds, .int i => atI ds i
  | .tup ds, .int i => atI ds i
  | .scr ns, .int i => (atI ns i).map D.int
  | .str z, .int i => if z.length ≤ sizeLine then (atI z.cps.toList i).map fun c => .str ⟨#[c]⟩ else none
  | _, _ => none
def lenD : D → Option D
  | .lst ds => some (.int ds.length)
  | .tup ds => some (.int ds.length)
  | .scr ns => some (.int ns.length)
  | .str z => if z.length ≤ sizeLine then some (.int z.length) else none
  | _ => none
def intD : D → Option D
  | .int i => some (.int i)
  | .bl b => some (.int (if b then 1 else 0))
  | _ => none
def tupleD : D → Option D
  | .lst ds => some (.tup ds)
  | .tup ds => some (.tup ds)
  | _ => none
def listD : D → Option D
  | .lst ds => some (.lst ds)
  | .tup ds => some (.lst ds)
  | .scr ns => some (.lst (ns.map D.int))
  | _ => none
def absD : D → Option D
  | .int i => some (.int (if i < 0 then -i else i))
  | _ => none
def negD : D → Option D
  | .int i => some (.int (-i))
  | _ => none
def isiD : D → D → Option D
  | d, .ty n => if n ∈ ["int", "bool", "str", "tuple", "list", "dict"] then (isTy n d).map .bl else none
  | d, .tup [.ty n, .ty m] => if n ∈ ["int", "bool", "str", "tuple", "list", "dict"] ∧ m ∈ ["int", "bool", "str", "tuple", "list", "dict"] then match isTy n d, isTy m d with
    | some a, some b => some (.bl (a || b))
    | _, _ => none else none
  | _, _ => none
def cutL {α : Type} (xs : List α) (lo hi : Option Int) : List α := (xs.drop (HT.sIx xs.length 0 lo)).take (HT.sIx xs.length xs.length hi - HT.sIx xs.length 0 lo)
def slcD (lo hi : Option Int) : D → Option D
  | .lst ds => some (.lst (cutL ds lo hi))
  | .tup ds => some (.tup (cutL ds lo hi))
  | .scr ns => some (.lst ((cutL ns lo hi).map D.int))
  | .str z => if z.length ≤ sizeLine then some (.str (cutS z lo hi)) else none
  | _ => none
/-- what is no object -/
def flD : D → Option V
  | .non => some .non
  | .bl b => some (.bl b)
  | .int i => some (.int i)
  | .str x => some (.str x)
  | _ => none
def flL : List D → Option (List V)
  | [] => some []
  | d :: ds => match flD d, flL ds with
    | some v, some vs => some (v :: vs)
    | _, _ => none
def inS (x : D) (ds : List D) : Option Bool := match flD x, flL ds with
  | some v, some vs => some (inV v vs)
  | _, _ => none
def isinD : D → D → Option Bool
  | x, .lst ds => inS x ds
  | x, .tup ds => inS x ds
  | .str x, .str z => match x.cps.toList with
    | [c] => some (decide (c ∈ z.cps.toList))
    | _ => none
  | _, _ => none
def seqI : D → Option (List D)
  | .lst ds => some ds
  | .tup ds => some ds
  | _ => none
/-- a method that changes a list: its worth, and the list behind it -/
def mutD : Opc' → List D → List D → Option (D × List D)
  | .append, xs, [d] => if xs.length < sizeLine then some (.non, xs ++ [d]) else none
  | .pop, xs, [] => (xs[xs.length - 1]?).map fun d => (d, xs.dropLast)
  | .clear, _, [] => some (.non, [])
  | .reverse, xs, [] => some (.non, xs.reverse)
  | .extend, xs, [d] => (seqI d).bind fun zs => if xs.length + zs.length ≤ sizeLine then some (.non, xs ++ zs) else none
  | .insert, xs, [.int i, d] => if xs.length < sizeLine ∧ 0 ≤ i ∧ i < 2 ^ 63 then some (.non, xs.take i.toNat ++ [d] ++ xs.drop i.toNat) else none
  | _, _, _ => none
def blL : List D → Option (List Bool)
  | [] => some []
  | .bl b :: ds => (blL ds).map (b :: ·)
  | _ :: _ => none
def itL : List D → Option (List Int)
  | [] => some []
  | .int b :: ds => (itL ds).map (b :: ·)
  | _ :: _ => none
def sortI (ns : List Int) : List Int := ns.mergeSort fun a b => decide (a ≤ b)
def srL : List D → Option (List Str)
  | [] => some []
  | .str b :: ds => (srL ds).map (b :: ·)
  | _ :: _ => none
def allD : D → Option Bool
  | .lst ds => (blL ds).map fun bs => bs.all id
  | _ => none
def anyD : D → Option Bool
  | .lst ds => (blL ds).map fun bs => bs.any id
  | _ => none
def sumD : D → Option Int
  | .lst ds => (itL ds).map fun bs => bs.sum
  | _ => none
def minD : D → Option D
  | .lst ds => (itL ds).bind fun ns => ns.min?.map .int
  | _ => none
def maxD : D → Option D
  | .lst ds => (itL ds).bind fun ns => ns.max?.map .int
  | _ => none
def sortedD : D → Option D
  | .lst ds => (itL ds).map fun ns => .lst ((sortI ns).map .int)
  | _ => none
def strD : D → Option D
  | .int i => if i.natAbs.log2 < 1920 then some (.str (toString i)) else none
  | .str x => some (.str x)
  | _ => none
def joinS (a : Str) (ys : List Str) : Option D := if (ys.map (·.length)).sum + ys.length * a.length ≤ 16777216 then some (.str (Txt.join a ys)) else none
def joinD : D → D → Option D
  | .str a, .lst ds => (srL ds).bind (joinS a)
  | .str a, .tup ds => (srL ds).bind (joinS a)
  | _, _ => none
/-- isinstance of an own class: told of what is built in, and of its own -/
def isioD : D → D → Option Bool
  | .ins c _ _, .glo d => if c = d then some true else none
  | .non, .glo _ => some false
  | .bl _, .glo _ => some false
  | .int _, .glo _ => some false
  | .str _, .glo _ => some false
  | .tup _, .glo _ => some false
  | .lst _, .glo _ => some false
  | .dct _ _, .glo _ => some false
  | _, _ => none
def keyD : D → Option Key
  | .int i => some (.inl i)
  | .str x => some (.inr x)
  | _ => none
def valD (ks : List Key) (ds : List D) (k : Key) : Option D := ((ks.zip ds).find? fun kv => decide (kv.1 = k)).map (·.2)
def dgetD : D → D → Option D
  | .dct ks ds, k => (keyD k).bind (valD ks ds)
  | _, _ => none
def dinD : D → D → Option Bool
  | k, .dct ks ds => (keyD k).map fun k => (valD ks ds k).isSome
  | _, _ => none
/-- a dict of the top, whose keys are all texts -/
def kgetD : D → D → Option D
  | .dct ks ds, .str z => valD ks ds (.inr z)
  | _, _ => none
def kinD : D → D → Option Bool
  | .str z, .dct ks ds => some (valD ks ds (.inr z)).isSome
  | _, _ => none
def prL : List D → Option (List Key × List D)
  | [] => some ([], [])
  | .tup [k, d] :: ds => match keyD k, prL ds with
    | some k, some (ks, es) => some (k :: ks, d :: es)
    | _, _ => none
  | _ :: _ => none
def dictD : D → Option D
  | .dct ks ds => some (.dct ks ds)
  | .lst ds => match prL ds with
    | some (ks, es) => if ks.Nodup then some (.dct ks es) else none
    | none => none
  | _ => none
def lookF (ks : List Str) (ds : List D) (f : Str) : Option D := (ks.zip ds).lookup f
def opD : Opc → List D → Option D
  | .add, [a, b] => addD a b
  | .sub, [a, b] => intB (fun i j => some (.int (i - j))) a b
  | .mul, [a, b] => mulD a b
  | .fdiv, [a, b] => intB (fun i j => if 0 < j ∧ j < 2 ^ 66 then some (.int (i / j)) else none) a b
  | .mod, [a, b] => intB (fun i j => if 0 < j then some (.int (i % j)) else none) a b
  | .pow, [a, b] => intB (fun i j => if 0 ≤ j ∧ j ≤ 1000000 ∧ i.natAbs < 2 ^ 64 then some (.int (i ^ j.toNat)) else none) a b
  | .neg, [a] => negD a
  | .isin, [a, b] => (isinD a b).map .bl
  | .notin, [a, b] => (isinD a b).map fun r => .bl (!r)
  | .eq, [a, b] => (eqD a b).map .bl
  | .ne, [a, b] => (eqD a b).map fun r => .bl (!r)
  | .lt, [a, b] => intB (fun i j => some (.bl (decide (i < j)))) a b
  | .le, [a, b] => intB (fun i j => some (.bl (decide (i ≤ j)))) a b
  | .gt, [a, b] => intB (fun i j => some (.bl (decide (j < i)))) a b
  | .ge, [a, b] => intB (fun i j => some (.bl (decide (j ≤ i)))) a b
  | .is_, [a, .non] => isNonD a .non
  | .is_, [a, .bl b] => isBlD a (.bl b)
  | .isnot, [a, .non] => (isNonD a .non).bind notB
  | .idx, [a, b] => idxD a b
  | .len, [a] => lenD a
  | .int, [a] => intD a
  | .tuple, [a] => tupleD a
  | .list, [a] => listD a
  | .min2, [a, b] => intB (fun i j => some (.int (if j < i then j else i))) a b
  | .max2, [a, b] => intB (fun i j => some (.int (if j > i then j else i))) a b
  | .abs, [a] => absD a
  | .isi, [a, b] => isiD a b
  | .dget, [a, b] => dgetD a b
  | .din, [a, b] => (dinD a b).map .bl
  | .dnotin, [a, b] => (dinD a b).map fun r => .bl (!r)
  | .kget, [a, b] => kgetD a b
  | .kin, [a, b] => (kinD a b).map .bl
  | .knotin, [a, b] => (kinD a b).map fun r => .bl (!r)
  | .dict, [a] => dictD a
  | .isio, [a, b] => (isioD a b).map .bl
  | .all, [a] => (allD a).map .bl
  | .any, [a] => (anyD a).map .bl
  | .sum, [a] => (sumD a).map .int
  | .sorted, [a] => sortedD a
  | .divmod, [a, b] => intB (fun i j => if 0 < j ∧ j < 1073741824 then some (.tup [.int (i / j), .int (i % j)]) else none) a b
  | .min, [a] => minD a
  | .max, [a] => maxD a
  | .str, [a] => strD a
  | .join, [a, b] => joinD a b
  | _, _ => none
/-- an own object as what reads it sees -/
def getW (env : En) (i : Nat) : Option Wv := match env[i]? with
  | some (some w) => some w
  | _ => none
def view (env : En) (i : Nat) : Option D := match getW env i with
  | some (.ol ds) => some (.lst ds)
  | some (.od ks ds) => some (.dct ks ds)
  | some (.fz d) => some d
  | _ => none
/-- operands: worked out, or a slot -/
abbrev Ov := Sum D Nat
def resO (env : En) : List Ov → Option (List D)
  | [] => some []
  | .inl d :: os => (resO env os).map (d :: ·)
  | .inr i :: os => match view env i, resO env os with
    | some d, some ds => some (d :: ds)
    | _, _ => none
def resA (env : En) : List Ov → Option (List Wv)
  | [] => some []
  | .inl d :: os => (resA env os).map (.fz d :: ·)
  | .inr i :: os => match getW env i, resA env os with
    | some w, some ws => some (w :: ws)
    | _, _ => none
/-- the outs put back into their slots -/
def putA (env : En) : List Ov → List Wv → En
  | .inr i :: os, w :: ws => putA (env.set i (some w)) os ws
  | .inl _ :: os, _ :: ws => putA env os ws
  | _, _ => env
def slots : List Ov → List Nat
  | [] => []
  | .inl _ :: os => slots os
  | .inr i :: os => i :: slots os
def lift {α : Type} (o : Option α) (env : En) : R α := match o with
  | some a => .ok a env
  | none => .stuck
def noexc {α : Type} : R α → R α
  | .exc _ _ => .stuck
  | r => r
/-- turn by turn; what the turns make, from the first on -/
def turns (f : D → En → R (Option D)) : List D → En → R (List D)
  | [], env => .ok [] env
  | d :: ds, env => (f d env).bind fun o env1 => (turns f ds env1).bind fun rs env2 => .ok (match o with
    | some r => r :: rs
    | none => rs) env2
def callR (C : Ct) (f : Nat) (os : List Ov) (env : En) : R Wv :=
  if (slots os).Nodup then match resA env os with
    | some ws => match C.cal f ws with
      | .ok r outs => if outs.length = ws.length then .ok r (putA env os outs) else .stuck
      | .exc x outs => if outs.length = ws.length then .exc x (putA env os outs) else .stuck
      | .stuck => .stuck
    | none => .stuck
  else .stuck
def insC (c : Str) : D → Bool
  | .ins c' _ _ => decide (c' = c)
  | _ => false
def blR : Wv → Option D
  | .fz (.bl r) => some (.bl r)
  | _ => none
/-- an instance of a class whose __init__ is a def: its own -/
def makeR (C : Ct) (c : Str) (f : Nat) (os : List Ov) (env : En) : R Wv :=
  if (slots os).Nodup then match resA env os with
    | some ws => match C.cal f (.oi c [] [] :: ws) with
      | .ok (.fz .non) (w :: outs) => if outs.length = ws.length then .ok w (putA env os outs) else .stuck
      | .exc x (_ :: outs) => if outs.length = ws.length then .exc x (putA env os outs) else .stuck
      | _ => .stuck
    | none => .stuck
  else .stuck
def fldW (C : Ct) (f : Str) : Wv → Option D
  | .fz (.ins c ks ds) => if C.fok c f = true then lookF ks ds f else none
  | .oi c ks ws => if C.fok c f = true then match (ks.zip ws).lookup f with
    | some (.fz d) => some d
    | _ => none else none
  | _ => none
def fldR (C : Ct) (f : Str) (env : En) : Ov → Option D
  | .inl d => fldW C f (.fz d)
  | .inr i => (getW env i).bind (fldW C f)
/-- an instance of this class, without an attribute of this name -/
def isW (c m : Str) : Wv → Bool
  | .fz (.ins c' ks _) => decide (c' = c) && decide (m ∉ ks)
  | .oi c' ks _ => decide (c' = c) && decide (m ∉ ks)
  | _ => false
def isO (c m : Str) (env : En) : Ov → Bool
  | .inl d => isW c m (.fz d)
  | .inr i => match getW env i with
    | some w => isW c m w
    | none => false
/-- a walked object of one's own, back in its slot -/
def unblk (it : It') (env env' : En) : Option En := match it with
  | .own i => match env'[i]? with
    | some none => some (env'.set i (env[i]?.getD none))
    | _ => none
  | _ => some env'
/-- the parts of an own list, each an own thing -/
def owL : Wv → Option (List Wv)
  | .ol ds => some (ds.map .fz)
  | .ow ws => some ws
  | _ => none
def ix2W (k : Int) (x : D) : Wv → Option D
  | .ow ws => match x with
    | .int j => (ixN ws.length j).bind fun n => (ws[n]?).bind fun w => match w with
      | .ol ds => (ixN ds.length k).bind fun m => ds[m]?
      | _ => none
    | _ => none
  | _ => none
def set2W (k : Int) (x d : D) : Wv → Option Wv
  | .ow ws => match x with
    | .int j => (ixN ws.length j).bind fun n => (ws[n]?).bind fun w => match w with
      | .ol ds => (ixN ds.length k).map fun m => .ow (ws.set n (.ol (ds.set m d)))
      | _ => none
    | _ => none
  | _ => none
def app2W (w : Wv) (w0 : Wv) : Option Wv := (owL w0).bind fun ws => if ws.length < sizeLine then some (.ow (ws ++ [w])) else none
def truW : Wv → Option D
  | .ol ds => some (.bl (!ds.isEmpty))
  | .ow ws => some (.bl (!ws.isEmpty))
  | _ => none
mutual
def evE (C : Ct) : E → En → R D
  | .tru i, env => lift ((getW env i).bind truW) env
  | .ix2 i a k, env => match getW env i with
    | some _ => (evE C a env).bind fun x env1 => lift ((getW env1 i).bind (ix2W k x)) env1
    | none => .stuck
  | .int i, env => .ok (.int i) env
  | .bl b, env => .ok (.bl b) env
  | .non, env => .ok .non env
  | .str x, env => .ok (.str x) env
  | .var i, env => match getW env i with
    | some (.fz d) => .ok d env
    | _ => .stuck
  | .frz i, env => match getW env i with
    | some (.fz d) => .ok d env
    | some w => match frz w with
      | some d => .ok d (env.set i (some (.fz d)))
      | none => .stuck
    | none => .stuck
  | .kst d, env => .ok d env
  | .op o as, env => (evO C as env).bind fun os env1 => lift ((resO env1 os).bind (opD o)) env1
  | .slc a lo hi, env => (evOpd C a env).bind fun x env1 => (evPt C lo env1).bind fun l env2 => (evPt C hi env2).bind fun h env3 => lift ((resO env3 [x]).bind fun ds => (ds[0]?).bind (slcD l h)) env3
  | .chain a o b o' c, env => (evE C a env).bind fun x env1 => (evE C b env1).bind fun y env2 => match opD o [x, y] with
    | some (.bl true) => (evE C c env2).bind fun z env3 => lift (opD o' [y, z]) env3
    | some (.bl false) => .ok (.bl false) env2
    | _ => .stuck
  | .not a, env => (evE C a env).bind fun d env1 => lift ((truD d).map fun b => .bl (!b)) env1
  | .and a b, env => (evE C a env).bind fun d env1 => match truD d with
    | some true => evE C b env1
    | some false => .ok d env1
    | none => .stuck
  | .or a b, env => (evE C a env).bind fun d env1 => match truD d with
    | some true => .ok d env1
    | some false => evE C b env1
    | none => .stuck
  | .one a, env => evE C a env
  | .ite c a b, env => (evE C c env).bind fun d env1 => match truD d with
    | some true => evE C a env1
    | some false => evE C b env1
    | none => .stuck
  | .tup es, env => (evL C es env).bind fun ds env1 => if ds.length ≤ sizeLine then .ok (.tup ds) env1 else .stuck
  | .lst es, env => (evL C es env).bind fun ds env1 => if ds.length ≤ sizeLine then .ok (.lst ds) env1 else .stuck
  | .disp t es, env => (evSt C es env).bind fun ds env1 => if ds.length ≤ sizeLine then .ok (if t = true then .tup ds else .lst ds) env1 else .stuck
  | .call f as, env => (evA C as env).bind fun os env1 => (callR C f os env1).bind fun w env2 => lift (frz w) env2
  | .make c f as, env => (evA C as env).bind fun os env1 => (makeR C c f os env1).bind fun w env2 => lift (frz w) env2
  | .meth c m f r as, env => (evOpd C r env).bind fun o env1 => if isO c m env1 o = true then (evA C as env1).bind fun os env2 => (callR C f (o :: os) env2).bind fun w env3 => lift (frz w) env3 else .stuck
  | .mut m i as, env => match getW env i with
    | some (.ol _) => (evL C as env).bind fun ds env1 => match getW env1 i with
      | some (.ol xs) => lift (mutD m xs ds) env1 |>.bind fun r env2 => .ok r.1 (env2.set i (some (.ol r.2)))
      | _ => .stuck
    | _ => .stuck
  | .fld a f, env => (evOpd C a env).bind fun x env1 => lift (fldR C f env1 x) env1
  | .eqc c f a b, env => (evE C a env).bind fun x env1 => (evE C b env1).bind fun y env2 => match eqD x y with
    | some r => .ok (.bl r) env2
    | none => if insC c x = true ∧ insC c y = true then (noexc (callR C f [.inl x, .inl y] env2)).bind fun w env3 => lift (blR w) env3 else .stuck
  | .dlt ks es, env => (evL C es env).bind fun ds env1 => if ks.length = ds.length then .ok (.dct ks ds) env1 else .stuck
  | .lc it t c e, env => (evIt C it env).bind fun ds env1 => if ds.length ≤ sizeLine then
      (noexc (turns (fun d env => match bindT (fun _ => false) env t d with
        | some env2 => (evOE C c env2).bind fun b env3 => if b = true then (evE C e env3).bind fun r env4 => .ok (some r) (wipeE env4 t.slots) else .ok none (wipeE env3 t.slots)
        | none => .stuck) ds (wipeE env1 t.slots))).bind fun rs env5 => match unblk it env env5 with
          | some env6 => .ok (.lst rs) env6
          | none => .stuck
      else .stuck
  | .dc it t c k e, env => (evIt C it env).bind fun ds env1 => if ds.length ≤ sizeLine then
      (noexc (turns (fun d env => match bindT (fun _ => false) env t d with
        | some env2 => (evOE C c env2).bind fun b env3 => if b = true then (evE C k env3).bind fun x env4 => (evE C e env4).bind fun y env5 => .ok (some (.tup [x, y])) (wipeE env5 t.slots) else .ok none (wipeE env3 t.slots)
        | none => .stuck) ds (wipeE env1 t.slots))).bind fun rs env5 => match unblk it env env5 with
          | some env6 => lift (dictD (.lst rs)) env6
          | none => .stuck
      else .stuck
def evOE (C : Ct) : OE → En → R Bool
  | .no, env => .ok true env
  | .yes e, env => (evE C e env).bind fun d env1 => lift (truD d) env1
def evPt (C : Ct) : OE → En → R (Option Int)
  | .no, env => .ok none env
  | .yes e, env => (evE C e env).bind fun d env1 => match d with
    | .int i => .ok (some i) env1
    | _ => .stuck
def evIt (C : Ct) : It' → En → R (List D)
  | .seq a, env => (evE C a env).bind fun d env1 => lift (items d) env1
  | .rng as, env => (evL C as env).bind fun ds env1 => lift (rngI ds) env1
  | .zip as, env => (evL C as env).bind fun ds env1 => lift (zipI ds) env1
  | .enum as, env => (evL C as env).bind fun ds env1 => lift (enumI ds) env1
  | .own i, env => match getW env i with
    | some (.ol ds) => .ok ds (env.set i none)
    | _ => .stuck
def evL (C : Ct) : EL → En → R (List D)
  | .nil, env => .ok [] env
  | .cons e es, env => (evE C e env).bind fun d env1 => (evL C es env1).bind fun ds env2 => .ok (d :: ds) env2
def evSt (C : Ct) : StL → En → R (List D)
  | .nil, env => .ok [] env
  | .cons e es, env => (evE C e env).bind fun d env1 => (evSt C es env1).bind fun ds env2 => .ok (d :: ds) env2
  | .star e es, env => (evE C e env).bind fun d env1 => (lift (seqI d) env1).bind fun xs env2 => (evSt C es env2).bind fun ds env3 => .ok (xs ++ ds) env3
def evOpd (C : Ct) : Opd → En → R Ov
  | .e e, env => (evE C e env).bind fun d env1 => .ok (.inl d) env1
  | .own i, env => match getW env i with
    | some _ => .ok (.inr i) env
    | none => .stuck
def evO (C : Ct) : OL → En → R (List Ov)
  | .nil, env => .ok [] env
  | .cons o os, env => (evOpd C o env).bind fun d env1 => (evO C os env1).bind fun ds env2 => .ok (d :: ds) env2
def evA (C : Ct) : AL → En → R (List Ov)
  | .nil, env => .ok [] env
  | .val e as, env => (evE C e env).bind fun d env1 => (evA C as env1).bind fun ds env2 => .ok (.inl d :: ds) env2
  | .ref i as, env => match getW env i with
    | some _ => (evA C as env).bind fun ds env2 => .ok (.inr i :: ds) env2
    | none => .stuck
end
/-- an expression whose worth is a new object of one's own -/
def thaw : D → Option Wv
  | .lst ds => some (.ol ds)
  | _ => none
def evW (C : Ct) : E → En → R Wv
  | .lst es, env => (evL C es env).bind fun ds env1 => if ds.length ≤ sizeLine then .ok (.ol ds) env1 else .stuck
  | .disp false es, env => (evSt C es env).bind fun ds env1 => if ds.length ≤ sizeLine then .ok (.ol ds) env1 else .stuck
  | .call f as, env => (evA C as env).bind fun os env1 => callR C f os env1
  | .make c f as, env => (evA C as env).bind fun os env1 => makeR C c f os env1
  | .meth c m f r as, env => (evOpd C r env).bind fun o env1 => if isO c m env1 o = true then (evA C as env1).bind fun os env2 => callR C f (o :: os) env2 else .stuck
  | .lc it t c e, env => (evE C (.lc it t c e) env).bind fun d env1 => lift (thaw d) env1
  | .op .list as, env => (evE C (.op .list as) env).bind fun d env1 => lift (thaw d) env1
  | .op .add as, env => (evE C (.op .add as) env).bind fun d env1 => lift (thaw d) env1
  | .op .mul as, env => (evE C (.op .mul as) env).bind fun d env1 => lift (thaw d) env1
  | _, _ => .stuck
inductive Fl where
  | nx | rt (w : Wv) | bk | ct
def forR (f : D → En → R Fl) : List D → En → R Fl
  | [], env => .ok .nx env
  | d :: ds, env => (f d env).bind fun fl env1 => match fl with
    | .nx => forR f ds env1
    | .ct => forR f ds env1
    | .bk => .ok .nx env1
    | .rt w => .ok (.rt w) env1
def whileR (c : En → R D) (f : En → R Fl) : Nat → En → R Fl
  | 0, _ => .stuck
  | n + 1, env => (c env).bind fun d env1 => match truD d with
    | some true => (f env1).bind fun fl env2 => match fl with
      | .nx => whileR c f n env2
      | .ct => whileR c f n env2
      | .bk => .ok .nx env2
      | .rt w => .ok (.rt w) env2
    | some false => .ok .nx env1
    | none => .stuck
def also (pn : Nat → Bool) (o : Option Nat) (j : Nat) : Bool := pn j || o == some j
def It'.slot : It' → Option Nat
  | .own i => some i
  | _ => none
/-- behind a loop: what was walked is back, however it ends -/
def unblkR (it : It') (env : En) : R Fl → R Fl
  | .ok .nx env' => match unblk it env env' with
    | some env2 => .ok .nx env2
    | none => .stuck
  | r => r
def fokW (C : Ct) (f : Str) : Wv → Bool
  | .oi c _ _ => C.fok c f
  | _ => false
def putN (f : Str) : List Str → List Str
  | [] => [f]
  | k :: ks => if k = f then k :: ks else k :: putN f ks
def putL {α : Type} (f : Str) (v : α) : List Str → List α → List α
  | [], _ => [v]
  | _ :: _, [] => []
  | k :: ks, w :: ws => if k = f then v :: ws else w :: putL f v ks ws
def fzL : List Wv → Option (List D)
  | [] => some []
  | .fz d :: ws => (fzL ws).map (d :: ·)
  | _ :: _ => none
def setF (f : Str) (d : D) : Wv → Option Wv
  | .oi c ks ws => if ks.length < 1000 ∧ ks.length = ws.length then (fzL ws).map fun ds => .oi c (putN f ks) ((putL f d ks ds).map .fz) else none
  | _ => none
/-- what a handler tells of an error's field: it, or a pair -/
def xrD (k : Option D) (d : D) : D := match k with
  | none => d
  | some e => .tup [e, d]
def setD (w : Wv) (k d : D) : Option Wv := match w, k with
  | .ol ds, .int i => (ixN ds.length i).map fun j => .ol (ds.set j d)
  | _, _ => none
mutual
def evS (C : Ct) (pn : Nat → Bool) : S → En → R Fl
  | .asg t e, env => (evE C e env).bind fun d env1 => lift (bindT pn env1 t d) env1 |>.bind fun env2 _ => .ok .nx env2
  | .own i e, env => (evW C e env).bind fun w env1 => lift (bind1 pn env1 i w) env1 |>.bind fun env2 _ => .ok .nx env2
  | .expr e, env => (evE C e env).bind fun _ env1 => .ok .nx env1
  | .ret e, env => (evE C e env).bind fun d env1 => .ok (.rt (.fz d)) env1
  | .retW e, env => (evW C e env).bind fun w env1 => .ok (.rt w) env1
  | .retO i, env => match getW env i with
    | some w => if pn i = true then .stuck else .ok (.rt w) (env.set i none)
    | none => .stuck
  | .retN, env => .ok (.rt (.fz .non)) env
  | .if_ c a b, env => (evE C c env).bind fun d env1 => match truD d with
    | some true => evSL C pn a env1
    | some false => evSL C pn b env1
    | none => .stuck
  | .for_ t it b, env => (evIt C it env).bind fun ds env1 => unblkR it env (forR (fun d env => match bindT (also pn it.slot) env t d with
      | some env2 => evSL C (also pn it.slot) b env2
      | none => .stuck) ds env1)
  | .while_ c b, env => whileR (evE C c) (evSL C pn b) C.fuel env
  | .brk, env => .ok .bk env
  | .cont, env => .ok .ct env
  | .pass, env => .ok .nx env
  | .doc, env => .ok .nx env
  | .raise c ks as, env => (evL C as env).bind fun ds env1 => if ks.length = ds.length then .exc ⟨c, ks, ds⟩ env1 else .stuck
  | .try_ b hs, env => match evSL C pn b env with
    | .exc x env1 => evH C pn hs x env1
    | r => r
  | .set i ix e, env => (evE C e env).bind fun d env1 => match getW env1 i with
    | some _ => (evE C ix env1).bind fun k env2 => match getW env2 i with
      | some w => lift (setD w k d) env2 |>.bind fun w2 env3 => .ok .nx (env3.set i (some w2))
      | none => .stuck
    | none => .stuck
  | .setf i f e, env => (evE C e env).bind fun d env1 => match getW env1 i with
    | some w => if fokW C f w = true then lift (setF f d w) env1 |>.bind fun w2 env2 => .ok .nx (env2.set i (some w2)) else .stuck
    | none => .stuck
  | .app2 i e, env => match (getW env i).bind owL with
    | some _ => (evW C e env).bind fun w env1 => lift ((getW env1 i).bind (app2W w)) env1 |>.bind fun w2 env2 => .ok .nx (env2.set i (some w2))
    | none => .stuck
  | .set2 i a k e, env => (evE C e env).bind fun d env1 => match getW env1 i with
    | some _ => (evE C a env1).bind fun x env2 => lift ((getW env2 i).bind (set2W k x d)) env2 |>.bind fun w2 env3 => .ok .nx (env3.set i (some w2))
    | none => .stuck
  | .asgf i j f e, env => (evE C e env).bind fun d env1 => match d with
    | .tup [d1, d2] => (lift (bind1 pn env1 i (.fz d1)) env1).bind fun env2 _ => match getW env2 j with
      | some w => if fokW C f w = true then lift (setF f d2 w) env2 |>.bind fun w2 env3 => .ok .nx (env3.set j (some w2)) else .stuck
      | none => .stuck
    | _ => .stuck
def evSL (C : Ct) (pn : Nat → Bool) : SL → En → R Fl
  | .nil, env => .ok .nx env
  | .cons s ss, env => (evS C pn s env).bind fun fl env1 => match fl with
    | .nx => evSL C pn ss env1
    | r => .ok r env1
def evH (C : Ct) (pn : Nat → Bool) : HL → Xc → En → R Fl
  | .nil, x, env => .exc x env
  | .cons c n b hs, x, env => match C.isa x.c c with
    | some true => match n with
      | none => noexc (evSL C pn b env)
      | some i => .stuck
    | some false => evH C pn hs x env
    | none => .stuck
  | .ret c i f k hs, x, env => match C.isa x.c c with
    | some true => if x.c = c ∧ i < env.length then match lookF x.ks x.ds f with
        | some d => .ok (.rt (.fz (xrD k d))) env
        | none => .stuck
      else .stuck
    | some false => evH C pn hs x env
    | none => .stuck
end
end Ev

set_option Elab.async false
set_option linter.all false
set_option maxRecDepth 100000
set_option maxHeartbeats 4000000
namespace Ev
open PySem PySem.Spec PyProof.Rows L2 He Gw
/-! ### what is wanted of an outcome -/
/-- how an own error lies behind a raise -/
def XR (K : PySem.W.Frag) (M : Addr → Prop) (H : Hp) (x : Xc) (cls : Value) (dx : Option Addr) : Prop :=
  cls = .ref (ga K x.c) ∧ ((dx = none ∧ x.ks = []) ∨ ∃ d vs, dx = some d ∧ H d = some (.xd (x.ks.zip vs)) ∧ x.ks.length = vs.length ∧ rdL K M H x.ds vs)
def pst {α : Type} (K : PySem.W.Frag) (W : WX) (B : Addr → Prop) (σ : L2.St) (F : Fp) (H : Hp) (P : α → En → Fp → Hp → Prop) : R α → Prop
  | .ok a env' => ∀ F' H', Stp F H F' H' → Ok K B F' H' σ env' → P a env' F' H'
  | .exc x env' => ∀ F' H' cls dx, Stp F H F' H' → Ok K B F' H' σ env' → XR K (av B F') H' x cls dx → W cls dx σ H'
  | .stuck => False
section
variable {K : PySem.W.Frag} {W : WX} {B : Addr → Prop} {σ : L2.St} {F F1 : Fp} {H H1 : Hp} {α β : Type} {env : En}
theorem pst_from {P : α → En → Fp → Hp → Prop} {r : R α} (s : Stp F H F1 H1) (h : pst K W B σ F H P r) : pst K W B σ F1 H1 P r := by
  cases r with
  | ok a e => exact fun F' H' s' k => h F' H' (s.trans s') k
  | exc x e => exact fun F' H' cls dx s' k => h F' H' cls dx (s.trans s') k
  | stuck => exact h
theorem pst_bind {P : β → En → Fp → Hp → Prop} {r : R α} {f : α → En → R β} (h : pst K W B σ F H P (r.bind f)) :
    pst K W B σ F H (fun a env1 F1 H1 => Stp F H F1 H1 ∧ Ok K B F1 H1 σ env1 ∧ pst K W B σ F1 H1 P (f a env1)) r := by
  cases r with
  | ok a e => exact fun F' H' s k => ⟨s, k, pst_from s h⟩
  | exc x e => exact h
  | stuck => exact h
theorem pst_imp {P P' : α → En → Fp → Hp → Prop} {r : R α} (h : pst K W B σ F H P r) (hi : ∀ a e F' H', Stp F H F' H' → Ok K B F' H' σ e → P a e F' H' → P' a e F' H') : pst K W B σ F H P' r := by
  cases r with
  | ok a e => exact fun F' H' s k => hi a e F' H' s k (h F' H' s k)
  | exc x e => exact h
  | stuck => exact h
theorem pst_here {P : α → En → Fp → Hp → Prop} {a : α} (h : pst K W B σ F H P (.ok a env)) (k : Ok K B F H σ env) : P a env F H := h F H .refl k
theorem pst_lift {P : α → En → Fp → Hp → Prop} {o : Option α} (h : pst K W B σ F H P (lift o env)) : ∃ a, o = some a ∧ pst K W B σ F H P (.ok a env) := by
  cases o with
  | none => exact h.elim
  | some a => exact ⟨a, rfl, h⟩
end
abbrev Ev (α : Type) := En → R α
/-- an expression comes to what ev says -/
def tE (K : PySem.W.Frag) (W : WX) (ev : Ev D) : TE := fun σ H Q => ∃ B F env, Ok K B F H σ env ∧ pst K W B σ F H (fun d _ F' H' => ∀ v, rd K (av B F') H' d v → Q v H') (ev env)
def tT (K : PySem.W.Frag) (W : WX) (ev : Ev D) : TT := fun σ H Q => ∃ B F env, Ok K B F H σ env ∧ pst K W B σ F H (fun d _ F' H' => ∃ b, truD d = some b ∧ Q b H') (ev env)
def ov (K : PySem.W.Frag) (B : Addr → Prop) (F : Fp) (H : Hp) (σ : L2.St) : Ov → V → Prop
  | .inl d, v => rd K (av B F) H d v
  | .inr i, v => σ[i]? = some (some v)
def ovL (K : PySem.W.Frag) (B : Addr → Prop) (F : Fp) (H : Hp) (σ : L2.St) : List Ov → List V → Prop
  | [], vs => vs = []
  | o :: os, vs => ∃ v r, vs = v :: r ∧ ov K B F H σ o v ∧ ovL K B F H σ os r
def tOd (K : PySem.W.Frag) (W : WX) (ev : Ev Ov) : TE := fun σ H Q => ∃ B F env, Ok K B F H σ env ∧ pst K W B σ F H (fun o _ F' H' => ∀ v, ov K B F' H' σ o v → Q v H') (ev env)
def tOs (K : PySem.W.Frag) (W : WX) (ev : Ev (List Ov)) : TA := fun σ H Q => ∃ B F env, Ok K B F H σ env ∧ pst K W B σ F H (fun os _ F' H' => ∀ vs, ovL K B F' H' σ os vs → Q vs H') (ev env)
def tL (K : PySem.W.Frag) (W : WX) (ev : Ev (List D)) : TA := fun σ H Q => ∃ B F env, Ok K B F H σ env ∧ pst K W B σ F H (fun ds _ F' H' => ∀ vs, rdL K (av B F') H' ds vs → Q vs H') (ev env)
theorem _root_.L2.PE.imp {X : Cx} {e : Expr} {t t' : TE} (h : PE X e t) (hi : ∀ σ H Q, t' σ H Q → t σ H Q) : PE X e t' := ⟨fun pins s σ H Q I q => h.run pins s σ H Q I (hi σ H Q q)⟩
theorem _root_.L2.PT.imp {X : Cx} {e : Expr} {t t' : TT} (h : PT X e t) (hi : ∀ σ H Q, t' σ H Q → t σ H Q) : PT X e t' := ⟨fun pins s σ H Q I q => h.run pins s σ H Q I (hi σ H Q q)⟩
theorem _root_.L2.PW.imp {X : Cx} {e : Expr} {t t' : TT} (h : PW X e t) (hi : ∀ σ H Q, t' σ H Q → t σ H Q) : PW X e t' := ⟨fun wh pins s σ H Q I q => h.run wh pins s σ H Q I (hi σ H Q q)⟩
theorem _root_.L2.PA.imp {X : Cx} {e : List Expr} {t t' : TA} (h : PA X e t) (hi : ∀ σ H Q, t' σ H Q → t σ H Q) : PA X e t' := ⟨fun pos pins s σ H Q I q => h.run pos pins s σ H Q I (hi σ H Q q)⟩
theorem _root_.L2.PS.imp {X : Cx} {e : Stmt} {t t' : TS} (h : PS X e t) (hi : ∀ D σ H, t' D σ H → t D σ H) : PS X e t' := ⟨fun pins s σ H D I q => h.run pins s σ H D I (hi D σ H q)⟩
theorem _root_.L2.PSs.imp {X : Cx} {e : List Stmt} {t t' : TS} (h : PSs X e t) (hi : ∀ D σ H, t' D σ H → t D σ H) : PSs X e t' := ⟨fun pins s σ H D I q => h.run pins s σ H D I (hi D σ H q)⟩
section
variable {K : PySem.W.Frag} {B : Addr → Prop} {σ : L2.St} {F F1 : Fp} {H H1 : Hp} {env : En}
theorem ov_stp {o : Ov} {v : V} (s : Stp F H F1 H1) (h : ov K B F H σ o v) : ov K B F1 H1 σ o v := by
  cases o with
  | inl d => exact s.rd h
  | inr i => exact h
theorem ovL_stp (s : Stp F H F1 H1) : ∀ {os : List Ov} {vs : List V}, ovL K B F H σ os vs → ovL K B F1 H1 σ os vs
  | [], _, h => h
  | o :: os, _, h => by
    obtain ⟨v, r, e, h1, h2⟩ := h
    exact ⟨v, r, e, ov_stp s h1, ovL_stp s h2⟩
/-- as an operation sees it: an own object, too, its parts as data -/
def rv (K : PySem.W.Frag) (M : Addr → Prop) (H : Hp) : D → V → Prop
  | .lst ds, v => ∃ a vs, v = .ref a ∧ H a = some (.lst vs) ∧ rdL K M H ds vs
  | .dct ks ds, v => ∃ a vs, v = .ref a ∧ H a = some (.dK (ks.zip vs)) ∧ ks.length = vs.length ∧ rdL K M H ds vs
  | d, v => rd K M H d v
def rvL (K : PySem.W.Frag) (M : Addr → Prop) (H : Hp) : List D → List V → Prop
  | [], vs => vs = []
  | d :: ds, vs => ∃ v r, vs = v :: r ∧ rv K M H d v ∧ rvL K M H ds r
theorem rv_of {M : Addr → Prop} {d : D} {v : V} (h : rd K M H d v) : rv K M H d v := by
  cases d with
  | lst ds =>
    rw [rd] at h
    obtain ⟨a, vs, e, h1, h2⟩ := h
    exact ⟨a, vs, e, h1.2, h2⟩
  | dct ks ds =>
    rw [rd] at h
    obtain ⟨a, vs, e, h1, h2⟩ := h
    exact ⟨a, vs, e, h1.2, h2⟩
  | _ => exact h
theorem view_rv {i : Nat} {d : D} {v : V} (k : Ok K B F H σ env) (e : view env i = some d) (hv : σ[i]? = some (some v)) : rv K (av B F) H d v := by
  unfold view getW at e
  split at e
  · rename_i ds h
    split at h
    · rename_i w hw
      cases h
      cases e
      obtain ⟨v', e', r⟩ := k.at_ i _ hw
      rw [hv] at e'
      cases e'
      rw [rw'] at r
      obtain ⟨a, vs, e1, _, e2, r⟩ := r
      exact ⟨a, vs, e1, e2, r⟩
    · cases h
  · rename_i ks ds h
    split at h
    · rename_i w hw
      cases h
      cases e
      obtain ⟨v', e', r⟩ := k.at_ i _ hw
      rw [hv] at e'
      cases e'
      rw [rw'] at r
      obtain ⟨a, vs, e1, _, e2, l, r⟩ := r
      exact ⟨a, vs, e1, e2, l, r⟩
    · cases h
  · rename_i d' h
    split at h
    · rename_i w hw
      cases h
      cases e
      obtain ⟨v', e', r⟩ := k.at_ i _ hw
      rw [hv] at e'
      cases e'
      rw [rw'] at r
      exact rv_of r.2
    · cases h
  · cases e
theorem res_rv (k : Ok K B F H σ env) : ∀ {os : List Ov} {ds : List D} {vs : List V}, resO env os = some ds → ovL K B F H σ os vs → rvL K (av B F) H ds vs
  | [], _, _, e, h => by cases e; exact h
  | .inl d :: os, _, _, e, h => by
    obtain ⟨v, r, rfl, h1, h2⟩ := h
    unfold resO at e
    cases q : resO env os with
    | none => rw [q] at e; cases e
    | some ds' =>
      rw [q] at e
      cases e
      exact ⟨v, r, rfl, rv_of h1, res_rv k q h2⟩
  | .inr i :: os, _, _, e, h => by
    obtain ⟨v, r, rfl, h1, h2⟩ := h
    unfold resO at e
    split at e
    · rename_i d ds' e1 e2
      cases e
      exact ⟨v, r, rfl, view_rv k e1 h1, res_rv k e2 h2⟩
    · cases e
end
/-! ### operations: what each comes to, over grown heaps -/
def Grow (H H' : Hp) : Prop := ∀ a o, H a = some o → H' a = some o
/-- an operation on vs -/
def rO (K : PySem.W.Frag) (o : Opc) : List V → Hp → VK → Prop := fun vs H Q => ∃ (M : Addr → Prop) (ds : List D) (d : D), (∀ a, M a → H a ≠ none) ∧ rvL K M H ds vs ∧ opD o ds = some d ∧ ∀ v H', Grow H H' → rd K M H' d v → Q v H'
abbrev rO2 (K : PySem.W.Frag) (o : Opc) : R2 := fun x y => rO K o [x, y]
theorem Grow.refl {H : Hp} : Grow H H := fun _ _ h => h
theorem rO_of {K : PySem.W.Frag} {B : Addr → Prop} {σ : L2.St} {F : Fp} {H : Hp} {W : WX} {env : En} {os : List Ov} {o : Opc} {vs : List V} {Q : VK} (k : Ok K B F H σ env) (hv : ovL K B F H σ os vs)
    (h : pst K W B σ F H (fun d _ F' H' => ∀ v, rd K (av B F') H' d v → Q v H') (lift ((resO env os).bind (opD o)) env)) : rO K o vs H Q := by
  obtain ⟨d, e, h⟩ := pst_lift h
  cases q : resO env os with
  | none => rw [q] at e; cases e
  | some ds =>
    rw [q] at e
    refine ⟨av B F, ds, d, k.there, res_rv k q hv, e, fun v H' g hr => ?_⟩
    exact h F H' (Stp.grow g) (k.grow g) v hr
section
variable {X : Cx} {a b : Expr} {W : WX} {ea eb : Ev Ov} {pos : Pos} {o : Opc}
def ev2 (o : Opc) (ea eb : Ev Ov) : Ev D := fun env => (ea env).bind fun x e1 => (eb e1).bind fun y e2 => lift ((resO e2 [x, y]).bind (opD o)) e2
theorem two_of {σ : L2.St} {H : Hp} {Q : VK} (h : tE X.K W (ev2 o ea eb) σ H Q) : tOd X.K W ea σ H fun x H1 => tOd X.K W eb σ H1 fun y H2 => rO X.K o [x, y] H2 Q := by
  obtain ⟨B, F, env, k, h⟩ := h
  refine ⟨B, F, env, k, pst_imp (pst_bind h) fun x e1 F1 H1 _ _ h1 v hv => ?_⟩
  obtain ⟨_, k1, h1⟩ := h1
  refine ⟨B, F1, e1, k1, pst_imp (pst_bind h1) fun y e2 F2 H2 s2 _ h2 u hu => ?_⟩
  obtain ⟨_, k2, h2⟩ := h2
  exact rO_of (os := [x, y]) k2 ⟨v, [u], rfl, ov_stp s2 hv, u, [], rfl, hu, rfl⟩ h2
end
end Ev

set_option Elab.async false
set_option linter.all false
set_option maxRecDepth 100000
set_option maxHeartbeats 4000000
namespace Ev
open PySem PySem.Spec PyProof.Rows L2 He Gw
/-! ### operations hold what opD says -/
section
variable {K : PySem.W.Frag} {M : Addr → Prop} {H : Hp}
theorem rvL2 {ds : List D} {x y : V} (h : rvL K M H ds [x, y]) : ∃ a b, ds = [a, b] ∧ rv K M H a x ∧ rv K M H b y := by
  match ds, h with
  | [a, b], ⟨v, r, e, h1, v', r', e', h2, h3⟩ => cases e; cases e'; exact ⟨a, b, rfl, h1, h2⟩
  | [a], ⟨v, r, e, h1, h2⟩ => cases e; cases h2
  | [], h => cases h
  | a :: b :: c :: l, ⟨v, r, e, h1, v', r', e', h2, v2, r2, e2, _⟩ => cases e; cases e'; cases e2
theorem rvL1 {ds : List D} {x : V} (h : rvL K M H ds [x]) : ∃ a, ds = [a] ∧ rv K M H a x := by
  match ds, h with
  | [a], ⟨v, r, e, h1, h2⟩ => cases e; exact ⟨a, rfl, h1⟩
  | [], h => cases h
  | a :: b :: l, ⟨v, r, e, h1, v', r', e', _⟩ => cases e; cases e'
theorem rv_int {i : Int} {v : V} (h : rv K M H (.int i) v) : v = .int i := by
  have h : rd K M H (.int i) v := h
  rw [rd] at h
  exact h
theorem rv_bl {b : Bool} {v : V} (h : rv K M H (.bl b) v) : v = .bl b := by
  have h : rd K M H (.bl b) v := h
  rw [rd] at h
  exact h
theorem rv_str {x : Str} {v : V} (h : rv K M H (.str x) v) : v = .str x := by
  have h : rd K M H (.str x) v := h
  rw [rd] at h
  exact h
theorem rv_non {v : V} (h : rv K M H .non v) : v = .non := by
  have h : rd K M H .non v := h
  rw [rd] at h
  exact h
theorem rv_tup {ds : List D} {v : V} (h : rv K M H (.tup ds) v) : ∃ a vs, v = .ref a ∧ (At M H a (.tup vs) ∨ CstT K a vs) ∧ rdL K M H ds vs := by
  have h : rd K M H (.tup ds) v := h
  rw [rd] at h
  exact h
theorem sqT_of {a : Addr} {vs : List V} (h : At M H a (.tup vs) ∨ CstT K a vs) : SqT K H a vs := h.elim (fun h => .inl (.inl h.2)) .inr
theorem rv_scr {ns : List Int} {v : V} (h : rv K M H (.scr ns) v) : ∃ a, v = .ref a ∧ SqL K H a (ns.map V.int) := by
  have h : rd K M H (.scr ns) v := h
  rw [rd] at h
  obtain ⟨a, e, h⟩ := h
  exact ⟨a, e, h.imp (·.2) id⟩
theorem rd_int {i : Int} : rd K M H (.int i) (.int i) := by rw [rd]
theorem rd_bl {b : Bool} : rd K M H (.bl b) (.bl b) := by rw [rd]
theorem rd_str {x : Str} : rd K M H (.str x) (.str x) := by rw [rd]
theorem rd_non : rd K M H .non .non := by rw [rd]
theorem rd_tup {ds : List D} {a : Addr} {vs : List V} (h : At M H a (.tup vs) ∨ CstT K a vs) (r : rdL K M H ds vs) : rd K M H (.tup ds) (.ref a) := by
  rw [rd]
  exact ⟨a, vs, rfl, h, r⟩
theorem rd_lst {ds : List D} {a : Addr} {vs : List V} (h : At M H a (.lst vs)) (r : rdL K M H ds vs) : rd K M H (.lst ds) (.ref a) := by
  rw [rd]
  exact ⟨a, vs, rfl, h, r⟩
theorem rdL_grow {H' : Hp} (g : Grow H H') {ds : List D} {vs : List V} (r : rdL K M H ds vs) : rdL K M H' ds vs := rdL_stay ⟨fun a o _ h => g a o h, fun a h => .inl h⟩ ds vs r
theorem new_tup {ds : List D} {p : Addr} {vs : List V} (al : ∀ a, M a → H a ≠ none) (n : H p = none) (r : rdL K M H ds vs) : rd K M (upd H p (.tup vs)) (.tup ds) (.ref p) :=
  rd_tup (.inl ⟨fun z => al p z n, upd_same⟩) (rdL_grow (grow_upd n) r)
theorem new_lst {ds : List D} {p : Addr} {vs : List V} (al : ∀ a, M a → H a ≠ none) (n : H p = none) (r : rdL K M H ds vs) : rd K M (upd H p (.lst vs)) (.lst ds) (.ref p) :=
  rd_lst ⟨fun z => al p z n, upd_same⟩ (rdL_grow (grow_upd n) r)
end
section
variable {X : Cx}
theorem opr_add : OpR X (binaryOp .Add) (rO2 X.K .add) := by
  intro pins s σ H x y v u Q I rx ry h
  obtain ⟨M, ds, d, al, rs, e, q⟩ := h
  obtain ⟨a, b, rfl, ra, rb⟩ := rvL2 rs
  replace e : addD a b = some d := e
  unfold addD at e
  split at e
  · rename_i i j
    cases e
    obtain rfl := rv_int ra
    obtain rfl := rv_int rb
    exact op_add pins s σ H _ _ v u Q I rx ry ⟨i, j, rfl, rfl, q _ _ .refl rd_int⟩
  · rename_i i j
    split at e
    · rename_i hz
      cases e
      obtain rfl := rv_str ra
      obtain rfl := rv_str rb
      exact op_add_str pins s σ H _ _ v u Q I rx ry ⟨i, j, rfl, rfl, hz, q _ _ .refl rd_str⟩
    · cases e
  · rename_i xs ys
    split at e
    · rename_i hz
      cases e
      obtain ⟨p, vs, rfl, h1, r1⟩ := rv_tup ra
      obtain ⟨p', vs', rfl, h2, r2⟩ := rv_tup rb
      have l1 := rdL_len r1
      have l2 := rdL_len r2
      refine op_catA pins s σ H _ _ v u Q I rx ry ⟨p, p', vs, vs', rfl, rfl, sqT_of h1, sqT_of h2, by rw [← l1, ← l2]; exact hz, fun z => ?_, fun _ z => ?_, fun _ _ t ht => ?_⟩
      · subst z
        have : xs = [] := List.eq_nil_of_length_eq_zero (by rw [l1]; rfl)
        subst this
        exact q _ _ .refl (rd_tup h2 r2)
      · subst z
        have : ys = [] := List.eq_nil_of_length_eq_zero (by rw [l2]; rfl)
        subst this
        rw [List.append_nil] at q
        exact q _ _ .refl (rd_tup h1 r1)
      · exact q _ _ (grow_upd ht) (new_tup al ht (rdL_app r1 r2))
    · cases e
  · rename_i xs ys
    split at e
    · rename_i hz
      cases e
      obtain ⟨p, vs, rfl, h1, r1⟩ := ra
      obtain ⟨p', vs', rfl, h2, r2⟩ := rb
      have l1 := rdL_len r1
      have l2 := rdL_len r2
      exact op_cat pins s σ H _ _ v u Q I rx ry ⟨p, p', vs, vs', rfl, rfl, h1, h2, by rw [← l1, ← l2]; exact hz, fun t ht => q _ _ (grow_upd ht) (new_lst al ht (rdL_app r1 r2))⟩
    · cases e
  · cases e
theorem opr_int {f : Value → Value → Sem Value} {o : Opc} {g : Int → Int → Option D} {r : R2} (h : OpR X f r) (ho : ∀ a b, opD o [a, b] = intB g a b)
    (hr : ∀ i j d H Q, g i j = some d → (∀ v, (∀ K M H, rd K M H d v) → Q v H) → r (.int i) (.int j) H Q) : OpR X f (rO2 X.K o) := by
  intro pins s σ H x y v u Q I rx ry hh
  obtain ⟨M, ds, d, al, rs, e, q⟩ := hh
  obtain ⟨a, b, rfl, ra, rb⟩ := rvL2 rs
  rw [ho] at e
  unfold intB at e
  split at e
  · rename_i i j
    obtain rfl := rv_int ra
    obtain rfl := rv_int rb
    exact h pins s σ H _ _ v u Q I rx ry (hr i j d H Q e fun v hv => q v H .refl (hv _ _ _))
  · cases e
theorem opr_sub : OpR X (binaryOp .Sub) (rO2 X.K .sub) := opr_int op_sub (fun _ _ => rfl) fun i j d H Q e q => ⟨i, j, rfl, rfl, by cases e; exact q _ fun _ _ _ => rd_int⟩
theorem wideOk {i j : Int} (h : 0 < j ∧ j < 2 ^ 66) : CDivW i j := by
  refine ⟨h.1, ?_⟩
  have : j.natAbs < 2 ^ 66 := by omega
  exact Nat.lt_trans ((Nat.log2_lt (by omega)).mpr this) (by decide)
theorem opr_fdiv : OpR X (binaryOp .FloorDiv) (rO2 X.K .fdiv) := opr_int op_fdivW (fun _ _ => rfl) fun i j d H Q e q => by
  split at e
  · rename_i h
    cases e
    exact ⟨i, j, rfl, rfl, wideOk h, q _ fun _ _ _ => rd_int⟩
  · cases e
theorem opr_mod : OpR X (binaryOp .Mod) (rO2 X.K .mod) := opr_int op_mod (fun _ _ => rfl) fun i j d H Q e q => by
  split at e
  · rename_i h
    cases e
    exact ⟨i, j, rfl, rfl, h, q _ fun _ _ _ => rd_int⟩
  · cases e
theorem opr_pow : OpR X (binaryOp .Pow) (rO2 X.K .pow) := opr_int op_pow (fun _ _ => rfl) fun i j d H Q e q => by
  split at e
  · rename_i h
    cases e
    exact ⟨i, j, rfl, rfl, h, q _ fun _ _ _ => rd_int⟩
  · cases e
theorem opr_lt : OpR X (compareOp .Lt) (rO2 X.K .lt) := opr_int op_lt (fun _ _ => rfl) fun i j d H Q e q => ⟨i, j, rfl, rfl, by cases e; exact q _ fun _ _ _ => rd_bl⟩
theorem opr_le : OpR X (compareOp .LtE) (rO2 X.K .le) := opr_int op_le (fun _ _ => rfl) fun i j d H Q e q => ⟨i, j, rfl, rfl, by cases e; exact q _ fun _ _ _ => rd_bl⟩
theorem opr_gt : OpR X (compareOp .Gt) (rO2 X.K .gt) := opr_int op_gt (fun _ _ => rfl) fun i j d H Q e q => ⟨i, j, rfl, rfl, by cases e; exact q _ fun _ _ _ => rd_bl⟩
theorem opr_ge : OpR X (compareOp .GtE) (rO2 X.K .ge) := opr_int op_ge (fun _ _ => rfl) fun i j d H Q e q => ⟨i, j, rfl, rfl, by cases e; exact q _ fun _ _ _ => rd_bl⟩
theorem mulOk_of {i j : Int} (h : mulOk i j = true) : CMul i j := by
  unfold mulOk at h
  simp only [Bool.or_eq_true, Bool.and_eq_true, decide_eq_true_eq] at h
  exact h
theorem opr_mul : OpR X (binaryOp .Mult) (rO2 X.K .mul) := by
  intro pins s σ H x y v u Q I rx ry h
  obtain ⟨M, ds, d, al, rs, e, q⟩ := h
  obtain ⟨a, b, rfl, ra, rb⟩ := rvL2 rs
  replace e : mulD a b = some d := e
  unfold mulD at e
  split at e
  · rename_i i j
    obtain rfl := rv_int ra
    obtain rfl := rv_int rb
    split at e
    · rename_i h
      cases e
      exact op_mul pins s σ H _ _ v u Q I rx ry ⟨i, j, rfl, rfl, mulOk_of h, q _ _ .refl rd_int⟩
    · cases e
  · rename_i xs k
    obtain rfl := rv_int rb
    obtain ⟨p, vs, rfl, h1, r1⟩ := ra
    split at e
    · rename_i h
      cases e
      obtain ⟨h2, h3, h4⟩ := h
      refine op_rep pins s σ H _ _ v u Q I rx ry ⟨p, k, vs, rfl, rfl, h1, h2, h3, by rw [← rdL_len r1]; exact h4, fun t ht => q _ _ (grow_upd ht) (new_lst al ht ?_)⟩
      generalize k.toNat = n
      induction n with
      | zero => exact show rdL X.K M H [] [] by rw [rdL]
      | succ n ih => exact rdL_app r1 ih
    · cases e
  · rename_i xs k
    obtain rfl := rv_int rb
    obtain ⟨p, vs, rfl, h1, r1⟩ := rv_tup ra
    split at e
    · rename_i h
      cases e
      obtain ⟨h2, h3, h4⟩ := h
      have l1 := rdL_len r1
      by_cases hk : xs = [] ∨ k = 1
      · refine op_repT1 pins s σ H _ _ v u Q I rx ry ⟨p, k, vs, rfl, rfl, sqT_of h1, hk.imp (fun z => ?_) id, by omega, h3, q _ _ .refl ?_⟩
        · subst z
          exact List.eq_nil_of_length_eq_zero (by rw [← l1]; rfl)
        · have e : (List.replicate k.toNat xs).flatten = xs := by
            rcases hk with rfl | rfl
            · generalize k.toNat = n
              induction n with
              | zero => rfl
              | succ n ih => rw [List.replicate_succ, List.flatten_cons, ih] <;> rfl
            · simp
          rw [e]
          exact rd_tup h1 r1
      · refine op_repT pins s σ H _ _ v u Q I rx ry ⟨p, k, vs, rfl, rfl, sqT_of h1, fun z => hk (.inl (List.eq_nil_of_length_eq_zero (by rw [l1, z]; rfl))), by have : ¬ k = 1 := fun z => hk (.inr z); omega, h3, by rw [← l1]; exact h4, fun t ht => q _ _ (grow_upd ht) (new_tup al ht ?_)⟩
        generalize k.toNat = n
        induction n with
        | zero => exact show rdL X.K M H [] [] by rw [rdL]
        | succ n ih => exact rdL_app r1 ih
    · cases e
  · cases e
mutual
theorem dp_of {K : PySem.W.Frag} {M : Addr → Prop} {H : Hp} : ∀ (d : D) (p : PyData) (v : V), toP d = some p → rd K M H d v → Dp K H v p
  | .non, _, _, e, h => by
    rw [rd] at h
    rw [toP] at e
    cases e
    subst h
    exact .non
  | .bl b, _, _, e, h => by
    rw [rd] at h
    rw [toP] at e
    cases e
    subst h
    exact .bl b
  | .int i, _, _, e, h => by
    rw [rd] at h
    rw [toP] at e
    cases e
    subst h
    exact .int i
  | .str x, _, _, e, h => by
    rw [rd] at h
    rw [toP] at e
    cases e
    subst h
    exact .str x
  | .tup ds, _, _, e, h => by
    rw [rd] at h
    rw [toP] at e
    obtain ⟨a, vs, rfl, h1, h2⟩ := h
    cases q : toPL ds with
    | none => rw [q] at e; cases e
    | some ps =>
      rw [q] at e
      cases e
      exact .tup (sqT_of h1) (dpL_of ds ps vs q h2)
  | .lst ds, _, _, e, h => by
    rw [rd] at h
    rw [toP] at e
    obtain ⟨a, vs, rfl, h1, h2⟩ := h
    cases q : toPL ds with
    | none => rw [q] at e; cases e
    | some ps =>
      rw [q] at e
      cases e
      exact .lst (SqL.of h1.2) (dpL_of ds ps vs q h2)
  | .dct _ _, _, _, e, _ => by rw [toP] at e; cases e
  | .ins _ _ _, _, _, e, _ => by rw [toP] at e; cases e
  | .glo _, _, _, e, _ => by rw [toP] at e; cases e
  | .ty _, _, _, e, _ => by rw [toP] at e; cases e
  | .scr _, _, _, e, _ => by rw [toP] at e; cases e
theorem dpL_of {K : PySem.W.Frag} {M : Addr → Prop} {H : Hp} : ∀ (ds : List D) (ps : List PyData) (vs : List V), toPL ds = some ps → rdL K M H ds vs → DpAll K H vs ps
  | [], _, _, e, h => by
    rw [rdL] at h
    rw [toPL] at e
    cases e
    subst h
    exact .nil
  | d :: ds, _, _, e, h => by
    rw [rdL] at h
    rw [toPL] at e
    obtain ⟨v, r, rfl, h1, h2⟩ := h
    cases q : toP d with
    | none => rw [q] at e; cases e
    | some p =>
      cases q2 : toPL ds with
      | none => rw [q, q2] at e; cases e
      | some ps =>
        rw [q, q2] at e
        cases e
        exact .cons (dp_of d p v q h1) (dpL_of ds ps r q2 h2)
end
theorem dp_rv {K : PySem.W.Frag} {M : Addr → Prop} {H : Hp} {d : D} {p : PyData} {v : V} (e : toP d = some p) (h : rv K M H d v) : Dp K H v p := by
  cases d with
  | lst ds =>
    obtain ⟨a, vs, rfl, h1, h2⟩ := h
    rw [toP] at e
    cases q : toPL ds with
    | none => rw [q] at e; cases e
    | some ps =>
      rw [q] at e
      cases e
      exact .lst (SqL.of h1) (dpL_of ds ps vs q h2)
  | dct ks ds => rw [toP] at e; cases e
  | _ => exact dp_of (M := M) _ p v e h
theorem eqD_some {a b : D} {r : Bool} (h : eqD a b = some r) : ∃ p q, toP a = some p ∧ toP b = some q ∧ SeqAt.shaped p = true ∧ SeqAt.shaped q = true ∧ r = PyData.eqv p q := by
  unfold eqD at h
  split at h
  · rename_i p q h1 h2
    split at h
    · rename_i h3
      cases h
      exact ⟨p, q, h1, h2, h3.1, h3.2, rfl⟩
    · cases h
  · cases h
theorem opr_eq (hu : X.A.units + 64 < cLine) : OpR X (compareOp .Eq) (rO2 X.K .eq) := by
  intro pins s σ H x y v u Q I rx ry h
  obtain ⟨M, ds, d, al, rs, e, q⟩ := h
  obtain ⟨a, b, rfl, ra, rb⟩ := rvL2 rs
  replace e : (eqD a b).map D.bl = some d := e
  cases z : eqD a b with
  | none => rw [z] at e; cases e
  | some r =>
    rw [z] at e
    cases e
    obtain ⟨p, p', h1, h2, h3, h4, rfl⟩ := eqD_some z
    exact op_eqD hu pins s σ H _ _ v u Q I rx ry ⟨p, p', dp_rv h1 ra, dp_rv h2 rb, h3, h4, q _ _ .refl rd_bl⟩
theorem opr_ne (hu : X.A.units + 64 < cLine) : OpR X (compareOp .NotEq) (rO2 X.K .ne) := by
  intro pins s σ H x y v u Q I rx ry h
  obtain ⟨M, ds, d, al, rs, e, q⟩ := h
  obtain ⟨a, b, rfl, ra, rb⟩ := rvL2 rs
  replace e : (eqD a b).map (fun r => D.bl (!r)) = some d := e
  cases z : eqD a b with
  | none => rw [z] at e; cases e
  | some r =>
    rw [z] at e
    cases e
    obtain ⟨p, p', h1, h2, h3, h4, rfl⟩ := eqD_some z
    exact op_neD hu pins s σ H _ _ v u Q I rx ry ⟨p, p', dp_rv h1 ra, dp_rv h2 rb, h3, h4, q _ _ .refl rd_bl⟩
theorem rv_ref {K : PySem.W.Frag} {M : Addr → Prop} {H : Hp} {d : D} {v : V} (h : rv K M H d v) : (∀ b, d ≠ .bl b) → ∀ b, v ≠ .bl b := by
  intro n b e
  subst e
  cases d with
  | bl c => exact n c rfl
  | lst ds => obtain ⟨a, vs, z, _⟩ := h; cases z
  | dct ks ds => obtain ⟨a, vs, z, _⟩ := h; cases z
  | non => have h := rv_non h; cases h
  | int i => have h := rv_int h; cases h
  | str i => have h := rv_str h; cases h
  | tup ds => obtain ⟨a, vs, z, _⟩ := rv_tup h; cases z
  | scr ds => obtain ⟨a, z, _⟩ := rv_scr h; cases z
  | ins c ks ds =>
    have h : rd K M H (.ins c ks ds) (.bl b) := h
    rw [rd] at h
    obtain ⟨a, dx, vs, z, _⟩ := h
    cases z
  | glo x =>
    have h : rd K M H (.glo x) (.bl b) := h
    rw [rd] at h
    cases h
  | ty x =>
    have h : rd K M H (.ty x) (.bl b) := h
    rw [rd] at h
    cases h
theorem rv_notN {K : PySem.W.Frag} {M : Addr → Prop} {H : Hp} {d : D} {v : V} (h : rv K M H d v) : d ≠ .non → v ≠ .non := by
  intro n e
  subst e
  cases d with
  | non => exact n rfl
  | lst ds => obtain ⟨a, vs, z, _⟩ := h; cases z
  | dct ks ds => obtain ⟨a, vs, z, _⟩ := h; cases z
  | bl b => have h := rv_bl h; cases h
  | int i => have h := rv_int h; cases h
  | str i => have h := rv_str h; cases h
  | tup ds => obtain ⟨a, vs, z, _⟩ := rv_tup h; cases z
  | scr ds => obtain ⟨a, z, _⟩ := rv_scr h; cases z
  | ins c ks ds =>
    have h : rd K M H (.ins c ks ds) .non := h
    rw [rd] at h
    obtain ⟨a, dx, vs, z, _⟩ := h
    cases z
  | glo x =>
    have h : rd K M H (.glo x) .non := h
    rw [rd] at h
    cases h
  | ty x =>
    have h : rd K M H (.ty x) .non := h
    rw [rd] at h
    cases h
theorem isNon_ok {K : PySem.W.Frag} {M : Addr → Prop} {H : Hp} {a d : D} {v : V} (e : isNonD a .non = some d) (h : rv K M H a v) : d = .bl (decide (v = .non)) := by
  have no : a ≠ .non → d = .bl false → d = .bl (decide (v = .non)) := fun n z => by rw [z, decide_eq_false (rv_notN h n)]
  cases a with
  | non => cases e; rw [rv_non h]; rfl
  | _ => first | (cases e; exact no (fun z => nomatch z) rfl) | cases e
theorem isBl_ok {K : PySem.W.Frag} {M : Addr → Prop} {H : Hp} {a d : D} {b : Bool} {v : V} (e : isBlD a (.bl b) = some d) (h : rv K M H a v) : d = .bl (decide (v = .bl b)) := by
  have no : (∀ c, a ≠ .bl c) → d = .bl false → d = .bl (decide (v = .bl b)) := fun n z => by rw [z, decide_eq_false (rv_ref h n b)]
  cases a with
  | bl c =>
    cases e
    rw [rv_bl h]
    congr 1
    cases b <;> cases c <;> rfl
  | _ => first | (cases e; exact no (fun _ z => nomatch z) rfl) | cases e
theorem opr_is : OpR X (compareOp .Is) (rO2 X.K .is_) := by
  intro pins s σ H x y v u Q I rx ry h
  obtain ⟨M, ds, d, al, rs, e, q⟩ := h
  obtain ⟨a, b, rfl, ra, rb⟩ := rvL2 rs
  cases b with
  | non =>
    replace e : isNonD a .non = some d := e
    have ed := isNon_ok e ra
    subst ed
    exact op_isN pins s σ H _ _ v u Q I rx ry ⟨rv_non rb, q _ _ .refl rd_bl⟩
  | bl b =>
    replace e : isBlD a (.bl b) = some d := e
    have ed := isBl_ok e ra
    subst ed
    exact op_isC pins s σ H _ _ v u Q I rx ry ⟨b, rv_bl rb, q _ _ .refl rd_bl⟩
  | _ => cases a <;> cases e
theorem opr_isnot : OpR X (compareOp .IsNot) (rO2 X.K .isnot) := by
  intro pins s σ H x y v u Q I rx ry h
  obtain ⟨M, ds, d, al, rs, e, q⟩ := h
  obtain ⟨a, b, rfl, ra, rb⟩ := rvL2 rs
  cases b with
  | non =>
    replace e : (isNonD a .non).bind notB = some d := e
    cases z : isNonD a .non with
    | none => rw [z] at e; cases e
    | some r =>
      rw [z] at e
      have ed := isNon_ok z ra
      subst ed
      cases e
      exact op_notN pins s σ H _ _ v u Q I rx ry ⟨rv_non rb, q _ _ .refl rd_bl⟩
  | _ => cases a <;> cases e
theorem ixr : IxR X (rO2 X.K .idx) := by
  intro ve se pins s σ H x y v u Q I rx ry h hs
  obtain ⟨M, ds, d, al, rs, e, q⟩ := h
  obtain ⟨a, b, rfl, ra, rb⟩ := rvL2 rs
  replace e : idxD a b = some d := e
  unfold idxD at e
  have get : ∀ {ds : List D} {vs : List V} {i : Int}, rdL X.K M H ds vs → atI ds i = some d → ∃ w, atI vs i = some w ∧ rd X.K M H d w := fun {ds vs i} r e => by
    unfold atI at e ⊢
    rw [← rdL_len r]
    cases z : ixN ds.length i with
    | none => rw [z] at e; cases e
    | some j =>
      rw [z] at e
      exact rdL_get r e
  split at e
  · rename_i ds i
    obtain ⟨p, vs, rfl, h1, r1⟩ := ra
    obtain rfl := rv_int rb
    obtain ⟨w', e', r'⟩ := get r1 e
    exact ix_list ve se pins s σ H _ _ v u Q I rx ry ⟨p, vs, i, w', rfl, rfl, SqL.of h1, e', q _ _ .refl r'⟩ hs
  · rename_i ds i
    obtain ⟨p, vs, rfl, h1, r1⟩ := rv_tup ra
    obtain rfl := rv_int rb
    obtain ⟨w', e', r'⟩ := get r1 e
    exact ix_tup ve se pins s σ H _ _ v u Q I rx ry ⟨p, vs, i, w', rfl, rfl, sqT_of h1, e', q _ _ .refl r'⟩ hs
  · rename_i ns i
    obtain ⟨p, rfl, h1⟩ := rv_scr ra
    obtain rfl := rv_int rb
    have z : ∃ k, atI ns i = some k ∧ d = .int k := by
      cases z : atI ns i with
      | none => rw [z] at e; cases e
      | some k => rw [z] at e; cases e; exact ⟨k, rfl, rfl⟩
    obtain ⟨k, z, rfl⟩ := z
    refine ix_list ve se pins s σ H _ _ v u Q I rx ry ⟨p, _, i, .int k, rfl, rfl, h1, ?_, q _ _ .refl rd_int⟩ hs
    unfold atI at z ⊢
    rw [List.length_map]
    cases z2 : ixN ns.length i with
    | none => rw [z2] at z; cases z
    | some j =>
      rw [z2] at z
      have z : ns[j]? = some k := z
      show (ns.map V.int)[j]? = _
      rw [List.getElem?_map, z]
      rfl
  · rename_i z i
    obtain rfl := rv_str ra
    obtain rfl := rv_int rb
    split at e
    · rename_i hz
      cases z2 : atI z.cps.toList i with
      | none => rw [z2] at e; cases e
      | some c =>
        rw [z2] at e
        cases e
        exact ix_str ve se pins s σ H _ _ v u Q I rx ry ⟨z, i, c, rfl, rfl, hz, z2, q _ _ .refl rd_str⟩ hs
    · cases e
  · cases e
/-! ### calls -/
theorem clr_len : CallR X (.builtin "len") (rO X.K .len) := by
  intro pins s σ H xs us Q I r h
  obtain ⟨M, ds, d, al, rs, e, q⟩ := h
  match ds, e with
  | [a], e =>
    obtain ⟨v, r', rfl, ra, rfl⟩ := rs
    replace e : lenD a = some d := e
    unfold lenD at e
    split at e
    · cases e
      obtain ⟨p, vs, rfl, h1, r1⟩ := ra
      exact call_len_seq pins s σ H _ us Q I r ⟨p, vs, rfl, .inl (SqL.of h1), by rw [← rdL_len r1]; exact q _ _ .refl rd_int⟩
    · cases e
      obtain ⟨p, vs, rfl, h1, r1⟩ := rv_tup ra
      exact call_len_seq pins s σ H _ us Q I r ⟨p, vs, rfl, .inr (sqT_of h1), by rw [← rdL_len r1]; exact q _ _ .refl rd_int⟩
    · cases e
      obtain ⟨p, rfl, h1⟩ := rv_scr ra
      exact call_len_seq pins s σ H _ us Q I r ⟨p, _, rfl, .inl h1, by rw [List.length_map]; exact q _ _ .refl rd_int⟩
    · obtain rfl := rv_str ra
      split at e
      · rename_i hz
        cases e
        exact call_len_str pins s σ H _ us Q I r ⟨_, rfl, hz, q _ _ .refl rd_int⟩
      · cases e
    · cases e
theorem clr_int : CallR X (.type "int") (rO X.K .int) := by
  intro pins s σ H xs us Q I r h
  obtain ⟨M, ds, d, al, rs, e, q⟩ := h
  match ds, e with
  | [a], e =>
    obtain ⟨v, r', rfl, ra, rfl⟩ := rs
    replace e : intD a = some d := e
    unfold intD at e
    split at e
    · cases e
      obtain rfl := rv_int ra
      exact call_int1 pins s σ H _ us Q I r (.inl ⟨_, rfl, q _ _ .refl rd_int⟩)
    · cases e
      obtain rfl := rv_bl ra
      exact call_int1 pins s σ H _ us Q I r (.inr ⟨_, rfl, q _ _ .refl rd_int⟩)
    · cases e
theorem clr_tuple : CallR X (.type "tuple") (rO X.K .tuple) := by
  intro pins s σ H xs us Q I r h
  obtain ⟨M, ds, d, al, rs, e, q⟩ := h
  match ds, e with
  | [a], e =>
    obtain ⟨v, r', rfl, ra, rfl⟩ := rs
    replace e : tupleD a = some d := e
    unfold tupleD at e
    split at e
    · cases e
      obtain ⟨p, vs, rfl, h1, r1⟩ := ra
      exact call_tuple_of pins s σ H _ us Q I r ⟨p, vs, rfl, .inl ⟨SqL.of h1, fun l hl => q _ _ (grow_upd hl) (new_tup al hl r1)⟩⟩
    · cases e
      obtain ⟨p, vs, rfl, h1, r1⟩ := rv_tup ra
      exact call_tuple_of pins s σ H _ us Q I r ⟨p, vs, rfl, .inr ⟨sqT_of h1, q _ _ .refl (rd_tup h1 r1)⟩⟩
    · cases e
theorem rdL_ints {K : PySem.W.Frag} {M : Addr → Prop} {H : Hp} : ∀ ns : List Int, rdL K M H (ns.map D.int) (ns.map V.int)
  | [] => by
    show rdL K M H [] []
    rw [rdL]
  | n :: ns => by
    show rdL K M H (D.int n :: ns.map D.int) (V.int n :: ns.map V.int)
    rw [rdL]
    exact ⟨_, _, rfl, rd_int, rdL_ints ns⟩
theorem clr_list : CallR X (.type "list") (rO X.K .list) := by
  intro pins s σ H xs us Q I r h
  obtain ⟨M, ds, d, al, rs, e, q⟩ := h
  match ds, e with
  | [a], e =>
    obtain ⟨v, r', rfl, ra, rfl⟩ := rs
    replace e : listD a = some d := e
    unfold listD at e
    split at e
    · cases e
      obtain ⟨p, vs, rfl, h1, r1⟩ := ra
      exact call_list_of pins s σ H _ us Q I r ⟨p, vs, rfl, .inl (SqL.of h1), fun l hl => q _ _ (grow_upd hl) (new_lst al hl r1)⟩
    · cases e
      obtain ⟨p, vs, rfl, h1, r1⟩ := rv_tup ra
      exact call_list_of pins s σ H _ us Q I r ⟨p, vs, rfl, .inr (sqT_of h1), fun l hl => q _ _ (grow_upd hl) (new_lst al hl r1)⟩
    · cases e
      obtain ⟨p, rfl, h1⟩ := rv_scr ra
      exact call_list_of pins s σ H _ us Q I r ⟨p, _, rfl, .inl h1, fun l hl => q _ _ (grow_upd hl) (new_lst al hl (rdL_ints _))⟩
    · cases e
theorem clr_ints {f : Value} {o : Opc} {g : Int → Int → Option D} {rr : List V → Hp → VK → Prop} (h : CallR X f rr) (ho : ∀ ds d, opD o ds = some d → ∃ i j, ds = [.int i, .int j] ∧ g i j = some d)
    (hr : ∀ i j d H Q, g i j = some d → (∀ v, (∀ K M H, rd K M H d v) → Q v H) → rr [.int i, .int j] H Q) : CallR X f (rO X.K o) := by
  intro pins s σ H xs us Q I r hh
  obtain ⟨M, ds, d, al, rs, e, q⟩ := hh
  obtain ⟨i, j, rfl, e2⟩ := ho _ _ e
  obtain ⟨v, r', rfl, ra, v2, r2, rfl, rb, rfl⟩ := rs
  obtain rfl := rv_int ra
  obtain rfl := rv_int rb
  exact h pins s σ H _ us Q I r (hr i j d H Q e2 fun v hv => q v H .refl (hv _ _ _))
theorem intB_some {g : Int → Int → Option D} {a b d : D} (e : intB g a b = some d) : ∃ i j, a = .int i ∧ b = .int j ∧ g i j = some d := by
  unfold intB at e
  split at e
  · exact ⟨_, _, rfl, rfl, e⟩
  · cases e
theorem clr_min2 (hc : X.calm = true) : CallR X (.builtin "min") (rO X.K .min2) := clr_ints (call_min2 hc) (fun ds d e => by
  match ds, e with
  | [a, b], e =>
    obtain ⟨i, j, rfl, rfl, e⟩ := intB_some (show intB (fun i j => some (.int (if j < i then j else i))) a b = some d from e)
    exact ⟨i, j, rfl, e⟩) fun i j d H Q e q => ⟨i, j, rfl, by cases e; exact q _ fun _ _ _ => rd_int⟩
theorem clr_max2 (hc : X.calm = true) : CallR X (.builtin "max") (rO X.K .max2) := clr_ints (call_max2 hc) (fun ds d e => by
  match ds, e with
  | [a, b], e =>
    obtain ⟨i, j, rfl, rfl, e⟩ := intB_some (show intB (fun i j => some (.int (if j > i then j else i))) a b = some d from e)
    exact ⟨i, j, rfl, e⟩) fun i j d H Q e q => ⟨i, j, rfl, by cases e; exact q _ fun _ _ _ => rd_int⟩
theorem clr_abs : CallR X (.builtin "abs") (rO X.K .abs) := by
  intro pins s σ H xs us Q I r h
  obtain ⟨M, ds, d, al, rs, e, q⟩ := h
  match ds, e with
  | [a], e =>
    obtain ⟨v, r', rfl, ra, rfl⟩ := rs
    replace e : absD a = some d := e
    unfold absD at e
    split at e
    · cases e
      obtain rfl := rv_int ra
      exact call_abs pins s σ H _ us Q I r ⟨_, rfl, q _ _ .refl rd_int⟩
    · cases e
theorem isi_ok {K : PySem.W.Frag} {M : Addr → Prop} {H : Hp} {a : D} {v : V} {n : String} {r : Bool} {Q : VK} (hn : n ∈ ["int", "bool", "str", "tuple", "list", "dict"]) (e : isTy n a = some r) (ra : rv K M H a v) (q : Q (.bl r) H) : rIsi K [v, .ty n] H Q := by
  have go : ∀ t : String, TyX K H v (.type t) → kitB t n = some r → rIsi K [v, .ty n] H Q := fun t ty k => isi_of ty k q
  simp only [List.mem_cons, List.not_mem_nil, or_false] at hn
  cases a with
  | non =>
    cases e
    obtain rfl := rv_non ra
    refine go "NoneType" (.base .non) ?_
    rcases hn with rfl | rfl | rfl | rfl | rfl | rfl <;> decide +kernel
  | bl b =>
    cases e
    obtain rfl := rv_bl ra
    refine go "bool" (.base (.bl b)) ?_
    rcases hn with rfl | rfl | rfl | rfl | rfl | rfl <;> decide +kernel
  | int i =>
    cases e
    obtain rfl := rv_int ra
    refine go "int" (.base (.int i)) ?_
    rcases hn with rfl | rfl | rfl | rfl | rfl | rfl <;> decide +kernel
  | str x =>
    cases e
    obtain rfl := rv_str ra
    refine go "str" (.base (.str x)) ?_
    rcases hn with rfl | rfl | rfl | rfl | rfl | rfl <;> decide +kernel
  | tup ds =>
    cases e
    obtain ⟨p, vs, rfl, h1, r1⟩ := rv_tup ra
    refine go "tuple" ?_ ?_
    · rcases h1 with h1 | ⟨o, its, n, h1, h2, _⟩
      · exact .base (.tup h1.2)
      · exact .kTuple h1 h2
    · rcases hn with rfl | rfl | rfl | rfl | rfl | rfl <;> decide +kernel
  | lst ds =>
    cases e
    obtain ⟨p, vs, rfl, h1, r1⟩ := ra
    refine go "list" (.base (.lst h1)) ?_
    rcases hn with rfl | rfl | rfl | rfl | rfl | rfl <;> decide +kernel
  | dct ks ds =>
    cases e
    obtain ⟨p, vs, rfl, h1, r1⟩ := ra
    refine go "dict" (.base (.dK h1)) ?_
    rcases hn with rfl | rfl | rfl | rfl | rfl | rfl <;> decide +kernel
  | _ => cases e
theorem isi2_ok {K : PySem.W.Frag} {M : Addr → Prop} {H : Hp} {a : D} {v : V} {n m : String} {r r' : Bool} {Q : VK} (hn : n ∈ ["int", "bool", "str", "tuple", "list", "dict"]) (hm : m ∈ ["int", "bool", "str", "tuple", "list", "dict"]) (e : isTy n a = some r) (e' : isTy m a = some r') (ra : rv K M H a v) :
    ∃ t, TyX K H v t ∧ PySem.W.kitAny K t [.type n, .type m] = some (r || r') := by
  have go : ∀ t : String, TyX K H v (.type t) → kitB t n = some r → kitB t m = some r' → ∃ t, TyX K H v t ∧ PySem.W.kitAny K t [.type n, .type m] = some (r || r') := fun t ty k k' =>
    ⟨_, ty, kitAny_cons (kit_ty k) (fun z => kitAny_cons (r := r || r') (kit_ty k') (fun z' => by rw [z, z']; rfl) fun z' => by rw [z']; simp) fun z => by rw [z]; rfl⟩
  simp only [List.mem_cons, List.not_mem_nil, or_false] at hn hm
  cases a with
  | non =>
    cases e; cases e'
    obtain rfl := rv_non ra
    refine go "NoneType" (.base .non) ?_ ?_
    · rcases hn with rfl | rfl | rfl | rfl | rfl | rfl <;> decide +kernel
    · rcases hm with rfl | rfl | rfl | rfl | rfl | rfl <;> decide +kernel
  | bl b =>
    cases e; cases e'
    obtain rfl := rv_bl ra
    refine go "bool" (.base (.bl b)) ?_ ?_
    · rcases hn with rfl | rfl | rfl | rfl | rfl | rfl <;> decide +kernel
    · rcases hm with rfl | rfl | rfl | rfl | rfl | rfl <;> decide +kernel
  | int i =>
    cases e; cases e'
    obtain rfl := rv_int ra
    refine go "int" (.base (.int i)) ?_ ?_
    · rcases hn with rfl | rfl | rfl | rfl | rfl | rfl <;> decide +kernel
    · rcases hm with rfl | rfl | rfl | rfl | rfl | rfl <;> decide +kernel
  | str x =>
    cases e; cases e'
    obtain rfl := rv_str ra
    refine go "str" (.base (.str x)) ?_ ?_
    · rcases hn with rfl | rfl | rfl | rfl | rfl | rfl <;> decide +kernel
    · rcases hm with rfl | rfl | rfl | rfl | rfl | rfl <;> decide +kernel
  | tup ds =>
    cases e; cases e'
    obtain ⟨p, vs, rfl, h1, r1⟩ := rv_tup ra
    refine go "tuple" ?_ ?_ ?_
    · rcases h1 with h1 | ⟨o, its, n, h1, h2, _⟩
      · exact .base (.tup h1.2)
      · exact .kTuple h1 h2
    · rcases hn with rfl | rfl | rfl | rfl | rfl | rfl <;> decide +kernel
    · rcases hm with rfl | rfl | rfl | rfl | rfl | rfl <;> decide +kernel
  | lst ds =>
    cases e; cases e'
    obtain ⟨p, vs, rfl, h1, r1⟩ := ra
    refine go "list" (.base (.lst h1)) ?_ ?_
    · rcases hn with rfl | rfl | rfl | rfl | rfl | rfl <;> decide +kernel
    · rcases hm with rfl | rfl | rfl | rfl | rfl | rfl <;> decide +kernel
  | dct ks ds =>
    cases e; cases e'
    obtain ⟨p, vs, rfl, h1, r1⟩ := ra
    refine go "dict" (.base (.dK h1)) ?_ ?_
    · rcases hn with rfl | rfl | rfl | rfl | rfl | rfl <;> decide +kernel
    · rcases hm with rfl | rfl | rfl | rfl | rfl | rfl <;> decide +kernel
  | _ => cases e
theorem clr_isi : CallR X (.builtin "isinstance") (rO X.K .isi) := by
  intro pins s σ H xs us Q I r h
  obtain ⟨M, ds, d, al, rs, e, q⟩ := h
  match ds, e with
  | [a, b], e =>
    obtain ⟨v, r', rfl, ra, v2, r2, rfl, rb, rfl⟩ := rs
    replace e : isiD a b = some d := e
    unfold isiD at e
    split at e
    · rename_i n
      split at e
      · rename_i hn
        cases z : isTy n a with
        | none => rw [z] at e; cases e
        | some r =>
          rw [z] at e
          cases e
          have rb : rd X.K M H (.ty n) v2 := rb
          rw [rd] at rb
          subst rb
          exact call_isi pins s σ H _ us Q I r (isi_ok hn z ra (q _ _ .refl rd_bl))
      · cases e
    · rename_i n m
      split at e
      · rename_i hnm
        cases z : isTy n a with
        | none => rw [z] at e; cases e
        | some b1 =>
          cases z' : isTy m a with
          | none => rw [z, z'] at e; cases e
          | some b2 =>
            rw [z, z'] at e
            cases e
            obtain ⟨p, vs, rfl, h1, r1⟩ := rv_tup rb
            rw [rdL] at r1
            obtain ⟨w1, r1', rfl, g1, r1⟩ := r1
            rw [rdL] at r1
            obtain ⟨w2, r2', rfl, g2, r1⟩ := r1
            rw [rdL] at r1
            subst r1
            rw [rd] at g1 g2
            subst g1 g2
            obtain ⟨t, ty, k⟩ := isi2_ok (Q := Q) hnm.1 hnm.2 z z' ra
            rcases h1 with h1 | ⟨o, its, n', h1, h2, h3, _, h5⟩
            · exact call_isiT pins s σ H _ us Q I r ⟨_, _, _, t, _, _, rfl, h1.2, .cons (.ty n) (.cons (.ty m) .nil), ty, k, q _ _ .refl rd_bl⟩
            · obtain ⟨cls, dd, data, sl⟩ := o
              simp only at h2 h3
              subst h2 h3
              obtain ⟨u1, u2, e5, q1, q2⟩ := vals2 h5
              cases q1
              cases q2
              exact call_isiK pins s σ H _ us Q I r ⟨_, _, dd, [.type n, .type m], n', sl, t, _, rfl, by rw [h1, ← e5], ty, k, q _ _ .refl rd_bl⟩
      · cases e
    · cases e
/-- truth -/
theorem tru_rv {K : PySem.W.Frag} {M : Addr → Prop} {H : Hp} {d : D} {v : V} {b : Bool} (e : truD d = some b) (r : rv K M H d v) : TruV K v H b := by
  cases d with
  | non => cases e; rw [rv_non r]; exact rfl
  | bl c => cases e; rw [rv_bl r]; exact rfl
  | int i => cases e; rw [rv_int r]; exact rfl
  | str x =>
    replace e : (if x.length ≤ sizeLine then some ((x.length : Int) != 0) else none) = some b := e
    split at e
    · rename_i hz
      cases e
      rw [rv_str r]
      exact ⟨hz, rfl⟩
    · cases e
  | tup ds =>
    cases e
    obtain ⟨p, vs, rfl, h1, r1⟩ := rv_tup r
    have l := rdL_len r1
    exact .inr (.inl ⟨vs, sqT_of h1, by cases ds <;> cases vs <;> first | rfl | cases l⟩)
  | lst ds =>
    cases e
    obtain ⟨p, vs, rfl, h1, r1⟩ := r
    have l := rdL_len r1
    exact .inl ⟨vs, SqL.of h1, by cases ds <;> cases vs <;> first | rfl | cases l⟩
  | dct ks ds =>
    cases e
    obtain ⟨p, vs, rfl, h1, l1, r1⟩ := r
    have l := rdL_len r1
    refine .inr (.inr ⟨_, h1, ?_⟩)
    cases ks <;> cases vs <;> first | rfl | cases l1
  | _ => cases e
theorem tru_rd {K : PySem.W.Frag} {M : Addr → Prop} {H : Hp} {d : D} {v : V} {b : Bool} (e : truD d = some b) (r : rd K M H d v) : TruV K v H b := tru_rv e (rv_of r)
end
end Ev

set_option Elab.async false
set_option linter.all false
set_option maxRecDepth 100000
set_option maxHeartbeats 4000000
namespace Ev
open PySem PySem.Spec PyProof.Rows L2 He Gw
@[simp] theorem R.ok_bind {α β : Type} {a : α} {e : En} {f : α → En → R β} : (R.ok a e).bind f = f a e := rfl
theorem R.bind_assoc {α β γ : Type} {r : R α} {f : α → En → R β} {g : β → En → R γ} : (r.bind f).bind g = r.bind fun a e => (f a e).bind g := by
  cases r <;> rfl
theorem lift_bind {α β : Type} {o : Option α} {e : En} {f : α → En → R β} : (lift o e).bind f = match o with
    | some a => f a e
    | none => .stuck := by cases o <;> rfl
/-! ### constructs -/
section
variable {X : Cx} {W : WX} {C : Ct} {a b c : Expr} {es : List Expr} {pos : Pos}
abbrev SE (X : Cx) (W : WX) (ast : Expr) (ev : Ev D) : Prop := PE X ast (tE X.K W ev)
abbrev ST (X : Cx) (W : WX) (ast : Expr) (ev : Ev D) : Prop := PT X ast (tT X.K W ev)
abbrev SO (X : Cx) (W : WX) (ast : Expr) (ev : Ev Ov) : Prop := PE X ast (tOd X.K W ev)
abbrev SOs (X : Cx) (W : WX) (asts : List Expr) (ev : Ev (List Ov)) : Prop := PA X asts (tOs X.K W ev)
abbrev SLs (X : Cx) (W : WX) (asts : List Expr) (ev : Ev (List D)) : Prop := PA X asts (tL X.K W ev)
theorem se_here {σ : L2.St} {H : Hp} {Q : VK} {ev : Ev D} {v : V} (d : D) (he : ∀ env, ev env = .ok d env) (r : ∀ M, rd X.K M H d v) (h : tE X.K W ev σ H Q) : Q v H := by
  obtain ⟨B, F, env, k, h⟩ := h
  rw [he] at h
  exact pst_here h k v (r _)
theorem snd_int {i : Int} {j : Nat} : SE X W (.Constant (.int i) j pos) (evE C (.int i)) := pe_int.imp fun σ H Q h => se_here (.int i) (fun _ => rfl) (fun _ => rd_int) h
theorem snd_bl {i : Bool} {j : Nat} : SE X W (.Constant (.bool i) j pos) (evE C (.bl i)) := pe_bl.imp fun σ H Q h => se_here (.bl i) (fun _ => rfl) (fun _ => rd_bl) h
theorem snd_non {j : Nat} : SE X W (.Constant .none j pos) (evE C .non) := pe_non.imp fun σ H Q h => se_here .non (fun _ => rfl) (fun _ => rd_non) h
theorem snd_str {x : Str} {j : Nat} : SE X W (.Constant (.str x) j pos) (evE C (.str x)) := pe_str.imp fun σ H Q h => se_here (.str x) (fun _ => rfl) (fun _ => rd_str) h
theorem getW_some {env : En} {i : Nat} {w : Wv} (h : getW env i = some w) : env[i]? = some (some w) := by
  unfold getW at h
  split at h
  · rename_i w' e
    cases h
    exact e
  · cases h
theorem snd_var {i : Nat} {x : Str} (hN : X.N[i]? = some x) (hv : Vis X.env.scope x) (hd : (x == ("__debug__" : Str)) = false) (hcd : (x == ("__classdict__" : Str)) = false) : SE X W (.Name x pos) (evE C (.var i)) :=
  (pe_var hN hv hd hcd).imp fun σ H Q h => by
    obtain ⟨B, F, env, k, h⟩ := h
    rw [evE] at h
    split at h
    · rename_i d e
      obtain ⟨v, e1, r⟩ := k.at_ i _ (getW_some e)
      rw [rw'] at r
      exact ⟨v, e1, pst_here h k v r.2⟩
    · exact h.elim
theorem snd_own {i : Nat} {x : Str} (hN : X.N[i]? = some x) (hv : Vis X.env.scope x) (hd : (x == ("__debug__" : Str)) = false) (hcd : (x == ("__classdict__" : Str)) = false) : SO X W (.Name x pos) (evOpd C (.own i)) :=
  (pe_var hN hv hd hcd).imp fun σ H Q h => by
    obtain ⟨B, F, env, k, h⟩ := h
    rw [evOpd] at h
    split at h
    · rename_i w e
      obtain ⟨v, e1, r⟩ := k.at_ i _ (getW_some e)
      exact ⟨v, e1, pst_here h k v e1⟩
    · exact h.elim
theorem snd_opd {e : E} (h : SE X W a (evE C e)) : SO X W a (evOpd C (.e e)) := h.imp fun σ H Q h => by
  obtain ⟨B, F, env, k, h⟩ := h
  rw [evOpd] at h
  exact ⟨B, F, env, k, pst_imp (pst_bind h) fun d e F' H' _ _ z v hv => pst_here z.2.2 z.2.1 v hv⟩
theorem ev_op2 {o : Opc} {p q : Opd} : evE C (.op o (.cons p (.cons q .nil))) = ev2 o (evOpd C p) (evOpd C q) := by
  funext env
  rw [evE, evO]
  unfold ev2
  simp only [R.bind_assoc]
  congr 1
  funext x e1
  rw [evO]
  simp only [R.bind_assoc]
  congr 1
theorem snd_bin {o : Opc} {op : Operator} {p q : Opd} (ho : OpR X (binaryOp op) (rO2 X.K o)) (ha : SO X W a (evOpd C p)) (hb : SO X W b (evOpd C q)) : SE X W (.BinOp a op b pos) (evE C (.op o (.cons p (.cons q .nil)))) := by
  rw [ev_op2]
  exact (pe_op ho ha hb).imp fun σ H Q h => two_of h
theorem snd_cmp {o : Opc} {op : CmpOp} {p q : Opd} (ho : OpR X (compareOp op) (rO2 X.K o)) (hm : behindInMarks op b = false) (ha : SO X W a (evOpd C p)) (hb : SO X W b (evOpd C q)) : SE X W (.Compare a [op] [b] pos) (evE C (.op o (.cons p (.cons q .nil)))) := by
  rw [ev_op2]
  exact (pe_cmpR ho ha hb hm).imp fun σ H Q h => two_of h
theorem snd_idx {p q : Opd} (hs : PlainIx b) (ha : SO X W a (evOpd C p)) (hb : SO X W b (evOpd C q)) : SE X W (.Subscript a b pos) (evE C (.op .idx (.cons p (.cons q .nil)))) := by
  rw [ev_op2]
  exact (pe_ix ixr ha hb hs).imp fun σ H Q h => two_of h
/-- a comparison as a test -/
theorem tt_te {ev : Ev D} {σ : L2.St} {H : Hp} {Q : Bool → Hp → Prop} (h : tT X.K W ev σ H Q) : tE X.K W ev σ H fun v H' => ∃ k, TruV X.K v H' k ∧ Q k H' := by
  obtain ⟨B, F, env, k, h⟩ := h
  exact ⟨B, F, env, k, pst_imp h fun d e F' H' _ _ ⟨b, e1, q⟩ v hv => ⟨b, tru_rd e1 hv, q⟩⟩
theorem tt_tb {ev : Ev D} {σ : L2.St} {H : Hp} {Q : Bool → Hp → Prop} (hb : ∀ env d e, ev env = .ok d e → ∃ b, d = .bl b) (h : tT X.K W ev σ H Q) : tE X.K W ev σ H fun v H' => ∃ k, v = .bl k ∧ Q k H' := by
  obtain ⟨B, F, env, k, h⟩ := h
  cases z : ev env with
  | ok d e =>
    obtain ⟨b, rfl⟩ := hb env d e z
    refine ⟨B, F, env, k, ?_⟩
    rw [z] at h ⊢
    intro F' H' s k' v hv
    obtain ⟨b', e1, q⟩ := h F' H' s k'
    cases e1
    rw [rd] at hv
    exact ⟨b, hv, q⟩
  | exc x e => rw [z] at h; exact ⟨B, F, env, k, by rw [z]; exact h⟩
  | stuck => rw [z] at h; exact h.elim
def isCmp : Opc → Bool
  | .eq => true
  | .ne => true
  | .lt => true
  | .le => true
  | .gt => true
  | .ge => true
  | .is_ => true
  | .isnot => true
  | .isin => true
  | .notin => true
  | _ => false
theorem intB_bl {f : Int → Int → Bool} {a b d : D} (e : intB (fun i j => some (.bl (f i j))) a b = some d) : ∃ r, d = .bl r := by
  obtain ⟨i, j, _, _, e⟩ := intB_some e
  cases e
  exact ⟨_, rfl⟩
theorem cmp_bl {o : Opc} {ds : List D} {d : D} (h : isCmp o = true) (e : opD o ds = some d) : ∃ b, d = .bl b := by
  match o, ds, h, e with
  | .eq, [a, b], _, e =>
    replace e : (eqD a b).map D.bl = some d := e
    cases z : eqD a b with
    | none => rw [z] at e; cases e
    | some r => rw [z] at e; cases e; exact ⟨r, rfl⟩
  | .ne, [a, b], _, e =>
    replace e : (eqD a b).map (fun r => D.bl (!r)) = some d := e
    cases z : eqD a b with
    | none => rw [z] at e; cases e
    | some r => rw [z] at e; cases e; exact ⟨!r, rfl⟩
  | .isin, [a, b], _, e =>
    replace e : (isinD a b).map D.bl = some d := e
    cases z : isinD a b with
    | none => rw [z] at e; cases e
    | some r => rw [z] at e; cases e; exact ⟨r, rfl⟩
  | .notin, [a, b], _, e =>
    replace e : (isinD a b).map (fun r => D.bl (!r)) = some d := e
    cases z : isinD a b with
    | none => rw [z] at e; cases e
    | some r => rw [z] at e; cases e; exact ⟨!r, rfl⟩
  | .lt, [a, b], _, e => exact intB_bl (f := fun i j => decide (i < j)) e
  | .le, [a, b], _, e => exact intB_bl (f := fun i j => decide (i ≤ j)) e
  | .gt, [a, b], _, e => exact intB_bl (f := fun i j => decide (j < i)) e
  | .ge, [a, b], _, e => exact intB_bl (f := fun i j => decide (j ≤ i)) e
  | .is_, [a, .non], _, e => cases a <;> cases e <;> exact ⟨_, rfl⟩
  | .is_, [a, .bl b], _, e => cases a <;> cases e <;> exact ⟨_, rfl⟩
  | .isnot, [a, .non], _, e => cases a <;> cases e <;> exact ⟨_, rfl⟩
theorem bind_ok {α β : Type} {r : R α} {f : α → En → R β} {b : β} {e : En} (h : r.bind f = .ok b e) : ∃ a e1, r = .ok a e1 ∧ f a e1 = .ok b e := by
  cases r with
  | ok a e1 => exact ⟨a, e1, rfl, h⟩
  | exc x e1 => cases h
  | stuck => cases h
theorem lift_ok {α : Type} {o : Option α} {a : α} {e e' : En} (h : lift o e = .ok a e') : o = some a ∧ e' = e := by
  cases o with
  | none => cases h
  | some b => cases h; exact ⟨rfl, rfl⟩
theorem snd_cmpT {o : Opc} {op : CmpOp} {p q : Opd} (ho : OpR X (compareOp op) (rO2 X.K o)) (hc : isCmp o = true) (hm : behindInMarks op b = false) (ha : SO X W a (evOpd C p)) (hb : SO X W b (evOpd C q)) : ST X W (.Compare a [op] [b] pos) (evE C (.op o (.cons p (.cons q .nil)))) := by
  rw [ev_op2]
  refine (pt_cmpR ho ha hb hm).imp fun σ H Q h => two_of (tt_tb (fun env d e z => ?_) h)
  obtain ⟨x, e1, _, z⟩ := bind_ok z
  obtain ⟨y, e2, _, z⟩ := bind_ok z
  obtain ⟨z, _⟩ := lift_ok z
  cases w : resO e2 [x, y] with
  | none => rw [w] at z; cases z
  | some ds => rw [w] at z; exact cmp_bl hc z
/-- what is tested by its value's truth alone -/
def plainA : Expr → Bool
  | .UnaryOp .Not _ _ => false
  | .BoolOp _ _ _ => false
  | .IfExp _ _ _ _ => false
  | .Compare _ _ _ _ => false
  | _ => true
theorem plainA_of {ast : Expr} {env : Env} (h : plainA ast = true) (whole : Sem Value) : isTrue ast env whole = (do let v ← whole; standAt ast.pos; holding [v] (truthy v)) := by
  cases ast with
  | UnaryOp op x p => cases op <;> first | rfl | cases h
  | BoolOp _ _ _ => cases h
  | IfExp _ _ _ _ => cases h
  | Compare _ _ _ _ => cases h
  | _ => rfl
theorem snd_truth {ev : Ev D} (hp : plainA a = true) (h : SE X W a ev) : ST X W a ev := (pt_truth h (plainA_of hp)).imp fun σ H Q h => tt_te h
/-! ### not, and, or, a if c else b -/
theorem snd_not {e : E} (h : SE X W a (evE C e)) : SE X W (.UnaryOp .Not a pos) (evE C (.not e)) := (pe_notT h).imp fun σ H Q h => by
  obtain ⟨B, F, env, k, h⟩ := h
  rw [evE] at h
  refine ⟨B, F, env, k, pst_imp (pst_bind h) fun d e F' H' _ _ z v hv => ?_⟩
  obtain ⟨_, k', z⟩ := z
  obtain ⟨r, e1, z⟩ := pst_lift z
  cases w : truD d with
  | none => rw [w] at e1; cases e1
  | some b =>
    rw [w] at e1
    cases e1
    exact ⟨b, tru_rd w hv, pst_here z k' _ rd_bl⟩
theorem snd_notT {e : E} (h : ST X W a (evE C e)) : ST X W (.UnaryOp .Not a pos) (evE C (.not e)) := (pt_not h).imp fun σ H Q h => by
  obtain ⟨B, F, env, k, h⟩ := h
  rw [evE] at h
  refine ⟨B, F, env, k, pst_imp (pst_bind h) fun d e F' H' _ _ z => ?_⟩
  obtain ⟨_, k', z⟩ := z
  obtain ⟨r, e1, z⟩ := pst_lift z
  cases w : truD d with
  | none => rw [w] at e1; cases e1
  | some b =>
    rw [w] at e1
    cases e1
    obtain ⟨b', e2, q⟩ := pst_here z k'
    cases e2
    exact ⟨b, rfl, q⟩
theorem snd_and {e f : E} (h : SE X W a (evE C e)) (h' : SE X W (.BoolOp .And (b :: es) pos) (evE C f)) : SE X W (.BoolOp .And (a :: b :: es) pos) (evE C (.and e f)) := (pe_andT h h').imp fun σ H Q h => by
  obtain ⟨B, F, env, k, h⟩ := h
  rw [evE] at h
  refine ⟨B, F, env, k, pst_imp (pst_bind h) fun d e F' H' _ _ z v hv => ?_⟩
  obtain ⟨_, k', z⟩ := z
  cases w : truD d with
  | none => rw [w] at z; exact z.elim
  | some c =>
    rw [w] at z
    refine ⟨c, tru_rd w hv, ?_⟩
    cases c with
    | true => exact ⟨B, F', e, k', z⟩
    | false => exact pst_here z k' v hv
theorem snd_or {e f : E} (h : SE X W a (evE C e)) (h' : SE X W (.BoolOp .Or (b :: es) pos) (evE C f)) : SE X W (.BoolOp .Or (a :: b :: es) pos) (evE C (.or e f)) := (pe_orT h h').imp fun σ H Q h => by
  obtain ⟨B, F, env, k, h⟩ := h
  rw [evE] at h
  refine ⟨B, F, env, k, pst_imp (pst_bind h) fun d e F' H' _ _ z v hv => ?_⟩
  obtain ⟨_, k', z⟩ := z
  cases w : truD d with
  | none => rw [w] at z; exact z.elim
  | some c =>
    rw [w] at z
    refine ⟨c, tru_rd w hv, ?_⟩
    cases c with
    | false => exact ⟨B, F', e, k', z⟩
    | true => exact pst_here z k' v hv
theorem snd_one {op : BoolOp} {e : E} (h : SE X W a (evE C e)) : SE X W (.BoolOp op [a] pos) (evE C (.one e)) := (pe_one h).imp fun σ H Q h => by
  obtain ⟨B, F, env, k, h⟩ := h
  rw [evE] at h
  exact ⟨B, F, env, k, h⟩
abbrev SW (X : Cx) (W : WX) (ast : Expr) (ev : Ev D) : Prop := PW X ast (tT X.K W ev)
theorem snd_andT {e f : E} (h : ST X W a (evE C e)) (h' : SW X W (.BoolOp .And (b :: es) pos) (evE C f)) : SW X W (.BoolOp .And (a :: b :: es) pos) (evE C (.and e f)) := (pw_and h h').imp fun σ H Q h => by
  obtain ⟨B, F, env, k, h⟩ := h
  rw [evE] at h
  refine ⟨B, F, env, k, pst_imp (pst_bind h) fun d e F' H' _ _ z => ?_⟩
  obtain ⟨_, k', z⟩ := z
  cases w : truD d with
  | none => rw [w] at z; exact z.elim
  | some c =>
    rw [w] at z
    refine ⟨c, rfl, ?_⟩
    cases c with
    | true => exact ⟨B, F', e, k', z⟩
    | false =>
      obtain ⟨b', e2, q⟩ := pst_here z k'
      rw [w] at e2
      cases e2
      exact q
theorem snd_orT {e f : E} (h : ST X W a (evE C e)) (h' : SW X W (.BoolOp .Or (b :: es) pos) (evE C f)) : SW X W (.BoolOp .Or (a :: b :: es) pos) (evE C (.or e f)) := (pw_or h h').imp fun σ H Q h => by
  obtain ⟨B, F, env, k, h⟩ := h
  rw [evE] at h
  refine ⟨B, F, env, k, pst_imp (pst_bind h) fun d e F' H' _ _ z => ?_⟩
  obtain ⟨_, k', z⟩ := z
  cases w : truD d with
  | none => rw [w] at z; exact z.elim
  | some c =>
    rw [w] at z
    refine ⟨c, rfl, ?_⟩
    cases c with
    | false => exact ⟨B, F', e, k', z⟩
    | true =>
      obtain ⟨b', e2, q⟩ := pst_here z k'
      rw [w] at e2
      cases e2
      exact q
theorem snd_oneT {op : BoolOp} {e : E} (h : ST X W a (evE C e)) : SW X W (.BoolOp op [a] pos) (evE C (.one e)) := by
  have hi : ∀ σ H Q, tT X.K W (evE C (.one e)) σ H Q → tT X.K W (evE C e) σ H Q := fun σ H Q h => by
    obtain ⟨B, F, env, k, h⟩ := h
    rw [evE] at h
    exact ⟨B, F, env, k, h⟩
  cases op
  · exact (pw_and1 h).imp hi
  · exact (pw_or1 h).imp hi
theorem snd_ite {e f g : E} (hc : ST X W c (evE C e)) (ha : SE X W a (evE C f)) (hb : SE X W b (evE C g)) : SE X W (.IfExp c a b pos) (evE C (.ite e f g)) := (pe_ifExp hc ha hb).imp fun σ H Q h => by
  obtain ⟨B, F, env, k, h⟩ := h
  rw [evE] at h
  refine ⟨B, F, env, k, pst_imp (pst_bind h) fun d e F' H' _ _ z => ?_⟩
  obtain ⟨_, k', z⟩ := z
  cases w : truD d with
  | none => rw [w] at z; exact z.elim
  | some c =>
    rw [w] at z
    refine ⟨c, rfl, ?_⟩
    cases c with
    | true => exact ⟨B, F', e, k', z⟩
    | false => exact ⟨B, F', e, k', z⟩
/-! ### lists of parts -/
theorem snd_nilL : SLs X W [] (evL C .nil) := pa_nil.imp fun σ H Q h => by
  obtain ⟨B, F, env, k, h⟩ := h
  rw [evL] at h
  exact pst_here h k [] (by rw [rdL])
theorem snd_consL {e : E} {r : EL} (hs : starEach (a :: es) X.env = (false, eval a X.env) :: starEach es X.env) (ha : SE X W a (evE C e)) (hr : SLs X W es (evL C r)) : SLs X W (a :: es) (evL C (.cons e r)) := (pa_cons ha hr hs).imp fun σ H Q h => by
  obtain ⟨B, F, env, k, h⟩ := h
  rw [evL] at h
  refine ⟨B, F, env, k, pst_imp (pst_bind h) fun d e1 F1 H1 _ _ z v hv => ?_⟩
  obtain ⟨_, k1, z⟩ := z
  refine ⟨B, F1, e1, k1, pst_imp (pst_bind z) fun ds e2 F2 H2 s2 _ z vs hvs => ?_⟩
  obtain ⟨_, k2, z⟩ := z
  exact pst_here z k2 (v :: vs) (by rw [rdL]; exact ⟨v, vs, rfl, s2.rd hv, hvs⟩)
theorem snd_starS {e : E} {r : StL} {p0 : Pos} (hs : starEach (.Starred a p0 :: es) X.env = (true, eval a X.env) :: starEach es X.env) (ha : SE X W a (evE C e)) (hr : SLs X W es (evSt C r)) : SLs X W (.Starred a p0 :: es) (evSt C (.star e r)) := (StX.pa_star ha hr hs).imp fun σ H Q h => by
  obtain ⟨B, F, env, k, h⟩ := h
  rw [evSt] at h
  refine ⟨B, F, env, k, pst_imp (pst_bind h) fun d e1 F1 H1 _ _ z v hv => ?_⟩
  obtain ⟨_, k1, z⟩ := z
  cases q : seqI d with
  | none => rw [q] at z; exact z.elim
  | some xs =>
    rw [q] at z
    replace z : pst X.K W B σ F1 H1 _ ((evSt C r e1).bind fun ds env3 => .ok (xs ++ ds) env3) := z
    obtain ⟨p, vs, rfl, hq, hr2⟩ : ∃ p vs, v = .ref p ∧ (SqT X.K H1 p vs ∨ SqL X.K H1 p vs) ∧ rdL X.K (av B F1) H1 xs vs := by
      cases d with
      | lst ds =>
        cases q
        rw [rd] at hv
        obtain ⟨p, vs, rfl, h1, h2⟩ := hv
        exact ⟨p, vs, rfl, .inr (SqL.of h1.2), h2⟩
      | tup ds =>
        cases q
        rw [rd] at hv
        obtain ⟨p, vs, rfl, h1, h2⟩ := hv
        exact ⟨p, vs, rfl, .inl (sqT_of h1), h2⟩
      | _ => cases q
    refine ⟨p, vs, rfl, hq, B, F1, e1, k1, pst_imp (pst_bind z) fun ds e2 F2 H2 s2 _ z us hus => ?_⟩
    obtain ⟨_, k2, z⟩ := z
    exact pst_here z k2 (vs ++ us) (rdL_app (s2.rdL hr2) hus)
theorem snd_nilS : SLs X W [] (evSt C .nil) := pa_nil.imp fun σ H Q h => by
  obtain ⟨B, F, env, k, h⟩ := h
  rw [evSt] at h
  exact pst_here h k [] (by rw [rdL])
theorem snd_consS {e : E} {r : StL} (hs : starEach (a :: es) X.env = (false, eval a X.env) :: starEach es X.env) (ha : SE X W a (evE C e)) (hr : SLs X W es (evSt C r)) : SLs X W (a :: es) (evSt C (.cons e r)) := (pa_cons ha hr hs).imp fun σ H Q h => by
  obtain ⟨B, F, env, k, h⟩ := h
  rw [evSt] at h
  refine ⟨B, F, env, k, pst_imp (pst_bind h) fun d e1 F1 H1 _ _ z v hv => ?_⟩
  obtain ⟨_, k1, z⟩ := z
  refine ⟨B, F1, e1, k1, pst_imp (pst_bind z) fun ds e2 F2 H2 s2 _ z vs hvs => ?_⟩
  obtain ⟨_, k2, z⟩ := z
  exact pst_here z k2 (v :: vs) (by rw [rdL]; exact ⟨v, vs, rfl, s2.rd hv, hvs⟩)
theorem snd_dispT {r : StL} {n : Nat} (h : SLs X W es (evSt C r)) : SE X W (.Tuple es n pos) (evE C (.disp true r)) := (pe_tup h).imp fun σ H Q h => by
  obtain ⟨B, F, env, k, h⟩ := h
  rw [evE] at h
  refine ⟨B, F, env, k, pst_imp (pst_bind h) fun ds e1 F1 H1 _ _ z vs hvs => ?_⟩
  obtain ⟨_, k1, z⟩ := z
  split at z
  · rename_i hz
    refine ⟨by rw [← rdL_len hvs]; exact hz, fun p hp => ?_⟩
    exact z F1 _ (Stp.upd hp) (k1.grow (grow_upd hp)) _ (new_tup k1.there hp hvs)
  · exact z.elim
theorem snd_dispL {r : StL} (h : SLs X W es (evSt C r)) : SE X W (.List es pos) (evE C (.disp false r)) := (pe_lst h).imp fun σ H Q h => by
  obtain ⟨B, F, env, k, h⟩ := h
  rw [evE] at h
  refine ⟨B, F, env, k, pst_imp (pst_bind h) fun ds e1 F1 H1 _ _ z vs hvs => ?_⟩
  obtain ⟨_, k1, z⟩ := z
  split at z
  · rename_i hz
    refine ⟨by rw [← rdL_len hvs]; exact hz, fun p hp => ?_⟩
    exact z F1 _ (Stp.upd hp) (k1.grow (grow_upd hp)) _ (new_lst k1.there hp hvs)
  · exact z.elim
theorem snd_nilO : SOs X W [] (evO C .nil) := pa_nil.imp fun σ H Q h => by
  obtain ⟨B, F, env, k, h⟩ := h
  rw [evO] at h
  exact pst_here h k [] rfl
theorem snd_consO {o : Opd} {r : OL} (hs : starEach (a :: es) X.env = (false, eval a X.env) :: starEach es X.env) (ha : SO X W a (evOpd C o)) (hr : SOs X W es (evO C r)) : SOs X W (a :: es) (evO C (.cons o r)) := (pa_cons ha hr hs).imp fun σ H Q h => by
  obtain ⟨B, F, env, k, h⟩ := h
  rw [evO] at h
  refine ⟨B, F, env, k, pst_imp (pst_bind h) fun d e1 F1 H1 _ _ z v hv => ?_⟩
  obtain ⟨_, k1, z⟩ := z
  refine ⟨B, F1, e1, k1, pst_imp (pst_bind z) fun ds e2 F2 H2 s2 _ z vs hvs => ?_⟩
  obtain ⟨_, k2, z⟩ := z
  exact pst_here z k2 (v :: vs) ⟨v, vs, rfl, ov_stp s2 hv, hvs⟩
theorem snd_tup {r : EL} {n : Nat} (h : SLs X W es (evL C r)) : SE X W (.Tuple es n pos) (evE C (.tup r)) := (pe_tup h).imp fun σ H Q h => by
  obtain ⟨B, F, env, k, h⟩ := h
  rw [evE] at h
  refine ⟨B, F, env, k, pst_imp (pst_bind h) fun ds e1 F1 H1 _ _ z vs hvs => ?_⟩
  obtain ⟨_, k1, z⟩ := z
  split at z
  · rename_i hz
    refine ⟨by rw [← rdL_len hvs]; exact hz, fun p hp => ?_⟩
    exact z F1 _ (Stp.upd hp) (k1.grow (grow_upd hp)) _ (new_tup k1.there hp hvs)
  · exact z.elim
theorem snd_lst {r : EL} (h : SLs X W es (evL C r)) : SE X W (.List es pos) (evE C (.lst r)) := (pe_lst h).imp fun σ H Q h => by
  obtain ⟨B, F, env, k, h⟩ := h
  rw [evE] at h
  refine ⟨B, F, env, k, pst_imp (pst_bind h) fun ds e1 F1 H1 _ _ z vs hvs => ?_⟩
  obtain ⟨_, k1, z⟩ := z
  split at z
  · rename_i hz
    refine ⟨by rw [← rdL_len hvs]; exact hz, fun p hp => ?_⟩
    exact z F1 _ (Stp.upd hp) (k1.grow (grow_upd hp)) _ (new_lst k1.there hp hvs)
  · exact z.elim
/-- a built-in's call -/
theorem ops_of {o : Opc} {as : OL} {σ : L2.St} {H : Hp} {Q : VK} (h : tE X.K W (evE C (.op o as)) σ H Q) : tOs X.K W (evO C as) σ H fun vs H1 => rO X.K o vs H1 Q := by
  obtain ⟨B, F, env, k, h⟩ := h
  rw [evE] at h
  refine ⟨B, F, env, k, pst_imp (pst_bind h) fun os e1 F1 H1 _ _ z vs hvs => ?_⟩
  exact rO_of z.2.1 hvs z.2.2
theorem snd_callB {o : Opc} {as : OL} {id : String} {x : Str} {p : Pos} (hc : CallR X (.builtin id) (rO X.K o)) (hg : Gl X x) (hm : X.mg x = none) (hv : bootBuiltins x = some (.builtin id)) (hn : x ≠ "__name__") (hdb : (x == ("__debug__" : Str)) = false)
    (he : starEach (a :: es) X.env = (false, eval a X.env) :: starEach es X.env) (hpl : (backTo pos (starEach es X.env)).any (·.1) = false) (ha : SOs X W (a :: es) (evO C as)) : SE X W (.Call (.Name x p) (a :: es) [] pos) (evE C (.op o as)) :=
  (pe_callB hc hg hm hv ha hn hdb he hpl).imp fun σ H Q h => ops_of h
theorem snd_callT {o : Opc} {as : OL} {id : String} {x : Str} {p : Pos} (hc : CallR X (.type id) (rO X.K o)) (hg : Gl X x) (hm : X.mg x = none) (hv : bootBuiltins x = some (.type id)) (hn : x ≠ "__name__") (hdb : (x == ("__debug__" : Str)) = false)
    (he : starEach (a :: es) X.env = (false, eval a X.env) :: starEach es X.env) (hpl : (backTo pos (starEach es X.env)).any (·.1) = false) (ha : SOs X W (a :: es) (evO C as)) : SE X W (.Call (.Name x p) (a :: es) [] pos) (evE C (.op o as)) :=
  (pe_callTy hc hg hm hv ha hn hdb he hpl).imp fun σ H Q h => ops_of h
end
end Ev

set_option Elab.async false
set_option linter.all false
set_option maxRecDepth 100000
set_option maxHeartbeats 4000000
namespace Ev
open PySem PySem.Spec PyProof.Rows L2 He Gw
/-! ### a def's promise, by what cal says of it -/
def pres (K : PySem.W.Frag) (B : Addr → Prop) (n : Nat) (vs : List V) (F : Fp) (H : Hp) (Q : VK) (E : XK) : CRes → Prop
  | .ok r outs => outs.length = n ∧ ∀ F' H' v, Stp F H F' H' → Ok K B F' H' (vs.map some ++ [some v]) (outs.map some ++ [some r]) → Q v H'
  | .exc x outs => outs.length = n ∧ ∀ F' H' cls dx, Stp F H F' H' → Ok K B F' H' (vs.map some) (outs.map some) → XR K (av B F') H' x cls dx → E cls dx H'
  | .stuck => False
def spE (K : PySem.W.Frag) (cal : List Wv → CRes) (n : Nat) : Sp := fun vs H Q E => vs.length = n ∧ ∃ B F ws, ws.length = n ∧ Ok K B F H (vs.map some) (ws.map some) ∧ (∀ i, n ≤ i → F i = []) ∧ pres K B n vs F H Q E (cal ws)
/-! ### a call's rules where no guard stands -/
section
variable {X : Cx} {CX : CXT} {k : Nat} {f C : Addr} {fd : FuncData} {ps : List Str} {sp : Sp} {E : L2.St → XK} {x m : Str} {p pos apos : Pos} {e o : Expr} {es : List Expr} {ta : TE} {t : TA}
theorem run_fnG {pins : List (Addr × Obj)} {σ : L2.St} {H : Hp} {s : Shared} {Q : VK} {us : List Value} {vs : List V} (F : FnG X.prog X.w X.K X.mg X.base CX k f fd ps sp) (hg : X.A.guards = some []) (hr : Room k X.A) (hb : Binds X.K fd ps []) (hx : PassesAt CX X σ (E σ))
    (I : Inv X pins σ H s) (r : Vals vs us) (h : sp vs H Q (E σ)) : wpAny (model X.prog X.w) X.A (call (.ref f) us) (EP X pins σ Q) X.xe s := by
  have hl : (us ++ []).length = ps.length := by rw [List.append_nil, ← r.length]; exact F.len _ _ _ _ h
  have hB := hb s us I.kIn hl
  rw [List.append_nil] at hB
  refine wpAny_call (codeAny_mono (F.run X.A X.stack s H ⟨us, []⟩ us vs Q (E σ) hg hr I.env0 hB r h) fun r s' hq => ?_)
  cases r with
  | error e => exact hx pins H s e s' I hq
  | ok fl =>
    cases fl with
    | ret u => exact I.after hq
    | next => exact False.elim hq
    | brk => exact False.elim hq
    | cont => exact False.elim hq
theorem pe_callG (F : FnG X.prog X.w X.K X.mg X.base CX k f fd ps sp) (hgd : X.A.guards = some []) (hr : Room k X.A) (hg : Gl X x) (hm : X.mg x = some (.ref f)) (hk : PySem.W.keepIn X.K (.ref f) = true) (hb : Binds X.K fd ps []) (hx : ∀ σ, PassesAt CX X σ (E σ))
    (ha : PA X (e :: es) t) (hdb : (x == ("__debug__" : Str)) = false) (he : starEach (e :: es) X.env = (false, eval e X.env) :: starEach es X.env) (hpl : (backTo pos (starEach es X.env)).any (·.1) = false) :
    PE X (.Call (.Name x p) (e :: es) [] pos) (tCallS sp E t) := by
  refine ⟨fun pins s σ H Q I h => ?_⟩
  refine wpAny_Call_Name_kw (ld_glob I hg hm ?_ hdb)
  refine PySem.W.callWith_K (h₀ := X.base) I.ok.mod.kin hk (thn (ha.run pos pins s σ H _ I h) fun us s1 ⟨vs, H1, I1, r, q⟩ => ⟨I1.kIn, ?_⟩) he hpl
  exact run_fnG F hgd hr hb (hx σ) I1 r q
theorem pe_callG0 (F : FnG X.prog X.w X.K X.mg X.base CX k f fd ps sp) (hgd : X.A.guards = some []) (hr : Room k X.A) (hg : Gl X x) (hm : X.mg x = some (.ref f)) (hk : PySem.W.keepIn X.K (.ref f) = true) (hb : Binds X.K fd ps []) (hx : ∀ σ, PassesAt CX X σ (E σ))
    (hdb : (x == ("__debug__" : Str)) = false) : PE X (.Call (.Name x p) [] [] pos) (tCallS sp E tNil) := by
  refine ⟨fun pins s σ H Q I h => ?_⟩
  refine wpAny_Call_Name_kw (ld_glob I hg hm ?_ hdb)
  exact PySem.W.callWith_K0 I.kIn hk (run_fnG (us := []) F hgd hr hb (hx σ) I .nil h)
/-- o.m(..): o an instance of one's own class -/
def tMethG (D : Addr) (mm : Str) (sp : Sp) (E : L2.St → XK) (to : TE) (t : TA) : TE := fun σ H Q => to σ H fun x H1 => ∃ a dx fs, x = .ref a ∧ H1 a = some (.ins D dx fs) ∧ fs.lookup mm = none ∧ t σ H1 fun vs H2 => sp (x :: vs) H2 Q (E σ)
theorem pe_methG {o : Expr} {D : Addr} {mm : Str} {to : TE} {apos : Pos} {pl : Sem Bool} (ho : PE X o to) (c : Cls X.K D) (hm : Meth X.K D mm f) (F : FnG X.prog X.w X.K X.mg X.base CX k f fd ps sp) (hgd : X.A.guards = some []) (hr : Room k X.A) (hb : Binds X.K fd ps []) (hx : ∀ σ, PassesAt CX X σ (E σ)) (ha : PA X (e :: es) t)
    (he : starEach (e :: es) X.env = (false, eval e X.env) :: starEach es X.env) (hpl : (backTo pos (starEach es X.env)).any (·.1) = false)
    (ht : eval (.Call (.Attribute o mm apos) (e :: es) [] pos) X.env = (do
      let ov ← eval o X.env
      standAt apos.atName
      let (g, first) ← holding [ov] (getMethod ov mm pl)
      callWith pos g first (backTo pos (starEach (e :: es) X.env)) (backToKw pos (keywordEach [] X.env)))) : PE X (.Call (.Attribute o mm apos) (e :: es) [] pos) (tMethG D mm sp E to t) := by
  refine ⟨fun pins s σ H Q I h => PySem.W.methodCall_KW (pl := pl) (thn (ho.run pins s σ H _ I h) fun u s1 ⟨x, H1, I1, rx, a, dx, fs, ex, ea, l, q⟩ => ?_) ht⟩
  subst ex
  cases (show u = Value.ref a from rx)
  refine getmeth_ok I1 ea c hm l (PySem.W.callWith_K (first := [.ref a]) (h₀ := X.base) I.ok.mod.kin hm.kp (thn (ha.run pos pins s1 σ H1 _ I1 q) fun us s2 ⟨vs, H2, I2, r, q2⟩ => ⟨I2.kIn, ?_⟩) he hpl)
  exact run_fnG (us := .ref a :: us) (vs := .ref a :: vs) F hgd hr hb (hx σ) I2 (.cons rfl r) q2
theorem pe_methG0 {o : Expr} {D : Addr} {mm : Str} {to : TE} {apos : Pos} {pl : Sem Bool} (ho : PE X o to) (c : Cls X.K D) (hm : Meth X.K D mm f) (F : FnG X.prog X.w X.K X.mg X.base CX k f fd ps sp) (hgd : X.A.guards = some []) (hr : Room k X.A) (hb : Binds X.K fd ps []) (hx : ∀ σ, PassesAt CX X σ (E σ))
    (ht : eval (.Call (.Attribute o mm apos) [] [] pos) X.env = (do
      let ov ← eval o X.env
      standAt apos.atName
      let (g, first) ← holding [ov] (getMethod ov mm pl)
      callWith pos g first (backTo pos (starEach [] X.env)) (backToKw pos (keywordEach [] X.env)))) : PE X (.Call (.Attribute o mm apos) [] [] pos) (tMethG D mm sp E to tNil) := by
  refine ⟨fun pins s σ H Q I h => PySem.W.methodCall_KW (pl := pl) (thn (ho.run pins s σ H _ I h) fun u s1 ⟨x, H1, I1, rx, a, dx, fs, ex, ea, l, q⟩ => ?_) ht⟩
  subst ex
  cases (show u = Value.ref a from rx)
  exact getmeth_ok I1 ea c hm l (PySem.W.callWith_K0 (first := [.ref a]) I1.kIn hm.kp (run_fnG (us := [.ref a]) (vs := [.ref a]) F hgd hr hb (hx σ) I1 (.cons rfl .nil) q))
end
/-! ### sets of places -/
section
variable {K : PySem.W.Frag} {M M' : Addr → Prop} {H : Hp}
theorem Stay.less (h : ∀ a, M' a → M a) : Stay M H M' H := ⟨fun _ _ _ e => e, fun a e => .inl (h a e)⟩
theorem rw_less {w : Wv} {v : V} {fp : List Addr} (h : ∀ a, M' a → M a) (r : rw' K M H w v fp) : rw' K M' H w v fp := rw_stay (Stay.less h) w v fp (fun _ _ => rfl) r
theorem rd_less {d : D} {v : V} (h : ∀ a, M' a → M a) (r : rd K M H d v) : rd K M' H d v := rd_stay (Stay.less h) d v r
theorem rdL_less {d : List D} {v : List V} (h : ∀ a, M' a → M a) (r : rdL K M H d v) : rdL K M' H d v := rdL_stay (Stay.less h) d v r
theorem Ok.less {B B' : Addr → Prop} {F : Fp} {σ : L2.St} {env : En} (k : Ok K B F H σ env) (h : ∀ a, B' a → B a) : Ok K B' F H σ env :=
  ⟨k.len, fun i w e => let ⟨v, e1, r⟩ := k.at_ i w e; ⟨v, e1, rw_less (fun a z => z.imp (h a) id) r⟩, k.nd, k.dj, fun a z => k.there a (z.imp (h a) id), fun a z => k.sep a (h a z)⟩
theorem Stp.from_ {F F1 : Fp} {H H1 : Hp} (s : Stp F H F1 H1) {a : Addr} (h : inF F1 a ∨ H1 a = none) : inF F a ∨ H a = none := by
  rcases h with h | h
  · exact s.new a h
  · by_cases n : inF F a
    · exact .inl n
    · cases e : H a with
      | none => exact .inr rfl
      | some o => rw [s.keep a o n e] at h; cases h
theorem XR.less {x : Xc} {cls : Value} {dx : Option Addr} (h : ∀ a, M' a → M a) (r : XR K M H x cls dx) : XR K M' H x cls dx := by
  obtain ⟨e, r⟩ := r
  refine ⟨e, r.imp id fun ⟨d, vs, e1, e2, e3, r⟩ => ⟨d, vs, e1, e2, e3, rdL_less h r⟩⟩
mutual
/-- an own object let go of: data -/
theorem frz_rd (h : ∀ a, M' a → M a) : ∀ (w : Wv) (v : V) (fp : List Addr) (d : D), (∀ a ∈ fp, ¬ M' a) → rw' K M H w v fp → frz w = some d → rd K M' H d v
  | .fz d, _, _, _, _, r, e => by
    rw [rw'] at r
    rw [frz] at e
    cases e
    exact rd_less h r.2
  | .ol ds, _, _, _, n, r, e => by
    rw [rw'] at r
    rw [frz] at e
    cases e
    obtain ⟨a, vs, rfl, rfl, e1, r⟩ := r
    rw [rd]
    exact ⟨a, vs, rfl, ⟨n a List.mem_cons_self, e1⟩, rdL_less h r⟩
  | .od ks ds, _, _, _, n, r, e => by
    rw [rw'] at r
    rw [frz] at e
    cases e
    obtain ⟨a, vs, rfl, rfl, e1, l, r⟩ := r
    rw [rd]
    exact ⟨a, vs, rfl, ⟨n a List.mem_cons_self, e1⟩, l, rdL_less h r⟩
  | .oi c ks ws, _, _, _, n, r, e => by
    rw [rw'] at r
    rw [frz] at e
    obtain ⟨a, dx, vs, fq, rfl, rfl, e1, l, r⟩ := r
    cases q : frzL ws with
    | none => rw [q] at e; cases e
    | some ds =>
      rw [q] at e
      cases e
      rw [rd]
      exact ⟨a, dx, vs, rfl, ⟨n a List.mem_cons_self, e1⟩, l, frzL_rd h ws vs fq ds (fun b hb => n b (List.mem_cons_of_mem _ hb)) r q⟩
  | .ow ws, _, _, _, n, r, e => by
    rw [rw'] at r
    rw [frz] at e
    obtain ⟨a, vs, fq, rfl, rfl, e1, r⟩ := r
    cases q : frzL ws with
    | none => rw [q] at e; cases e
    | some ds =>
      rw [q] at e
      cases e
      rw [rd]
      exact ⟨a, vs, rfl, ⟨n a List.mem_cons_self, e1⟩, frzL_rd h ws vs fq ds (fun b hb => n b (List.mem_cons_of_mem _ hb)) r q⟩
theorem frzL_rd (h : ∀ a, M' a → M a) : ∀ (ws : List Wv) (vs : List V) (fp : List Addr) (ds : List D), (∀ a ∈ fp, ¬ M' a) → rwL K M H ws vs fp → frzL ws = some ds → rdL K M' H ds vs
  | [], _, _, _, _, r, e => by
    rw [rwL] at r
    rw [frzL] at e
    cases e
    obtain ⟨rfl, _⟩ := r
    rw [rdL]
  | w :: ws, _, _, _, n, r, e => by
    rw [rwL] at r
    rw [frzL] at e
    obtain ⟨v, r', f1, f2, rfl, rfl, h1, h2⟩ := r
    cases q : frz w with
    | none => rw [q] at e; cases e
    | some d =>
      cases q2 : frzL ws with
      | none => rw [q, q2] at e; cases e
      | some ds =>
        rw [q, q2] at e
        cases e
        rw [rdL]
        exact ⟨v, r', rfl, frz_rd h w v f1 d (fun a ha => n a (List.mem_append_left _ ha)) h1 q, frzL_rd h ws r' f2 ds (fun a ha => n a (List.mem_append_right _ ha)) h2 q2⟩
end
end
/-! ### what is passed -/
def Fc (F : Fp) (os : List Ov) : Fp := fun j => match os[j]? with
  | some (.inr s) => F s
  | _ => []
def Bc (B : Addr → Prop) (F : Fp) (os : List Ov) (a : Addr) : Prop := B a ∨ ∃ i, i ∉ slots os ∧ a ∈ F i
/-- where slot i is passed -/
def posO : List Ov → Nat → Option Nat
  | [], _ => none
  | .inl _ :: os, i => (posO os i).map (· + 1)
  | .inr s :: os, i => if s = i then some 0 else (posO os i).map (· + 1)
theorem mem_slots : ∀ {os : List Ov} {i : Nat}, i ∈ slots os ↔ ∃ j : Nat, os[j]? = some (Sum.inr i)
  | [], i => by simp [slots]
  | .inl d :: os, i => by
    show i ∈ slots os ↔ _
    rw [mem_slots]
    constructor
    · rintro ⟨j, h⟩; exact ⟨j + 1, by simpa using h⟩
    · rintro ⟨j, h⟩
      cases j with
      | zero => simp at h
      | succ j => exact ⟨j, by simpa using h⟩
  | .inr s :: os, i => by
    show i ∈ s :: slots os ↔ _
    rw [List.mem_cons, mem_slots]
    constructor
    · rintro (rfl | ⟨j, h⟩)
      · exact ⟨0, rfl⟩
      · exact ⟨j + 1, by simpa using h⟩
    · rintro ⟨j, h⟩
      cases j with
      | zero => simp at h; exact .inl h.symm
      | succ j => exact .inr ⟨j, by simpa using h⟩
theorem slot_one : ∀ {os : List Ov} {i j j' : Nat}, (slots os).Nodup → os[j]? = some (.inr i) → os[j']? = some (.inr i) → j = j'
  | [], _, _, _, _, h, _ => by simp at h
  | .inl d :: os, i, 0, _, _, h, _ => by simp at h
  | .inl d :: os, i, _ + 1, 0, _, _, h => by simp at h
  | .inl d :: os, i, j + 1, j' + 1, n, h, h' => congrArg (· + 1) (slot_one (os := os) n (i := i) (by simpa using h) (by simpa using h'))
  | .inr s :: os, i, 0, 0, _, _, _ => rfl
  | .inr s :: os, i, 0, j' + 1, n, h, h' => by
    have n : (s :: slots os).Nodup := n
    simp at h
    subst h
    exact absurd (mem_slots.mpr ⟨j', by simpa using h'⟩) (List.nodup_cons.mp n).1
  | .inr s :: os, i, j + 1, 0, n, h, h' => by
    have n : (s :: slots os).Nodup := n
    simp at h'
    subst h'
    exact absurd (mem_slots.mpr ⟨j, by simpa using h⟩) (List.nodup_cons.mp n).1
  | .inr s :: os, i, j + 1, j' + 1, n, h, h' => by
    have n : (s :: slots os).Nodup := n
    exact congrArg (· + 1) (slot_one (os := os) (i := i) (List.nodup_cons.mp n).2 (by simpa using h) (by simpa using h'))
theorem posO_some : ∀ {os : List Ov} {i j : Nat}, posO os i = some j → os[j]? = some (.inr i)
  | [], _, _, h => by cases h
  | .inl d :: os, i, j, h => by
    unfold posO at h
    cases q : posO os i with
    | none => rw [q] at h; cases h
    | some k => rw [q] at h; cases h; simpa using posO_some q
  | .inr s :: os, i, j, h => by
    unfold posO at h
    split at h
    · rename_i e
      cases h
      subst e
      rfl
    · cases q : posO os i with
      | none => rw [q] at h; cases h
      | some k => rw [q] at h; cases h; simpa using posO_some q
theorem posO_none : ∀ {os : List Ov} {i : Nat}, posO os i = none → i ∉ slots os
  | [], _, _ => by simp [slots]
  | .inl d :: os, i, h => by
    unfold posO at h
    exact posO_none (os := os) (by simpa using h)
  | .inr s :: os, i, h => by
    unfold posO at h
    split at h
    · cases h
    · rename_i e
      show i ∉ s :: slots os
      rw [List.mem_cons, not_or]
      exact ⟨fun z => e z.symm, posO_none (os := os) (by simpa using h)⟩
theorem ovL_get {K : PySem.W.Frag} {B : Addr → Prop} {F : Fp} {H : Hp} {σ : L2.St} : ∀ {os : List Ov} {vs : List V} {j : Nat} {o : Ov}, ovL K B F H σ os vs → os[j]? = some o → ∃ v, vs[j]? = some v ∧ ov K B F H σ o v
  | [], _, _, _, _, h => by simp at h
  | o :: os, _, 0, _, h, e => by
    obtain ⟨v, r, rfl, h1, h2⟩ := h
    simp at e
    subst e
    exact ⟨v, rfl, h1⟩
  | o :: os, _, j + 1, _, h, e => by
    obtain ⟨v, r, rfl, h1, h2⟩ := h
    obtain ⟨v', e', h3⟩ := ovL_get (j := j) h2 (by simpa using e)
    exact ⟨v', by simpa using e', h3⟩
theorem ovL_len {K : PySem.W.Frag} {B : Addr → Prop} {F : Fp} {H : Hp} {σ : L2.St} : ∀ {os : List Ov} {vs : List V}, ovL K B F H σ os vs → os.length = vs.length
  | [], _, h => by cases h; rfl
  | o :: os, _, h => by
    obtain ⟨v, r, rfl, h1, h2⟩ := h
    rw [List.length_cons, List.length_cons, ovL_len h2]
theorem resA_get {env : En} : ∀ {os : List Ov} {ws : List Wv} {j : Nat} {w : Wv}, resA env os = some ws → ws[j]? = some w → (∃ d, os[j]? = some (.inl d) ∧ w = .fz d) ∨ ∃ i, os[j]? = some (.inr i) ∧ getW env i = some w
  | [], _, _, _, h, e => by cases h; simp at e
  | .inl d :: os, _, j, _, h, e => by
    unfold resA at h
    cases q : resA env os with
    | none => rw [q] at h; cases h
    | some ws =>
      rw [q] at h
      cases h
      cases j with
      | zero => simp at e; exact .inl ⟨d, rfl, e.symm⟩
      | succ j => simpa using resA_get (j := j) q (by simpa using e)
  | .inr i :: os, _, j, _, h, e => by
    unfold resA at h
    split at h
    · rename_i w ws q1 q2
      cases h
      cases j with
      | zero => simp at e; subst e; exact .inr ⟨i, rfl, q1⟩
      | succ j => simpa using resA_get (j := j) q2 (by simpa using e)
    · cases h
theorem resA_len {env : En} : ∀ {os : List Ov} {ws : List Wv}, resA env os = some ws → os.length = ws.length
  | [], _, h => by cases h; rfl
  | .inl d :: os, _, h => by
    unfold resA at h
    cases q : resA env os with
    | none => rw [q] at h; cases h
    | some ws => rw [q] at h; cases h; rw [List.length_cons, List.length_cons, resA_len q]
  | .inr i :: os, _, h => by
    unfold resA at h
    split at h
    · rename_i w ws q1 q2
      cases h
      rw [List.length_cons, List.length_cons, resA_len q2]
    · cases h
theorem putA_len : ∀ {os : List Ov} {ws : List Wv} {env : En}, (putA env os ws).length = env.length
  | [], [], _ => rfl
  | [], _ :: _, _ => rfl
  | .inl _ :: os, [], _ => rfl
  | .inr _ :: os, [], _ => rfl
  | .inl _ :: os, _ :: ws, env => by
    show (putA env os ws).length = _
    rw [putA_len]
  | .inr i :: os, w :: ws, env => by
    show (putA (env.set i (some w)) os ws).length = _
    rw [putA_len, List.length_set]
theorem putA_out : ∀ {os : List Ov} {ws : List Wv} {env : En} {i : Nat}, i ∉ slots os → (putA env os ws)[i]? = env[i]?
  | [], [], _, _, _ => rfl
  | [], _ :: _, _, _, _ => rfl
  | .inl _ :: os, [], _, _, _ => rfl
  | .inr _ :: os, [], _, _, _ => rfl
  | .inl _ :: os, _ :: ws, env, i, h => by
    show (putA env os ws)[i]? = _
    exact putA_out (os := os) h
  | .inr s :: os, w :: ws, env, i, h => by
    have h : i ∉ s :: slots os := h
    rw [List.mem_cons, not_or] at h
    show (putA (env.set s (some w)) os ws)[i]? = _
    rw [putA_out h.2, List.getElem?_set_ne (fun z => h.1 z.symm)]
theorem putA_at : ∀ {os : List Ov} {ws : List Wv} {env : En} {i j : Nat}, (slots os).Nodup → i < env.length → os.length = ws.length → os[j]? = some (.inr i) → (putA env os ws)[i]? = (ws[j]?).map some
  | [], _, _, _, _, _, _, _, h => by simp at h
  | _ :: _, [], _, _, _, _, _, e, _ => by simp at e
  | .inl _ :: os, _ :: ws, env, i, 0, n, hi, e, h => by simp at h
  | .inl _ :: os, _ :: ws, env, i, j + 1, n, hi, e, h => by
    show (putA env os ws)[i]? = _
    rw [putA_at (os := os) (j := j) n hi (by simpa using e) (by simpa using h)]
    simp
  | .inr s :: os, w :: ws, env, i, 0, n, hi, e, h => by
    have n : (s :: slots os).Nodup := n
    simp at h
    subst h
    show (putA (env.set s (some w)) os ws)[s]? = _
    rw [putA_out (List.nodup_cons.mp n).1, List.getElem?_set_self hi]
    rfl
  | .inr s :: os, w :: ws, env, i, j + 1, n, hi, e, h => by
    have n : (s :: slots os).Nodup := n
    show (putA (env.set s (some w)) os ws)[i]? = _
    rw [putA_at (os := os) (j := j) (List.nodup_cons.mp n).2 (by rw [List.length_set]; exact hi) (by simpa using e) (by simpa using h)]
    simp
section
variable {K : PySem.W.Frag} {B : Addr → Prop} {F : Fp} {H : Hp} {σ : L2.St} {env : En} {os : List Ov} {vs : List V} {ws : List Wv}
theorem Fc_at {j : Nat} {a : Addr} (h : a ∈ Fc F os j) : ∃ s, os[j]? = some (.inr s) ∧ a ∈ F s := by
  unfold Fc at h
  split at h
  · rename_i s e
    exact ⟨s, e, h⟩
  · cases h
theorem Fc_slot {j s : Nat} (h : os[j]? = some (.inr s)) : Fc F os j = F s := by
  unfold Fc
  rw [h]
theorem av_c (hn : (slots os).Nodup) : av (Bc B F os) (Fc F os) = av B F := by
  funext a
  apply propext
  constructor
  · rintro ((h | ⟨i, _, h⟩) | ⟨j, h⟩)
    · exact .inl h
    · exact .inr ⟨i, h⟩
    · obtain ⟨s, _, h⟩ := Fc_at h
      exact .inr ⟨s, h⟩
  · rintro (h | ⟨i, h⟩)
    · exact .inl (.inl h)
    · by_cases q : i ∈ slots os
      · obtain ⟨j, e⟩ := mem_slots.mp q
        exact .inr ⟨j, by rw [Fc_slot e]; exact h⟩
      · exact .inl (.inr ⟨i, q, h⟩)
theorem Ok.pass (k : Ok K B F H σ env) (hn : (slots os).Nodup) (hv : ovL K B F H σ os vs) (hr : resA env os = some ws) : Ok K (Bc B F os) (Fc F os) H (vs.map some) (ws.map some) where
  len := by rw [List.length_map, List.length_map, ← resA_len hr, ovL_len hv]
  at_ := fun j w e => by
    rw [av_c hn]
    rw [List.getElem?_map] at e
    cases q : ws[j]? with
    | none => rw [q] at e; cases e
    | some w' =>
      rw [q] at e
      cases e
      rcases resA_get hr q with ⟨d, e1, rfl⟩ | ⟨i, e1, e2⟩
      · obtain ⟨v, e3, h⟩ := ovL_get hv e1
        refine ⟨v, by rw [List.getElem?_map, e3]; rfl, ?_⟩
        rw [rw']
        refine ⟨?_, h⟩
        unfold Fc
        rw [e1]
      · obtain ⟨v, e3, h⟩ := ovL_get hv e1
        obtain ⟨v', e4, r⟩ := k.at_ i w (getW_some e2)
        have h : σ[i]? = some (some v) := h
        rw [h] at e4
        cases e4
        exact ⟨v, by rw [List.getElem?_map, e3]; rfl, by rw [Fc_slot e1]; exact r⟩
  nd := fun j => by
    unfold Fc
    split
    · exact k.nd _
    · exact List.nodup_nil
  dj := fun i j a h1 h2 => by
    obtain ⟨s, e1, h1⟩ := Fc_at h1
    obtain ⟨s', e2, h2⟩ := Fc_at h2
    have := k.dj s s' a h1 h2
    subst this
    exact slot_one hn e1 e2
  there := by rw [av_c hn]; exact k.there
  sep := fun a h z => by
    obtain ⟨j, z⟩ := z
    obtain ⟨s, e, z⟩ := Fc_at z
    rcases h with h | ⟨i, ni, h⟩
    · exact k.sep a h ⟨s, z⟩
    · have := k.dj i s a h z
      subst this
      exact ni (mem_slots.mpr ⟨j, e⟩)
theorem Fc_far {i : Nat} (h : os.length ≤ i) : Fc F os i = [] := by
  unfold Fc
  rw [List.getElem?_eq_none h]
/-- the slots behind a call -/
def Fb (F F' : Fp) (os : List Ov) : Fp := fun i => match posO os i with
  | some j => F' j
  | none => F i
variable {F' : Fp} {H' : Hp} {outs : List Wv} {more : L2.St} {moreE : En}
theorem av_b {a : Addr} (h : av B (Fb F F' os) a) : av (Bc B F os) F' a := by
  rcases h with h | ⟨i, h⟩
  · exact .inl (.inl h)
  · unfold Fb at h
    split at h
    · rename_i j e
      exact .inr ⟨j, h⟩
    · rename_i e
      exact .inl (.inr ⟨i, posO_none e, h⟩)
theorem Stp.back (s : Stp (Fc F os) H F' H') : Stp F H (Fb F F' os) H' where
  keep := fun a o n e => s.keep a o (fun ⟨j, z⟩ => n (let ⟨t, _, z⟩ := Fc_at z; ⟨t, z⟩)) e
  new := fun a ⟨i, h⟩ => by
    unfold Fb at h
    split at h
    · rename_i j e
      exact (s.new a ⟨j, h⟩).imp (fun ⟨j, z⟩ => let ⟨t, _, z⟩ := Fc_at z; ⟨t, z⟩) id
    · exact .inl ⟨i, h⟩
theorem Ok.back (k : Ok K B F H σ env) (hn : (slots os).Nodup) (hv : ovL K B F H σ os vs) (hl : outs.length = vs.length) (hi : ∀ i ∈ slots os, i < env.length) (s : Stp (Fc F os) H F' H')
    (k' : Ok K (Bc B F os) F' H' (vs.map some ++ more) (outs.map some ++ moreE)) : Ok K B (Fb F F' os) H' σ (putA env os outs) where
  len := by rw [putA_len, k.len]
  at_ := fun i w e => by
    unfold Fb
    split
    · rename_i j q
      have e1 := posO_some q
      rw [putA_at hn (hi i (mem_slots.mpr ⟨j, e1⟩)) (by rw [ovL_len hv, hl]) e1] at e
      cases q2 : outs[j]? with
      | none => rw [q2] at e; cases e
      | some w' =>
        rw [q2] at e
        cases e
        have hj : j < outs.length := (List.getElem?_eq_some_iff.mp q2).1
        obtain ⟨v, e3, r⟩ := k'.at_ j w (by rw [List.getElem?_append_left (by rw [List.length_map]; exact hj), List.getElem?_map, q2]; rfl)
        rw [List.getElem?_append_left (by rw [List.length_map, ← hl]; exact hj), List.getElem?_map] at e3
        obtain ⟨v', e4, h⟩ := ovL_get hv e1
        rw [e4] at e3
        cases e3
        exact ⟨_, h, rw_less (fun a h => av_b h) r⟩
    · rename_i q
      have ni := posO_none q
      rw [putA_out ni] at e
      obtain ⟨v, e1, r⟩ := k.at_ i w e
      refine ⟨v, e1, rw_stay (s.back.stay B) w v (F i) (fun a ha => ?_) r⟩
      cases z : H a with
      | none => exact absurd z (k.there a (.inr ⟨i, ha⟩))
      | some o =>
        refine s.keep a o (fun ⟨j, z2⟩ => ?_) z
        obtain ⟨t, e2, z2⟩ := Fc_at z2
        have := k.dj i t a ha z2
        subst this
        exact ni (mem_slots.mpr ⟨j, e2⟩)
  nd := fun i => by
    unfold Fb
    split
    · exact k'.nd _
    · exact k.nd _
  dj := fun i i' a h h' => by
    unfold Fb at h h'
    split at h
    · rename_i j q
      split at h'
      · rename_i j' q'
        have := k'.dj j j' a h h'
        subst this
        have e1 := posO_some q
        rw [posO_some q'] at e1
        cases e1
        rfl
      · rename_i q'
        exact absurd ⟨j, h⟩ (k'.sep a (.inr ⟨i', posO_none q', h'⟩))
    · rename_i q
      split at h'
      · rename_i j' q'
        exact absurd ⟨j', h'⟩ (k'.sep a (.inr ⟨i, posO_none q, h⟩))
      · exact k.dj i i' a h h'
  there := fun a h => k'.there a (av_b h)
  sep := fun a h z => by
    obtain ⟨i, z⟩ := z
    unfold Fb at z
    split at z
    · rename_i j q
      exact k'.sep a (.inl h) ⟨j, z⟩
    · exact k.sep a h ⟨i, z⟩
/-- the result's own objects are none of these -/
theorem off_b (k' : Ok K (Bc B F os) F' H' (vs.map some ++ more) (outs.map some ++ moreE)) {n : Nat} (hn : os.length ≤ n) {a : Addr} (h : a ∈ F' n) : ¬ av B (Fb F F' os) a := by
  rintro (z | ⟨i, z⟩)
  · exact k'.sep a (.inl z) ⟨n, h⟩
  · unfold Fb at z
    split at z
    · rename_i j q
      have e := k'.dj n j a h z
      have hj := (List.getElem?_eq_some_iff.mp (posO_some q)).1
      omega
    · rename_i q
      exact k'.sep a (.inr ⟨i, posO_none q, z⟩) ⟨n, h⟩
end
end Ev

set_option Elab.async false
set_option linter.all false
set_option maxRecDepth 100000
set_option maxHeartbeats 4000000
namespace Ev
open PySem PySem.Spec PyProof.Rows L2 He Gw
def AL.len : AL → Nat
  | .nil => 0
  | .val _ as => as.len + 1
  | .ref _ as => as.len + 1
theorem evA_len {C : Ct} : ∀ (as : AL) {env e : En} {os : List Ov}, evA C as env = .ok os e → os.length = as.len
  | .nil, _, _, _, h => by rw [evA] at h; cases h; rfl
  | .val a as, _, _, _, h => by
    rw [evA] at h
    obtain ⟨d, e1, _, h⟩ := bind_ok h
    obtain ⟨ds, e2, h1, h⟩ := bind_ok h
    cases h
    show ds.length + 1 = as.len + 1
    rw [evA_len as h1]
  | .ref i as, _, _, _, h => by
    rw [evA] at h
    split at h
    · obtain ⟨ds, e2, h1, h⟩ := bind_ok h
      cases h
      show ds.length + 1 = as.len + 1
      rw [evA_len as h1]
    · cases h
section
variable {X : Cx} {W : WX} {C : Ct} {a b c : Expr} {es : List Expr} {pos p : Pos}
theorem snd_nilA : SOs X W [] (evA C .nil) := pa_nil.imp fun σ H Q h => by
  obtain ⟨B, F, env, k, h⟩ := h
  rw [evA] at h
  exact pst_here h k [] rfl
theorem snd_valA {e : E} {r : AL} (hs : starEach (a :: es) X.env = (false, eval a X.env) :: starEach es X.env) (ha : SE X W a (evE C e)) (hr : SOs X W es (evA C r)) : SOs X W (a :: es) (evA C (.val e r)) := (pa_cons ha hr hs).imp fun σ H Q h => by
  obtain ⟨B, F, env, k, h⟩ := h
  rw [evA] at h
  refine ⟨B, F, env, k, pst_imp (pst_bind h) fun d e1 F1 H1 _ _ z v hv => ?_⟩
  obtain ⟨_, k1, z⟩ := z
  refine ⟨B, F1, e1, k1, pst_imp (pst_bind z) fun ds e2 F2 H2 s2 _ z vs hvs => ?_⟩
  obtain ⟨_, k2, z⟩ := z
  exact pst_here z k2 (v :: vs) ⟨v, vs, rfl, s2.rd hv, hvs⟩
theorem snd_refA {i : Nat} {r : AL} {x : Str} (hs : starEach (.Name x p :: es) X.env = (false, eval (.Name x p) X.env) :: starEach es X.env) (hN : X.N[i]? = some x) (hv : Vis X.env.scope x) (hd : (x == ("__debug__" : Str)) = false) (hcd : (x == ("__classdict__" : Str)) = false)
    (hr : SOs X W es (evA C r)) : SOs X W (.Name x p :: es) (evA C (.ref i r)) := (pa_cons (pe_var hN hv hd hcd) hr hs).imp fun σ H Q h => by
  obtain ⟨B, F, env, k, h⟩ := h
  rw [evA] at h
  split at h
  · rename_i w e
    obtain ⟨v, e1, _⟩ := k.at_ i _ (getW_some e)
    refine ⟨v, e1, B, F, env, k, pst_imp (pst_bind h) fun ds e2 F2 H2 s2 _ z vs hvs => ?_⟩
    obtain ⟨_, k2, z⟩ := z
    exact pst_here z k2 (v :: vs) ⟨v, vs, rfl, e1, hvs⟩
  · exact h.elim
/-- what a call comes to: w stands where off says -/
theorem call_of {B : Addr → Prop} {F : Fp} {H : Hp} {σ : L2.St} {env : En} {f : Nat} {os : List Ov} {vs : List V} {n : Nat} {Q : VK} {P : Wv → En → Fp → Hp → Prop} (k : Ok X.K B F H σ env) (hv : ovL X.K B F H σ os vs) (hn : os.length = n)
    (h : pst X.K W B σ F H P (callR C f os env))
    (hP : ∀ r env' F' H' Fr v, Stp F H F' H' → Ok X.K B F' H' σ env' → P r env' F' H' → (∀ a ∈ Fr, ¬ av B F' a) → Fr.Nodup → (∀ a ∈ Fr, H' a ≠ none) → (∃ M, (∀ a, av B F' a → M a) ∧ rw' X.K M H' r v Fr) → Q v H') :
    spE X.K (C.cal f) n vs H Q (WE W σ) := by
  unfold callR at h
  split at h
  · rename_i hnd
    split at h
    · rename_i ws hr
      have hl : os.length = ws.length := resA_len hr
      have hvl : os.length = vs.length := ovL_len hv
      have hi : ∀ i ∈ slots os, i < env.length := fun i hi => by
        obtain ⟨j, e⟩ := mem_slots.mp hi
        obtain ⟨v, _, e2⟩ := ovL_get hv e
        rw [k.len]
        exact (List.getElem?_eq_some_iff.mp (show σ[i]? = some (some v) from e2)).1
      refine ⟨by rw [← hvl, hn], Bc B F os, Fc F os, ws, by rw [← hl, hn], k.pass hnd hv hr, fun i hi => Fc_far (by rw [hn]; exact hi), ?_⟩
      split at h
      · rename_i r outs hc
        split at h
        · rename_i ho
          rw [hc]
          refine ⟨by rw [ho, ← hl, hn], fun F' H' v s k' => ?_⟩
          have ho' : outs.length = vs.length := by rw [ho, ← hl, hvl]
          have kb := k.back hnd hv ho' hi s k'
          obtain ⟨v', e1, hr'⟩ := k'.at_ n r (by rw [List.getElem?_append_right (by rw [List.length_map, ho, ← hl, hn]; exact Nat.le_refl _), List.length_map, ho, ← hl, hn, Nat.sub_self]; rfl)
          rw [List.getElem?_append_right (by rw [List.length_map, ← hvl, hn]; exact Nat.le_refl _), List.length_map, ← hvl, hn, Nat.sub_self] at e1
          cases e1
          exact hP r _ _ _ (F' n) v s.back kb (h _ _ s.back kb) (fun a ha => off_b k' (Nat.le_of_eq hn) ha) (k'.nd n) (fun a ha => k'.there a (.inr ⟨n, ha⟩)) ⟨_, fun a ha => av_b ha, hr'⟩
        · exact h.elim
      · rename_i x outs hc
        split at h
        · rename_i ho
          rw [hc]
          refine ⟨by rw [ho, ← hl, hn], fun F' H' cls dx s k' xr => ?_⟩
          have ho' : outs.length = vs.length := by rw [ho, ← hl, hvl]
          have kb := k.back (more := []) (moreE := []) hnd hv ho' hi s (by rw [List.append_nil, List.append_nil]; exact k')
          exact h _ _ cls dx s.back kb (xr.less fun a ha => av_b ha)
        · exact h.elim
      · exact h.elim
    · exact h.elim
  · exact h.elim
theorem callE_of {f : Nat} {as : AL} {n : Nat} {σ : L2.St} {H : Hp} {Q : VK} (hn : as.len = n) (h : tE X.K W (evE C (.call f as)) σ H Q) : tOs X.K W (evA C as) σ H fun vs H1 => spE X.K (C.cal f) n vs H1 Q (WE W σ) := by
  obtain ⟨B, F, env, k, h⟩ := h
  rw [evE] at h
  cases z : evA C as env with
  | ok os e1 =>
    rw [z] at h
    refine ⟨B, F, env, k, ?_⟩
    rw [z]
    intro F1 H1 s1 k1 vs hvs
    have h1 := pst_from s1 h
    refine call_of k1 hvs (by rw [evA_len as z, hn]) (pst_bind h1) fun r env' F' H' Fr v s' k' hP off _ _ hw => ?_
    obtain ⟨_, k2, q⟩ := hP
    obtain ⟨d, ed, q⟩ := pst_lift q
    obtain ⟨M, hM, hw⟩ := hw
    exact pst_here q k2 v (frz_rd hM r v Fr d off hw ed)
  | exc x e1 => rw [z] at h; exact ⟨B, F, env, k, by rw [z]; exact h⟩
  | stuck => rw [z] at h; exact h.elim
theorem zip_no {ks : List Str} {vs : List V} {m : Str} (h : m ∉ ks) : (ks.zip vs).lookup m = none := by
  induction ks generalizing vs with
  | nil => rfl
  | cons k ks ih =>
    cases vs with
    | nil => rfl
    | cons v vs =>
      rw [List.mem_cons, not_or] at h
      show List.lookup m ((k, v) :: ks.zip vs) = none
      rw [List.lookup_cons, show (m == k) = false from beq_eq_false_iff_ne.mpr h.1]
      exact ih h.2
theorem isO_at {c m : Str} {B : Addr → Prop} {F : Fp} {H : Hp} {σ : L2.St} {env : En} {o : Ov} {x : V} (k : Ok X.K B F H σ env) (h : isO c m env o = true) (hx : ov X.K B F H σ o x) : ∃ a dx fs, x = .ref a ∧ H a = some (.ins (ga X.K c) dx fs) ∧ fs.lookup m = none := by
  have fz : ∀ d, isW c m (.fz d) = true → rd X.K (av B F) H d x → ∃ a dx fs, x = .ref a ∧ H a = some (.ins (ga X.K c) dx fs) ∧ fs.lookup m = none := fun d hd r => by
    cases d with
    | ins c' ks ds =>
      have hd : (decide (c' = c) && decide (m ∉ ks)) = true := hd
      rw [Bool.and_eq_true, decide_eq_true_eq, decide_eq_true_eq] at hd
      obtain ⟨rfl, h2⟩ := hd
      rw [rd] at r
      obtain ⟨a, dx, vs, rfl, h1, _, _⟩ := r
      exact ⟨a, dx, _, rfl, h1.2, zip_no h2⟩
    | _ => cases hd
  cases o with
  | inl d => exact fz d h hx
  | inr i =>
    unfold isO at h
    dsimp only at h
    cases e : getW env i with
    | none => rw [e] at h; cases h
    | some w =>
      rw [e] at h
      obtain ⟨v, e1, r⟩ := k.get (getW_some e)
      rw [show σ[i]? = some (some x) from hx] at e1
      cases e1
      cases w with
      | fz d =>
        rw [rw'] at r
        exact fz d h r.2
      | oi c' ks ws =>
        have h : (decide (c' = c) && decide (m ∉ ks)) = true := h
        rw [Bool.and_eq_true, decide_eq_true_eq, decide_eq_true_eq] at h
        obtain ⟨rfl, h2⟩ := h
        rw [rw'] at r
        obtain ⟨a, dx, vs, fq, rfl, _, h1, _, _⟩ := r
        exact ⟨a, dx, _, rfl, h1, zip_no h2⟩
      | _ => cases h
theorem methE_of {c m : Str} {f : Nat} {ro : Opd} {as : AL} {n : Nat} {σ : L2.St} {H : Hp} {Q : VK} (hn : as.len + 1 = n) (h : tE X.K W (evE C (.meth c m f ro as)) σ H Q) :
    tMethG (ga X.K c) m (spE X.K (C.cal f) n) (WE W) (tOd X.K W (evOpd C ro)) (tOs X.K W (evA C as)) σ H Q := by
  obtain ⟨B, F, env, k, h⟩ := h
  rw [evE] at h
  refine ⟨B, F, env, k, pst_imp (pst_bind h) fun o e1 F1 H1 _ _ z x hx => ?_⟩
  obtain ⟨_, k1, z⟩ := z
  split at z
  · rename_i hi
    obtain ⟨a, dx, fs, ex, ha, hl⟩ := isO_at k1 hi hx
    refine ⟨a, dx, fs, ex, ha, hl, ?_⟩
    cases q : evA C as e1 with
    | ok os e2 =>
      rw [q] at z
      refine ⟨B, F1, e1, k1, ?_⟩
      rw [q]
      intro F2 H2 s2 k2 vs hvs
      have h1 := pst_from s2 z
      refine call_of k2 (os := o :: os) (vs := x :: vs) ⟨x, vs, rfl, ov_stp s2 hx, hvs⟩ (by rw [List.length_cons, evA_len as q, hn]) (pst_bind h1) fun r env' F' H' Fr v s' k' hP off _ _ hw => ?_
      obtain ⟨_, k3, qq⟩ := hP
      obtain ⟨d, ed, qq⟩ := pst_lift qq
      obtain ⟨M, hM, hw⟩ := hw
      exact pst_here qq k3 v (frz_rd hM r v Fr d off hw ed)
    | exc y e2 => rw [q] at z; exact ⟨B, F1, e1, k1, by rw [q]; exact z⟩
    | stuck => rw [q] at z; exact z.elim
  · exact z.elim
variable {CX : CXT} {k : Nat} {f : Nat} {fa : Addr} {fd : FuncData} {ps : List Str} {x : Str}
theorem snd_call {as : AL} (Fk : FnG X.prog X.w X.K X.mg X.base (L2.CX X.prog X.w) k fa fd ps (spE X.K (C.cal f) ps.length)) (hgd : X.A.guards = some []) (hr : Room k X.A) (hg : Gl X x) (hm : X.mg x = some (.ref fa)) (hk : PySem.W.keepIn X.K (.ref fa) = true) (hb : Binds X.K fd ps [])
    (tk : Takes X W) (hn : as.len = ps.length) (ha : SOs X W (a :: es) (evA C as)) (hdb : (x == ("__debug__" : Str)) = false) (he : starEach (a :: es) X.env = (false, eval a X.env) :: starEach es X.env) (hpl : (backTo pos (starEach es X.env)).any (·.1) = false) :
    SE X W (.Call (.Name x p) (a :: es) [] pos) (evE C (.call f as)) := (pe_callG Fk hgd hr hg hm hk hb (fun σ => passAt tk σ) ha hdb he hpl).imp fun σ H Q h => callE_of hn h
theorem snd_call0 (Fk : FnG X.prog X.w X.K X.mg X.base (L2.CX X.prog X.w) k fa fd ps (spE X.K (C.cal f) ps.length)) (hgd : X.A.guards = some []) (hr : Room k X.A) (hg : Gl X x) (hm : X.mg x = some (.ref fa)) (hk : PySem.W.keepIn X.K (.ref fa) = true) (hb : Binds X.K fd ps [])
    (tk : Takes X W) (hn : 0 = ps.length) (hdb : (x == ("__debug__" : Str)) = false) : SE X W (.Call (.Name x p) [] [] pos) (evE C (.call f .nil)) := (pe_callG0 Fk hgd hr hg hm hk hb (fun σ => passAt tk σ) hdb).imp fun σ H Q h => by
  obtain ⟨B, F, env, k, h⟩ := callE_of (as := .nil) hn h
  rw [evA] at h
  exact pst_here h k [] rfl
theorem snd_meth {o : Expr} {c m : Str} {ro : Opd} {as : AL} {apos : Pos} {pl : Sem Bool} (ho : SO X W o (evOpd C ro)) (cl : Cls X.K (ga X.K c)) (hm : Meth X.K (ga X.K c) m fa) (Fk : FnG X.prog X.w X.K X.mg X.base (L2.CX X.prog X.w) k fa fd ps (spE X.K (C.cal f) ps.length)) (hgd : X.A.guards = some []) (hr : Room k X.A) (hb : Binds X.K fd ps [])
    (tk : Takes X W) (hn : as.len + 1 = ps.length) (ha : SOs X W (a :: es) (evA C as)) (he : starEach (a :: es) X.env = (false, eval a X.env) :: starEach es X.env) (hpl : (backTo pos (starEach es X.env)).any (·.1) = false)
    (ht : eval (.Call (.Attribute o m apos) (a :: es) [] pos) X.env = (do
      let ov ← eval o X.env
      standAt apos.atName
      let (g, first) ← holding [ov] (getMethod ov m pl)
      callWith pos g first (backTo pos (starEach (a :: es) X.env)) (backToKw pos (keywordEach [] X.env)))) :
    SE X W (.Call (.Attribute o m apos) (a :: es) [] pos) (evE C (.meth c m f ro as)) := (pe_methG ho cl hm Fk hgd hr hb (fun σ => passAt tk σ) ha he hpl ht).imp fun σ H Q h => methE_of hn h
theorem snd_meth0 {o : Expr} {c m : Str} {ro : Opd} {apos : Pos} {pl : Sem Bool} (ho : SO X W o (evOpd C ro)) (cl : Cls X.K (ga X.K c)) (hm : Meth X.K (ga X.K c) m fa) (Fk : FnG X.prog X.w X.K X.mg X.base (L2.CX X.prog X.w) k fa fd ps (spE X.K (C.cal f) ps.length)) (hgd : X.A.guards = some []) (hr : Room k X.A) (hb : Binds X.K fd ps [])
    (tk : Takes X W) (hn : 1 = ps.length)
    (ht : eval (.Call (.Attribute o m apos) [] [] pos) X.env = (do
      let ov ← eval o X.env
      standAt apos.atName
      let (g, first) ← holding [ov] (getMethod ov m pl)
      callWith pos g first (backTo pos (starEach [] X.env)) (backToKw pos (keywordEach [] X.env)))) :
    SE X W (.Call (.Attribute o m apos) [] [] pos) (evE C (.meth c m f ro .nil)) := (pe_methG0 ho cl hm Fk hgd hr hb (fun σ => passAt tk σ) ht).imp fun σ H Q h => by
  obtain ⟨B, F, env, k, h⟩ := methE_of (as := .nil) (n := ps.length) (by rw [← hn]; rfl) h
  refine ⟨B, F, env, k, pst_imp h fun o e1 F1 H1 _ _ z x hx => ?_⟩
  obtain ⟨a, dx, fs, ex, ha, hl, z⟩ := z x hx
  refine ⟨a, dx, fs, ex, ha, hl, ?_⟩
  obtain ⟨B, F, env, k, z⟩ := z
  rw [evA] at z
  exact pst_here z k [] rfl
end
end Ev

set_option Elab.async false
set_option linter.all false
set_option maxRecDepth 100000
set_option maxHeartbeats 4000000
namespace Ev
open PySem PySem.Spec PyProof.Rows L2 He Gw
/-! ### what is walked -/
/-- J yields ds, item by item, as long as G holds; off B and F -/
abbrev Gd : Type := (Addr → Prop) → Fp → Hp → Prop
/-- from (B, F, H) on -/
structure Go (B : Addr → Prop) (F : Fp) (H : Hp) (B' : Addr → Prop) (F' : Fp) (H' : Hp) : Prop where
  stp : Stp F H F' H'
  new : ∀ a, av B' F' a → av B F a ∨ H a = none
theorem Go.stay {B B' : Addr → Prop} {F F' : Fp} {H H' : Hp} (g : Go B F H B' F' H') : Stay (av B F) H (av B' F') H' := ⟨fun a o n e => g.stp.keep a o (fun z => n (.inr z)) e, g.new⟩
theorem Stp.go {F F' : Fp} {H H' : Hp} (s : Stp F H F' H') (B : Addr → Prop) : Go B F H B F' H' := ⟨s, (s.stay B).new⟩
structure Walk (K : PySem.W.Frag) (J : L2.It) (ds : List D) (G : Gd) : Prop where
  stay : ∀ B F H B' F' H', Go B F H B' F' H' → G B F H → G B' F' H'
  stop : ∀ B F H, G B F H → J.stop ds.length H
  go : ∀ B F H i, G B F H → i < ds.length → J.go i H
  yld : ∀ B F H i x H', G B F H → (∀ a, av B F a → H a ≠ none) → i < ds.length → J.yld i H x H' → Grow H H' ∧ ∃ e, ds[i]? = some e ∧ rd K (av B F) H' e x
section
variable {K : PySem.W.Frag}
theorem walk_list {a : Addr} {ds : List D} {vs : List V} {G : Gd} (hs : ∀ B F H B' F' H', Go B F H B' F' H' → G B F H → G B' F' H') (hg : ∀ B F H, G B F H → SqL K H a vs ∧ rdL K (av B F) H ds vs) : Walk K (Itl K a) ds G where
  stay := hs
  stop := fun B F H g => ⟨vs, (hg B F H g).1, Nat.le_of_eq (rdL_len (hg B F H g).2).symm⟩
  go := fun B F H i g hi => by
    obtain ⟨h1, h2⟩ := hg B F H g
    obtain ⟨v, e, _⟩ := rdL_get h2 (List.getElem?_eq_getElem hi)
    exact ⟨vs, v, h1, e⟩
  yld := fun B F H i x H' g _ hi y => by
    obtain ⟨h1, h2⟩ := hg B F H g
    obtain ⟨rfl, y⟩ := y
    obtain ⟨v, e, r⟩ := rdL_get h2 (List.getElem?_eq_getElem hi)
    have q := y vs h1
    rw [e] at q
    cases q
    exact ⟨.refl, _, List.getElem?_eq_getElem hi, r⟩
theorem walk_tup {a : Addr} {ds : List D} {vs : List V} {G : Gd} (hs : ∀ B F H B' F' H', Go B F H B' F' H' → G B F H → G B' F' H') (hg : ∀ B F H, G B F H → SqT K H a vs ∧ rdL K (av B F) H ds vs) : Walk K (Itt K a) ds G where
  stay := hs
  stop := fun B F H g => ⟨vs, (hg B F H g).1, Nat.le_of_eq (rdL_len (hg B F H g).2).symm⟩
  go := fun B F H i g hi => by
    obtain ⟨h1, h2⟩ := hg B F H g
    obtain ⟨v, e, _⟩ := rdL_get h2 (List.getElem?_eq_getElem hi)
    exact ⟨vs, v, h1, e⟩
  yld := fun B F H i x H' g _ hi y => by
    obtain ⟨h1, h2⟩ := hg B F H g
    obtain ⟨rfl, y⟩ := y
    obtain ⟨v, e, r⟩ := rdL_get h2 (List.getElem?_eq_getElem hi)
    have q := y vs h1
    rw [e] at q
    cases q
    exact ⟨.refl, _, List.getElem?_eq_getElem hi, r⟩
/-- a frozen list, tuple -/
def GL (K : PySem.W.Frag) (a : Addr) (ds : List D) (vs : List V) (B : Addr → Prop) (F : Fp) (H : Hp) : Prop := At (av B F) H a (.lst vs) ∧ rdL K (av B F) H ds vs
def GT (K : PySem.W.Frag) (a : Addr) (ds : List D) (vs : List V) (B : Addr → Prop) (F : Fp) (H : Hp) : Prop := (At (av B F) H a (.tup vs) ∨ CstT K a vs) ∧ rdL K (av B F) H ds vs
def GS (K : PySem.W.Frag) (a : Addr) (vs : List V) (B : Addr → Prop) (F : Fp) (H : Hp) : Prop := (¬ av B F a ∧ Rd H a (.lst vs)) ∨ CstL K a vs
/-- an own list that is walked: its place is in B, off F -/
def GO (K : PySem.W.Frag) (a : Addr) (ds : List D) (vs : List V) (B : Addr → Prop) (F : Fp) (H : Hp) : Prop := ¬ inF F a ∧ H a = some (.lst vs) ∧ rdL K (av B F) H ds vs
theorem GL.stay {a : Addr} {ds : List D} {vs : List V} : ∀ B F H B' F' H', Go B F H B' F' H' → GL K a ds vs B F H → GL K a ds vs B' F' H' := fun B F H B' F' H' s g => ⟨s.stay.at_ g.1, rdL_stay s.stay _ _ g.2⟩
theorem GT.stay {a : Addr} {ds : List D} {vs : List V} : ∀ B F H B' F' H', Go B F H B' F' H' → GT K a ds vs B F H → GT K a ds vs B' F' H' := fun B F H B' F' H' s g => ⟨g.1.imp s.stay.at_ id, rdL_stay s.stay _ _ g.2⟩
theorem GS.stay {a : Addr} {vs : List V} : ∀ B F H B' F' H', Go B F H B' F' H' → GS K a vs B F H → GS K a vs B' F' H' := fun B F H B' F' H' s g => g.imp (fun ⟨n, h⟩ => by
  rcases h with h | ⟨o, h⟩
  · exact ⟨(s.stay.at_ ⟨n, h⟩).1, .inl (s.stay.keep a _ n h)⟩
  · exact ⟨(s.stay.at_ ⟨n, h⟩).1, .inr ⟨o, s.stay.keep a _ n h⟩⟩) id
theorem GO.stay {a : Addr} {ds : List D} {vs : List V} : ∀ B F H B' F' H', Go B F H B' F' H' → GO K a ds vs B F H → GO K a ds vs B' F' H' := fun B F H B' F' H' s ⟨n, h, r⟩ =>
  ⟨fun z => (s.stp.new a z).elim n fun e => (by rw [e] at h; cases h), s.stp.keep a _ n h, rdL_stay s.stay _ _ r⟩
theorem walk_str {z : Str} : Walk K (Its z) (z.cps.toList.map fun c => .str ⟨#[c]⟩) fun _ _ _ => True where
  stay := fun _ _ _ _ _ _ _ _ => trivial
  stop := fun _ _ _ _ => by show z.cps.size ≤ _; rw [List.length_map]; exact Nat.le_of_eq (by simp)
  go := fun _ _ _ i _ hi => by rw [List.length_map] at hi; show i < z.cps.size; simpa using hi
  yld := fun B F H i x H' _ _ hi y => by
    obtain ⟨rfl, c, e, rfl⟩ := y
    refine ⟨.refl, .str ⟨#[c]⟩, ?_, rd_str⟩
    rw [List.getElem?_map, Array.getElem?_toList, e]
    rfl
theorem walk_range {lo : Int} {n : Nat} {f : Nat → D} (hf : ∀ k, f k = .int (lo + (k : Int))) : Walk K (Itr lo n) ((List.range n).map f) fun _ _ _ => True where
  stay := fun _ _ _ _ _ _ _ _ => trivial
  stop := fun _ _ _ _ => by show n ≤ _; rw [List.length_map, List.length_range]; exact Nat.le_refl _
  go := fun _ _ _ i _ hi => by rw [List.length_map, List.length_range] at hi; exact hi
  yld := fun B F H i x H' _ _ hi y => by
    obtain ⟨rfl, rfl⟩ := y
    rw [List.length_map, List.length_range] at hi
    exact ⟨.refl, f i, by rw [List.getElem?_map, List.getElem?_range hi]; rfl, by rw [hf]; exact rd_int⟩
theorem walk_down {lo : Int} {n : Nat} : Walk K (Itc lo (-1) n) ((List.range n).map fun k : Nat => .int (lo - (k : Int))) fun _ _ _ => True where
  stay := fun _ _ _ _ _ _ _ _ => trivial
  stop := fun _ _ _ _ => by show n ≤ _; rw [List.length_map, List.length_range]; exact Nat.le_refl _
  go := fun _ _ _ i _ hi => by rw [List.length_map, List.length_range] at hi; exact hi
  yld := fun B F H i x H' _ _ hi y => by
    obtain ⟨rfl, rfl⟩ := y
    rw [List.length_map, List.length_range] at hi
    exact ⟨.refl, .int (lo - (i : Int)), by rw [List.getElem?_map, List.getElem?_range hi]; rfl, by rw [show lo + (i : Int) * -1 = lo - (i : Int) by omega]; exact rd_int⟩
theorem pair_rd {M : Addr → Prop} {H : Hp} {d e : D} {x y : V} {T : Addr} (al : ∀ a, M a → H a ≠ none) (hT : H T = none) (h1 : rd K M H d x) (h2 : rd K M H e y) : rd K M (upd H T (.tup [x, y])) (.tup [d, e]) (.ref T) :=
  new_tup al hT (by rw [rdL]; exact ⟨x, [y], rfl, h1, rdL_one h2⟩)
theorem zip_at {xs ys : List D} {f : D → D → D} {i : Nat} (hi : i < (List.zipWith f xs ys).length) : ∃ x y, xs[i]? = some x ∧ ys[i]? = some y ∧ (List.zipWith f xs ys)[i]? = some (f x y) := by
  rw [List.length_zipWith] at hi
  have h1 : i < xs.length := by omega
  have h2 : i < ys.length := by omega
  exact ⟨_, _, List.getElem?_eq_getElem h1, List.getElem?_eq_getElem h2, by rw [List.getElem?_zipWith, List.getElem?_eq_getElem h1, List.getElem?_eq_getElem h2]⟩
theorem walk_zipL {a b : Addr} {xs ys : List D} {vs us : List V} : Walk K (Itz K a b) (List.zipWith (fun x y => .tup [x, y]) xs ys) fun B F H => GL K a xs vs B F H ∧ GL K b ys us B F H where
  stay := fun B F H B' F' H' s g => ⟨GL.stay B F H B' F' H' s g.1, GL.stay B F H B' F' H' s g.2⟩
  stop := fun B F H g => by
    refine ⟨vs, us, SqL.of g.1.1.2, SqL.of g.2.1.2, ?_⟩
    rw [List.length_zipWith, rdL_len g.1.2, rdL_len g.2.2]
    omega
  go := fun B F H i g hi => by
    obtain ⟨x, y, e1, e2, _⟩ := zip_at hi
    obtain ⟨v, e3, _⟩ := rdL_get g.1.2 e1
    obtain ⟨u, e4, _⟩ := rdL_get g.2.2 e2
    exact ⟨vs, us, v, u, SqL.of g.1.1.2, SqL.of g.2.1.2, e3, e4⟩
  yld := fun B F H i x H' g al hi y => by
    obtain ⟨d, e, e1, e2, e5⟩ := zip_at hi
    obtain ⟨v, e3, r1⟩ := rdL_get g.1.2 e1
    obtain ⟨u, e4, r2⟩ := rdL_get g.2.2 e2
    obtain ⟨T, v', u', rfl, hT, rfl, q1, q2⟩ := y
    have q1 := q1 vs (SqL.of g.1.1.2)
    have q2 := q2 us (SqL.of g.2.1.2)
    rw [e3] at q1
    rw [e4] at q2
    cases q1
    cases q2
    exact ⟨grow_upd hT, _, e5, pair_rd al hT r1 r2⟩
theorem walk_zipT {a b : Addr} {xs ys : List D} {vs us : List V} : Walk K (RZ.ItzT K a b) (List.zipWith (fun x y => .tup [x, y]) xs ys) fun B F H => GT K a xs vs B F H ∧ GT K b ys us B F H where
  stay := fun B F H B' F' H' s g => ⟨GT.stay B F H B' F' H' s g.1, GT.stay B F H B' F' H' s g.2⟩
  stop := fun B F H g => by
    refine ⟨vs, us, sqT_of g.1.1, sqT_of g.2.1, ?_⟩
    rw [List.length_zipWith, rdL_len g.1.2, rdL_len g.2.2]
    omega
  go := fun B F H i g hi => by
    obtain ⟨x, y, e1, e2, _⟩ := zip_at hi
    obtain ⟨v, e3, _⟩ := rdL_get g.1.2 e1
    obtain ⟨u, e4, _⟩ := rdL_get g.2.2 e2
    exact ⟨vs, us, v, u, sqT_of g.1.1, sqT_of g.2.1, e3, e4⟩
  yld := fun B F H i x H' g al hi y => by
    obtain ⟨d, e, e1, e2, e5⟩ := zip_at hi
    obtain ⟨v, e3, r1⟩ := rdL_get g.1.2 e1
    obtain ⟨u, e4, r2⟩ := rdL_get g.2.2 e2
    obtain ⟨T, v', u', rfl, hT, rfl, q1, q2⟩ := y
    have q1 := q1 vs (sqT_of g.1.1)
    have q2 := q2 us (sqT_of g.2.1)
    rw [e3] at q1
    rw [e4] at q2
    cases q1
    cases q2
    exact ⟨grow_upd hT, _, e5, pair_rd al hT r1 r2⟩
theorem enum_at {xs : List D} {f : Nat → D → D} {i : Nat} (hi : i < (List.zipWith f (List.range xs.length) xs).length) : ∃ x, xs[i]? = some x ∧ (List.zipWith f (List.range xs.length) xs)[i]? = some (f i x) := by
  rw [List.length_zipWith, List.length_range] at hi
  have h1 : i < xs.length := by omega
  exact ⟨_, List.getElem?_eq_getElem h1, by rw [List.getElem?_zipWith, List.getElem?_range h1, List.getElem?_eq_getElem h1]⟩
theorem walk_enumL {a : Addr} {xs : List D} {vs : List V} : Walk K (Ite K a) (List.zipWith (fun (i : Nat) x => .tup [.int (i : Int), x]) (List.range xs.length) xs) fun B F H => GL K a xs vs B F H where
  stay := GL.stay
  stop := fun B F H g => ⟨vs, SqL.of g.1.2, by rw [List.length_zipWith, List.length_range, Nat.min_self, rdL_len g.2]; exact Nat.le_refl _⟩
  go := fun B F H i g hi => by
    obtain ⟨x, e1, _⟩ := enum_at hi
    obtain ⟨v, e3, _⟩ := rdL_get g.2 e1
    exact ⟨vs, v, SqL.of g.1.2, e3⟩
  yld := fun B F H i x H' g al hi y => by
    obtain ⟨d, e1, e5⟩ := enum_at hi
    obtain ⟨v, e3, r1⟩ := rdL_get g.2 e1
    obtain ⟨T, v', rfl, hT, rfl, q1⟩ := y
    have q1 := q1 vs (SqL.of g.1.2)
    rw [e3] at q1
    cases q1
    exact ⟨grow_upd hT, _, e5, pair_rd al hT rd_int r1⟩
theorem walk_enumT {a : Addr} {xs : List D} {vs : List V} : Walk K (IteT K a vs.length) (List.zipWith (fun (i : Nat) x => .tup [.int (i : Int), x]) (List.range xs.length) xs) fun B F H => GT K a xs vs B F H where
  stay := GT.stay
  stop := fun B F H g => ⟨vs, sqT_of g.1, rfl, by rw [List.length_zipWith, List.length_range, Nat.min_self, rdL_len g.2]; exact Nat.le_refl _⟩
  go := fun B F H i g hi => by
    obtain ⟨x, e1, _⟩ := enum_at hi
    obtain ⟨v, e3, _⟩ := rdL_get g.2 e1
    exact ⟨vs, v, sqT_of g.1, rfl, e3⟩
  yld := fun B F H i x H' g al hi y => by
    obtain ⟨d, e1, e5⟩ := enum_at hi
    obtain ⟨v, e3, r1⟩ := rdL_get g.2 e1
    obtain ⟨T, v', rfl, hT, rfl, q1⟩ := y
    have q1 := q1 vs (sqT_of g.1)
    rw [e3] at q1
    cases q1
    exact ⟨grow_upd hT, _, e5, pair_rd al hT rd_int r1⟩
end
/-! ### the iterator that comes -/
def IterReady (K : PySem.W.Frag) (B : Addr → Prop) (F : Fp) (H : Hp) (σ : L2.St) (env : En) (it : It') (ds : List D) (J : L2.It) : Prop := match it with
  | .own i => ∃ a vs, J = Itl K a ∧ F i = [a] ∧ H a = some (.lst vs) ∧ rdL K (av B F) H ds vs ∧ σ[i]? = some (some (.ref a)) ∧ env[i]? = some none
  | _ => ∃ G, Walk K J ds G ∧ G B F H
def tI (K : PySem.W.Frag) (W : WX) (it : It') (ev : Ev (List D)) : TI := fun σ H R => ∃ B F env, Ok K B F H σ env ∧ pst K W B σ F H (fun ds env' F' H' => ∀ J, IterReady K B F' H' σ env' it ds J → R J H') (ev env)
structure Entered (K : PySem.W.Frag) (B : Addr → Prop) (F : Fp) (H : Hp) (σ : L2.St) (env : En) (it : It') (ds : List D) (J : L2.It) (B1 : Addr → Prop) (F1 : Fp) (G : Gd) : Prop where
  ok : Ok K B1 F1 H σ env
  walk : Walk K J ds G
  g : G B1 F1 H
  off : ∀ a, av B1 F1 a → av B F a
  sub : ∀ a, B a → B1 a
  fst : Stp F H F1 H
  back : ∀ (Z : Addr → Prop) σ2 F2 H2 env2, (∀ a, Z a → ¬ av B1 F1 a) → Stp F1 H F2 H2 → Ok K (fun a => B1 a ∨ Z a) F2 H2 σ2 env2 → G (fun a => B1 a ∨ Z a) F2 H2 → (∀ i, it.slot = some i → σ2[i]? = σ[i]? ∧ (env2[i]? = some none ∨ env2[i]? = none)) →
    ∃ F3, Stp F H F3 H2 ∧ (∀ a, av (fun a => B a ∨ Z a) F3 a → av (fun a => B1 a ∨ Z a) F2 a) ∧ ∀ env3, (env3 = env2 ∨ ∃ i, it.slot = some i ∧ env3 = env2.set i (some (.ol ds))) → Ok K (fun a => B a ∨ Z a) F3 H2 σ2 env3
theorem enter {K : PySem.W.Frag} {B : Addr → Prop} {F : Fp} {H : Hp} {σ : L2.St} {env : En} {it : It'} {ds : List D} {J : L2.It} (k : Ok K B F H σ env) (r : IterReady K B F H σ env it ds J) : ∃ B1 F1 G, Entered K B F H σ env it ds J B1 F1 G := by
  have plain : (∃ G, Walk K J ds G ∧ G B F H) → it.slot = none → ∃ B1 F1 G, Entered K B F H σ env it ds J B1 F1 G := fun ⟨G, w, g⟩ hs =>
    ⟨B, F, G, k, w, g, fun a h => h, fun a h => h, .refl, fun Z σ2 F2 H2 env2 _ s k2 _ _ => ⟨F2, s, fun a h => h, fun env3 h => by
      rcases h with rfl | ⟨i, e, _⟩
      · exact k2
      · rw [hs] at e; cases e⟩⟩
  cases it with
  | seq a => exact plain r rfl
  | rng a => exact plain r rfl
  | zip a => exact plain r rfl
  | enum a => exact plain r rfl
  | own i =>
    obtain ⟨a, vs, rfl, ef, ea, hr, es, en⟩ := r
    have less : ∀ b, av (fun b => B b ∨ b ∈ F i) (putF F i []) b → av B F b := fun b h => by
      rcases h with (h | h) | h
      · exact .inl h
      · exact .inr ⟨i, h⟩
      · rcases inF_put h with h | h
        · cases h
        · exact .inr h
    have off1 : ∀ b, b ∈ F i → ¬ inF (putF F i []) b := fun b hb ⟨j, hj⟩ => by
      by_cases e : j = i
      · rw [e, putF_same] at hj; cases hj
      · rw [putF_ne e] at hj
        exact e (k.dj j i b hj hb)
    have ha : a ∈ F i := by rw [ef]; exact List.mem_cons_self
    refine ⟨fun b => B b ∨ b ∈ F i, putF F i [], GO K a ds vs, ⟨⟨k.len, fun j w e => ?_, fun j => ?_, fun j j' b h h' => ?_, fun b h => k.there b (less b h), fun b h z => ?_⟩, walk_list GO.stay fun B2 F2 H2 g => ⟨SqL.of g.2.1, g.2.2⟩, ⟨off1 a ha, ea, rdL_less less hr⟩, less, fun b h => .inl h, ⟨fun _ _ _ e => e, fun b h => (inF_put h).elim (fun z => nomatch z) .inl⟩, fun Z σ2 F2 H2 env2 hz s k2 g h => ?_⟩⟩
    · have ne : j ≠ i := fun z => by rw [z, en] at e; cases e
      obtain ⟨v, e1, r1⟩ := k.at_ j w e
      exact ⟨v, e1, by rw [putF_ne ne]; exact rw_less less r1⟩
    · by_cases e : j = i
      · rw [e, putF_same]; exact List.nodup_nil
      · rw [putF_ne e]; exact k.nd j
    · by_cases e : j = i
      · rw [e, putF_same] at h; cases h
      · by_cases e' : j' = i
        · rw [e', putF_same] at h'; cases h'
        · rw [putF_ne e] at h
          rw [putF_ne e'] at h'
          exact k.dj j j' b h h'
    · rcases h with h | h
      · rcases inF_put z with z | z
        · cases z
        · exact k.sep b h z
      · exact off1 b h z
    · obtain ⟨hσ, hn⟩ := h i rfl
      have less2 : ∀ b, av (fun b => B b ∨ Z b) (putF F2 i (F i)) b → av (fun b => (B b ∨ b ∈ F i) ∨ Z b) F2 b := fun b h => by
        rcases h with (h | h) | h
        · exact .inl (.inl (.inl h))
        · exact .inl (.inr h)
        · rcases inF_put h with h | h
          · exact .inl (.inl (.inr h))
          · exact .inr h
      refine ⟨putF F2 i (F i), ⟨fun b o n e => s.keep b o (fun z => n ?_) e, fun b h => ?_⟩, less2, fun env3 h3 => ⟨?_, fun j w e => ?_, fun j => ?_, fun j j' b h h' => ?_, fun b h => k2.there b (less2 b h), fun b h z => ?_⟩⟩
      · rcases inF_put z with z | z
        · cases z
        · exact z
      · rcases inF_put h with h | h
        · exact .inl ⟨i, h⟩
        · rcases s.new b h with h | h
          · rcases inF_put h with h | h
            · cases h
            · exact .inl h
          · exact .inr h
      · rcases h3 with rfl | ⟨_, _, rfl⟩
        · exact k2.len
        · rw [List.length_set]; exact k2.len
      · by_cases ej : j = i
        · subst ej
          rcases h3 with rfl | ⟨j', ej', rfl⟩
          · rcases hn with hn | hn <;> (rw [hn] at e; cases e)
          · have ej' : j = j' := Option.some.inj ej'
            subst ej'
            by_cases hl : j < env2.length
            · rw [List.getElem?_set_self hl] at e
              cases e
              refine ⟨.ref a, by rw [hσ]; exact es, ?_⟩
              rw [rw', putF_same]
              exact ⟨a, vs, rfl, ef, g.2.1, rdL_less less2 g.2.2⟩
            · rw [List.getElem?_eq_none (by rw [List.length_set]; omega)] at e
              cases e
        · have e : env2[j]? = some (some w) := by
            rcases h3 with rfl | ⟨j', ej', rfl⟩
            · exact e
            · have ej' : i = j' := Option.some.inj ej'
              subst ej'
              rw [List.getElem?_set_ne (fun z => ej z.symm)] at e
              exact e
          obtain ⟨v, e1, r1⟩ := k2.at_ j w e
          exact ⟨v, e1, by rw [putF_ne ej]; exact rw_less less2 r1⟩
      · by_cases e : j = i
        · rw [e, putF_same]; exact k.nd i
        · rw [putF_ne e]; exact k2.nd j
      · by_cases e : j = i
        · by_cases e' : j' = i
          · rw [e, e']
          · rw [e, putF_same] at h
            rw [putF_ne e'] at h'
            exact absurd ⟨j', h'⟩ (k2.sep b (.inl (.inr h)))
        · by_cases e' : j' = i
          · rw [e', putF_same] at h'
            rw [putF_ne e] at h
            exact absurd ⟨j, h⟩ (k2.sep b (.inl (.inr h')))
          · rw [putF_ne e] at h
            rw [putF_ne e'] at h'
            exact k2.dj j j' b h h'
      · rcases h with h | h
        · rcases inF_put z with z | z
          · exact k.sep b h ⟨i, z⟩
          · exact k2.sep b (.inl (.inl h)) z
        · rcases inF_put z with z | z
          · exact hz b h (.inl (.inr z))
          · exact k2.sep b (.inr h) z
def EL.len : EL → Nat
  | .nil => 0
  | .cons _ as => as.len + 1
/-! ### the iterators -/
theorem _root_.L2.PI.or {X : Cx} {tg e : Expr} {wi wi' : TI} (h : PI X tg e wi) (h' : PI X tg e wi') : PI X tg e fun σ H R => wi σ H R ∨ wi' σ H R := ⟨fun pins s σ H R I q => q.elim (h.run pins s σ H R I) (h'.run pins s σ H R I)⟩
theorem _root_.L2.PI.imp {X : Cx} {tg e : Expr} {t t' : TI} (h : PI X tg e t) (hi : ∀ σ H R, t' σ H R → t σ H R) : PI X tg e t' := ⟨fun pins s σ H R I q => h.run pins s σ H R I (hi σ H R q)⟩
section
variable {X : Cx} {W : WX} {C : Ct} {tg a b : Expr} {es : List Expr} {pos p : Pos}
abbrev SI' (X : Cx) (W : WX) (tg ast : Expr) (C : Ct) (it : It') : Prop := PI X tg ast (tI X.K W it (evIt C it))
/-- any value that is walked -/
def iSeq (K : PySem.W.Frag) (tl : TE) : TI := fun σ H R => tl σ H fun x H1 => (∃ a, x = .ref a ∧ (∃ xs, SqL K H1 a xs) ∧ R (Itl K a) H1) ∨ (∃ a, x = .ref a ∧ (∃ xs, SqT K H1 a xs) ∧ R (Itt K a) H1) ∨ ∃ z, x = .str z ∧ R (Its z) H1
theorem pi_seq {l : Expr} {tl : TE} (hl : PE X l tl) : PI X tg l (iSeq X.K tl) := by
  refine ⟨fun pins s σ H R I h => ?_⟩
  refine thn (hl.run pins s σ H _ I h) fun v s1 ⟨x, H1, I1, r1, q1⟩ => ?_
  rcases q1 with ⟨a, e, ⟨xs, hq⟩, q⟩ | ⟨a, e, ⟨xs, hq⟩, q⟩ | ⟨z, e, q⟩
  · subst e
    cases r1
    obtain ⟨its, rv, p, hz⟩ := I1.list hq
    refine wpAny_pyIter_list p.isList ?_
    refine ⟨s1.heap.objs.size, [s1.heap.objs.size], _, _, H1, rfl, I1.kept (t' := s1.toks) fun b o e => Heap.get?_push_of_some _ e, turn_list a _, ⟨_, Heap.get?_push_size _ rfl, rfl, rfl⟩, fun b hb => ?_, q⟩
    have e : b = s1.heap.objs.size := by simpa using hb
    subst e
    exact I1.fpOk (Nat.le_refl _) (I1.hok.fresh (Nat.le_refl _))
  · subst e
    cases r1
    obtain ⟨its, rv, p, hz⟩ := I1.tuple hq
    refine wpAny_pyIter_tuple (show s1.heap.IsTuple a its.toArray from p) ?_
    refine ⟨s1.heap.objs.size, [s1.heap.objs.size], _, _, H1, rfl, I1.kept (t' := s1.toks) fun b o e => Heap.get?_push_of_some _ e, turn_tuple a _, ⟨_, Heap.get?_push_size _ rfl, rfl, rfl⟩, fun b hb => ?_, q⟩
    have e : b = s1.heap.objs.size := by simpa using hb
    subst e
    exact I1.fpOk (Nat.le_refl _) (I1.hok.fresh (Nat.le_refl _))
  · subst e
    obtain ⟨t, rfl⟩ := r1
    cases ha : z.cps.all (· < 128)
    · exact wpAny_pyIter_wide ha (pi_one (tk := s1.toks) I1 _ (turn_str _ z t "str_iterator" (.inr rfl)) ⟨_, Heap.get?_push_size _ rfl, rfl, rfl⟩ q)
    · exact wpAny_pyIter_ascii ha (pi_one (tk := s1.toks) I1 _ (turn_str _ z t "str_ascii_iterator" (.inl rfl)) ⟨_, Heap.get?_push_size _ rfl, rfl, rfl⟩ q)
theorem sit_seq {e : E} (h : SE X W a (evE C e)) : SI' X W tg a C (.seq e) := (pi_seq h).imp fun σ H R h => by
  obtain ⟨B, F, env, k, h⟩ := h
  rw [evIt] at h
  refine ⟨B, F, env, k, pst_imp (pst_bind h) fun d e1 F1 H1 _ _ z v hv => ?_⟩
  obtain ⟨_, k1, z⟩ := z
  obtain ⟨ds, e2, z⟩ := pst_lift z
  have zz := pst_here z k1
  cases d with
  | lst xs =>
    cases e2
    rw [rd] at hv
    obtain ⟨a, vs, rfl, h1, h2⟩ := hv
    exact .inl ⟨a, rfl, ⟨vs, SqL.of h1.2⟩, zz _ ⟨GL X.K a ds vs, walk_list GL.stay (fun B F H (g : GL X.K a ds vs B F H) => ⟨SqL.of g.1.2, g.2⟩), h1, h2⟩⟩
  | tup xs =>
    cases e2
    rw [rd] at hv
    obtain ⟨a, vs, rfl, h1, h2⟩ := hv
    exact .inr (.inl ⟨a, rfl, ⟨vs, sqT_of h1⟩, zz _ ⟨GT X.K a ds vs, walk_tup GT.stay (fun B F H (g : GT X.K a ds vs B F H) => ⟨sqT_of g.1, g.2⟩), h1, h2⟩⟩)
  | scr ns =>
    cases e2
    rw [rd] at hv
    obtain ⟨a, rfl, h1⟩ := hv
    have sq : ∀ B F H, GS X.K a (ns.map V.int) B F H → SqL X.K H a (ns.map V.int) := fun B F H g => g.imp (·.2) id
    exact .inl ⟨a, rfl, ⟨_, sq B F1 H1 h1⟩, zz _ ⟨GS X.K a (ns.map V.int), walk_list GS.stay (fun B F H g => ⟨sq B F H g, rdL_ints ns⟩), h1⟩⟩
  | str x =>
    cases e2
    rw [rd] at hv
    subst hv
    exact .inr (.inr ⟨x, rfl, zz _ ⟨_, walk_str, trivial⟩⟩)
  | _ => cases e2
theorem sit_own {i : Nat} {x : Str} (hN : X.N[i]? = some x) (hv : Vis X.env.scope x) (hd : (x == ("__debug__" : Str)) = false) (hcd : (x == ("__classdict__" : Str)) = false) : SI' X W tg (.Name x pos) C (.own i) :=
  (pi_list (pe_var hN hv hd hcd)).imp fun σ H R h => by
    obtain ⟨B, F, env, k, h⟩ := h
    rw [evIt] at h
    split at h
    · rename_i ds e
      have e := getW_some e
      obtain ⟨v, e1, r⟩ := k.at_ i _ e
      rw [rw'] at r
      obtain ⟨a, vs, rfl, ef, ea, r⟩ := r
      have hl : i < env.length := (List.getElem?_eq_some_iff.mp e).1
      have k2 : Ok X.K B F H σ (env.set i none) := ⟨by rw [List.length_set, k.len], fun j w e => by
        by_cases ej : i = j
        · subst ej
          rw [List.getElem?_set_self hl] at e
          cases e
        · rw [List.getElem?_set_ne ej] at e
          exact k.at_ j w e, k.nd, k.dj, k.there, k.sep⟩
      exact ⟨.ref a, e1, a, rfl, ⟨vs, SqL.of ea⟩, pst_here h k2 _ ⟨a, vs, rfl, ef, ea, r, e1, List.getElem?_set_self hl⟩⟩
    · exact h.elim
theorem rdL1 {K : PySem.W.Frag} {M : Addr → Prop} {H : Hp} {d : D} {vs : List V} (h : rdL K M H [d] vs) : ∃ v, vs = [v] ∧ rd K M H d v := by
  rw [rdL] at h
  obtain ⟨v, r, rfl, h1, h2⟩ := h
  rw [rdL] at h2
  subst h2
  exact ⟨v, rfl, h1⟩
theorem rdL2 {K : PySem.W.Frag} {M : Addr → Prop} {H : Hp} {d e : D} {vs : List V} (h : rdL K M H [d, e] vs) : ∃ v u, vs = [v, u] ∧ rd K M H d v ∧ rd K M H e u := by
  rw [rdL] at h
  obtain ⟨v, r, rfl, h1, h2⟩ := h
  obtain ⟨u, rfl, h3⟩ := rdL1 h2
  exact ⟨v, u, rfl, h1, h3⟩
theorem rdL3 {K : PySem.W.Frag} {M : Addr → Prop} {H : Hp} {d e f : D} {vs : List V} (h : rdL K M H [d, e, f] vs) : ∃ v u w, vs = [v, u, w] ∧ rd K M H d v ∧ rd K M H e u ∧ rd K M H f w := by
  rw [rdL] at h
  obtain ⟨v, r, rfl, h1, h2⟩ := h
  obtain ⟨u, w, rfl, h3, h4⟩ := rdL2 h2
  exact ⟨v, u, w, rfl, h1, h3, h4⟩
theorem tL_of {it : It'} {as : EL} {g : List D → Option (List D)} {σ : L2.St} {H : Hp} {R : L2.It → Hp → Prop} {P : List V → Hp → Prop} (hev : ∀ env, evIt C it env = (evL C as env).bind fun ds env1 => lift (g ds) env1)
    (hs : it.slot = none) (hP : ∀ B F H' ds ds' vs, rdL X.K (av B F) H' ds vs → g ds = some ds' → (∀ J G, Walk X.K J ds' G → G B F H' → R J H') → P vs H') (h : tI X.K W it (evIt C it) σ H R) : tL X.K W (evL C as) σ H P := by
  obtain ⟨B, F, env, k, h⟩ := h
  rw [hev] at h
  refine ⟨B, F, env, k, pst_imp (pst_bind h) fun ds e1 F1 H1 _ _ z vs hv => ?_⟩
  obtain ⟨_, k1, z⟩ := z
  obtain ⟨ds', e2, z⟩ := pst_lift z
  have z := pst_here z k1
  refine hP B F1 H1 ds ds' vs hv e2 fun J G w g => z J ?_
  cases it with
  | own i => cases hs
  | _ => exact ⟨G, w, g⟩
theorem evL_len {C : Ct} : ∀ (as : EL) {env e : En} {ds : List D}, evL C as env = .ok ds e → ds.length = as.len
  | .nil, _, _, _, h => by rw [evL] at h; cases h; rfl
  | .cons a as, _, _, _, h => by
    rw [evL] at h
    obtain ⟨d, e1, _, h⟩ := bind_ok h
    obtain ⟨ds, e2, h1, h⟩ := bind_ok h
    cases h
    show ds.length + 1 = as.len + 1
    rw [evL_len as h1]
theorem tL_ofN {it : It'} {as : EL} {n : Nat} {g : List D → Option (List D)} {σ : L2.St} {H : Hp} {R : L2.It → Hp → Prop} {P : List V → Hp → Prop} (hn : as.len = n) (hev : ∀ env, evIt C it env = (evL C as env).bind fun ds env1 => lift (g ds) env1)
    (hs : it.slot = none) (hP : ∀ B F H' ds ds' vs, ds.length = n → rdL X.K (av B F) H' ds vs → g ds = some ds' → (∀ J G, Walk X.K J ds' G → G B F H' → R J H') → P vs H') (h : tI X.K W it (evIt C it) σ H R) : tL X.K W (evL C as) σ H P := by
  refine tL_of (g := fun ds => if ds.length = n then g ds else none) (fun env => ?_) hs (fun B F H' ds ds' vs hv e q => ?_) h
  · rw [hev]
    cases z : evL C as env with
    | ok ds e => (show lift (g ds) e = lift (if ds.length = n then g ds else none) e; rw [if_pos (by rw [evL_len as z, hn])])
    | exc x e => rfl
    | stuck => rfl
  · split at e
    · rename_i hl
      exact hP B F H' ds ds' vs hl hv e q
    · cases e
theorem sit_rng1 {as : EL} (hg : Gl X "range") (hm : X.mg "range" = none) (ha : SLs X W [a] (evL C as)) (hs : starEach [a] X.env = [(false, eval a X.env)]) (hl : as.len = 1) : SI' X W tg (.Call (.Name "range" p) [a] [] pos) C (.rng as) :=
  (pi_range1W hg hm ha hs).imp fun σ H R h => tL_ofN hl (fun env => by rw [evIt]) rfl (fun B F H' ds ds' vs hn hv e q => by
    match ds, hn, e with
    | [.int n], _, e =>
      obtain ⟨v, rfl, r⟩ := rdL1 hv
      rw [rd] at r
      subst r
      replace e : (if -(2 ^ 62) ≤ n ∧ n < 2 ^ 62 then some ((List.range n.toNat).map fun k : Nat => D.int (k : Int)) else some ((List.range n.toNat).map fun k : Nat => D.int (k : Int))) = some ds' := e
      rw [ite_self] at e
      cases e
      exact ⟨n, rfl, q _ _ (walk_range (lo := 0) fun k => by rw [Int.zero_add]) trivial⟩) h
theorem sit_rng2 {as : EL} (hg : Gl X "range") (hm : X.mg "range" = none) (ha : SLs X W [a, b] (evL C as)) (hs : starEach [a, b] X.env = [(false, eval a X.env), (false, eval b X.env)]) (hs2 : starEach [b] X.env = [(false, eval b X.env)]) (hl : as.len = 2) : SI' X W tg (.Call (.Name "range" p) [a, b] [] pos) C (.rng as) :=
  (pi_range2W hg hm ha hs hs2).imp fun σ H R h => tL_ofN hl (fun env => by rw [evIt]) rfl (fun B F H' ds ds' vs hn hv e q => by
    match ds, hn, e with
    | [.int i, .int j], _, e =>
      obtain ⟨v, u, rfl, r, r'⟩ := rdL2 hv
      rw [rd] at r r'
      subst r
      subst r'
      cases e
      exact ⟨i, j, rfl, q _ _ (walk_range (lo := i) fun k => rfl) trivial⟩) h
theorem sit_rng3 {c : Expr} {as : EL} (hg : Gl X "range") (hm : X.mg "range" = none) (ha : SLs X W [a, b, c] (evL C as)) (hs : starEach [a, b, c] X.env = (false, eval a X.env) :: starEach [b, c] X.env) (hpl : (backTo pos (starEach [b, c] X.env)).any (·.1) = false) (hl : as.len = 3) : SI' X W tg (.Call (.Name "range" p) [a, b, c] [] pos) C (.rng as) :=
  (pi_range3 hg hm ha hs hpl).imp fun σ H R h => tL_ofN hl (fun env => by rw [evIt]) rfl (fun B F H' ds ds' vs hn hv e q => by
    match ds, hn, e with
    | [.int i, .int j, .int c], _, e =>
      obtain ⟨v, u, w, rfl, r, r', r''⟩ := rdL3 hv
      rw [rd] at r r' r''
      subst r
      subst r'
      subst r''
      replace e : (if c = -1 ∧ -(2 ^ 62) ≤ i ∧ i < 2 ^ 62 ∧ -(2 ^ 62) ≤ j ∧ j < 2 ^ 62 then some ((List.range (i - j).toNat).map fun k : Nat => D.int (i - (k : Int))) else none) = some ds' := e
      split at e
      · rename_i h
        cases e
        obtain ⟨rfl, h1, h2, h3, h4⟩ := h
        exact ⟨i, j, -1, _, rfl, RgC.neg h1 h2 h3 h4, q _ _ walk_down trivial⟩
      · cases e) h
theorem sit_zip {as : EL} {elts : List Expr} {kk : Nat} {tpos : Pos} (hg : Gl X "zip") (hm : X.mg "zip" = none) (ha : SLs X W [a, b] (evL C as)) (hs : starEach [a, b] X.env = (false, eval a X.env) :: starEach [b] X.env) (hpl : (backTo pos (starEach [b] X.env)).any (·.1) = false) (hl : as.len = 2) :
    SI' X W (.Tuple elts kk tpos) (.Call (.Name "zip" p) [a, b] [] pos) C (.zip as) :=
  (RZ.pi_zipA hg hm ha hs hpl).imp fun σ H R h => tL_ofN hl (fun env => by rw [evIt]) rfl (fun B F H' ds ds' vs hn hv e q => by
    match ds, hn, e with
    | [.lst xs, .lst ys], _, e =>
      obtain ⟨v, u, rfl, r, r'⟩ := rdL2 hv
      rw [rd] at r r'
      obtain ⟨a1, vs1, rfl, h1, h2⟩ := r
      obtain ⟨a2, vs2, rfl, h3, h4⟩ := r'
      cases e
      exact ⟨a1, a2, vs1, vs2, rfl, .inl ⟨SqL.of h1.2, SqL.of h3.2, q _ _ walk_zipL ⟨⟨h1, h2⟩, h3, h4⟩⟩⟩
    | [.tup xs, .tup ys], _, e =>
      obtain ⟨v, u, rfl, r, r'⟩ := rdL2 hv
      rw [rd] at r r'
      obtain ⟨a1, vs1, rfl, h1, h2⟩ := r
      obtain ⟨a2, vs2, rfl, h3, h4⟩ := r'
      cases e
      exact ⟨a1, a2, vs1, vs2, rfl, .inr ⟨sqT_of h1, sqT_of h3, q _ _ walk_zipT ⟨⟨h1, h2⟩, h3, h4⟩⟩⟩) h
/-- enumerate of either kind -/
theorem pi_enumA {e : Expr} {ta : TA} {tpos : Pos} {elts : List Expr} {kk : Nat} (hg : Gl X "enumerate") (hm : X.mg "enumerate" = none) (ha : PA X [e] ta) (hs : starEach [e] X.env = [(false, eval e X.env)]) :
    PI X (.Tuple elts kk tpos) (.Call (.Name "enumerate" p) [e] [] pos) (fun σ H R => ta σ H fun vs H1 => ∃ a xs, vs = [.ref a] ∧ ((SqL X.K H1 a xs ∧ R (Ite X.K a) H1) ∨ (SqT X.K H1 a xs ∧ R (IteT X.K a xs.length) H1))) := by
  refine ⟨fun pins s σ H R I h => ?_⟩
  refine Call_ (ld_blt I hg hm boot_enumerate (PyProof.Rows.callWith_type1 (thn (ha.run pos pins s σ H _ I h) fun us s1 ⟨vs, H1, I1, r1, q1⟩ => ?_) hs rfl))
  obtain ⟨a, xs, ex, q⟩ := q1
  subst ex
  cases r1 with
  | cons r rr =>
    cases rr
    cases r
    rcases q with ⟨hq, q⟩ | ⟨hq, q⟩
    · obtain ⟨its, rv, p', hz⟩ := I1.list hq
      refine call_enumerate_list p'.isList fun h' he hit hsz hk => wpAny_pyIter_enum he ?_
      have I2 : L2.Inv X pins σ H1 { s1 with heap := h' } := I1.kept (t' := s1.toks) hk
      refine ⟨s1.heap.objs.size + 1, [s1.heap.objs.size + 1, s1.heap.objs.size], _, _, H1, rfl, I2, turn_enum a (s1.heap.objs.size + 1) s1.heap.objs.size, ⟨⟨.none, he⟩, hit, Nat.succ_ne_self _⟩, fun b hb => ?_, q⟩
      have e' : b = s1.heap.objs.size + 1 ∨ b = s1.heap.objs.size := by simpa using hb
      have hle : s1.heap.objs.size ≤ b := by
        rcases e' with z | z
        · rw [z]; exact Nat.le_add_right _ _
        · rw [z]; exact Nat.le_refl _
      exact I1.fpOk hle (I1.hok.fresh hle)
    · obtain ⟨its, rv, p', hz⟩ := I1.tuple hq
      have hal : a < s1.heap.objs.size := by obtain ⟨o, ho, _⟩ := p'; exact Heap.lt_size ho
      refine PySem.gw_enum_begins (PySem.begins_tuple a its.toArray) p' fun h' he hit hsz hk => wpAny_pyIter_enum he ?_
      have I2 : L2.Inv X pins σ H1 { s1 with heap := h' } := I1.kept (t' := s1.toks) hk
      refine ⟨s1.heap.objs.size + 1, [s1.heap.objs.size + 1, s1.heap.objs.size], _, _, H1, rfl, I2, turn_enumT a (s1.heap.objs.size + 1) s1.heap.objs.size xs.length, ⟨⟨.none, he⟩, ⟨_, hit, rfl, rfl⟩, Nat.succ_ne_self _, Nat.ne_of_lt hal, Nat.ne_of_gt (Nat.lt_succ_of_lt hal), Nat.zero_le _⟩, fun b hb => ?_, q⟩
      have e' : b = s1.heap.objs.size + 1 ∨ b = s1.heap.objs.size := by simpa using hb
      have hle : s1.heap.objs.size ≤ b := by
        rcases e' with z | z
        · rw [z]; exact Nat.le_add_right _ _
        · rw [z]; exact Nat.le_refl _
      exact I1.fpOk hle (I1.hok.fresh hle)
theorem sit_enum {as : EL} {elts : List Expr} {kk : Nat} {tpos : Pos} (hg : Gl X "enumerate") (hm : X.mg "enumerate" = none) (ha : SLs X W [a] (evL C as)) (hs : starEach [a] X.env = [(false, eval a X.env)]) (hl : as.len = 1) :
    SI' X W (.Tuple elts kk tpos) (.Call (.Name "enumerate" p) [a] [] pos) C (.enum as) :=
  (pi_enumA hg hm ha hs).imp fun σ H R h => tL_ofN hl (fun env => by rw [evIt]) rfl (fun B F H' ds ds' vs hn hv e q => by
    match ds, hn, e with
    | [.lst xs], _, e =>
      obtain ⟨v, rfl, r⟩ := rdL1 hv
      rw [rd] at r
      obtain ⟨a1, vs1, rfl, h1, h2⟩ := r
      cases e
      exact ⟨a1, vs1, rfl, .inl ⟨SqL.of h1.2, q _ _ walk_enumL ⟨h1, h2⟩⟩⟩
    | [.tup xs], _, e =>
      obtain ⟨v, rfl, r⟩ := rdL1 hv
      rw [rd] at r
      obtain ⟨a1, vs1, rfl, h1, h2⟩ := r
      cases e
      exact ⟨a1, vs1, rfl, .inr ⟨sqT_of h1, q _ _ walk_enumT ⟨h1, h2⟩⟩⟩) h
end
end Ev

set_option Elab.async false
set_option linter.all false
set_option maxRecDepth 100000
set_option maxHeartbeats 4000000
namespace Ev
open PySem PySem.Spec PyProof.Rows L2 He Gw
/-! ### slots forgotten, slots filled -/
theorem wipe_get {σ : L2.St} {j : Nat} : ∀ {vs : List Nat}, (wipe σ vs)[j]? = if j ∈ vs then (if j < σ.length then some none else none) else σ[j]?
  | [] => by simp [wipe]
  | v :: vs => by
    unfold wipe
    by_cases e : v = j
    · subst e
      rw [if_pos List.mem_cons_self]
      by_cases hl : v < σ.length
      · rw [if_pos hl, List.getElem?_set_self (by rw [wipe_length]; exact hl)]
      · rw [if_neg hl, List.getElem?_eq_none (by rw [List.length_set, wipe_length]; omega)]
    · rw [List.getElem?_set_ne e, wipe_get]
      by_cases m : j ∈ vs
      · rw [if_pos m, if_pos (List.mem_cons_of_mem _ m)]
      · rw [if_neg m, if_neg (by rw [List.mem_cons, not_or]; exact ⟨fun z => e z.symm, m⟩)]
theorem wipeE_length (env : En) : ∀ vs : List Nat, (wipeE env vs).length = env.length
  | [] => rfl
  | v :: vs => by unfold wipeE; rw [List.length_set, wipeE_length env vs]
theorem wipeE_get {env : En} {j : Nat} : ∀ {vs : List Nat}, (wipeE env vs)[j]? = if j ∈ vs then (if j < env.length then some none else none) else env[j]?
  | [] => by simp [wipeE]
  | v :: vs => by
    unfold wipeE
    by_cases e : v = j
    · subst e
      rw [if_pos List.mem_cons_self]
      by_cases hl : v < env.length
      · rw [if_pos hl, List.getElem?_set_self (by rw [wipeE_length]; exact hl)]
      · rw [if_neg hl, List.getElem?_eq_none (by rw [List.length_set, wipeE_length]; omega)]
    · rw [List.getElem?_set_ne e, wipeE_get]
      by_cases m : j ∈ vs
      · rw [if_pos m, if_pos (List.mem_cons_of_mem _ m)]
      · rw [if_neg m, if_neg (by rw [List.mem_cons, not_or]; exact ⟨fun z => e z.symm, m⟩)]
theorem wipe_eq {σ σ2 : L2.St} {vs : List Nat} (hl : σ2.length = σ.length) (h : ∀ j, j ∉ vs → σ2[j]? = σ[j]?) : wipe σ2 vs = wipe σ vs := by
  apply List.ext_getElem?
  intro j
  rw [wipe_get, wipe_get, hl]
  split
  · rfl
  · rename_i m
    exact h j m
section
variable {K : PySem.W.Frag} {B : Addr → Prop} {F : Fp} {H H' : Hp} {σ : L2.St} {env : En}
theorem Ok.wipe (k : Ok K B F H σ env) (vs : List Nat) : Ok K B F H (wipe σ vs) (wipeE env vs) where
  len := by rw [wipeE_length, wipe_length, k.len]
  at_ := fun i w e => by
    rw [wipeE_get] at e
    rw [wipe_get]
    split at e
    · split at e <;> cases e
    · rename_i m
      rw [if_neg m]
      exact k.at_ i w e
  nd := k.nd
  dj := k.dj
  there := k.there
  sep := k.sep
/-- an object that stands in B is changed -/
theorem Ok.poke (k : Ok K B F H σ env) {p : Addr} (hp : B p) (h : ∀ a, a ≠ p → H' a = H a) (h' : H' p ≠ none) : Ok K B F H' σ env where
  len := k.len
  at_ := fun i w e => by
    obtain ⟨v, e1, r⟩ := k.at_ i w e
    refine ⟨v, e1, rw_stay ⟨fun a o n e => ?_, fun a h => .inl h⟩ w v (F i) (fun a ha => h a fun z => ?_) r⟩
    · rw [h a (fun z => n (by rw [z]; exact .inl hp)), e]
    · rw [z] at ha; exact k.sep p hp ⟨i, ha⟩
  nd := k.nd
  dj := k.dj
  there := fun a z => by
    by_cases e : a = p
    · rw [e]; exact h'
    · rw [h a e]; exact k.there a z
  sep := k.sep
theorem rdL_poke {p : Addr} (hp : B p) (h : ∀ a, a ≠ p → H' a = H a) {ds : List D} {vs : List V} (r : rdL K (av B F) H ds vs) : rdL K (av B F) H' ds vs :=
  rdL_stay ⟨fun a o n e => by rw [h a (fun z => n (by rw [z]; exact .inl hp)), e], fun a h => .inl h⟩ ds vs r
theorem rd_poke {p : Addr} (hp : B p) (h : ∀ a, a ≠ p → H' a = H a) {d : D} {v : V} (r : rd K (av B F) H d v) : rd K (av B F) H' d v :=
  rd_stay ⟨fun a o n e => by rw [h a (fun z => n (by rw [z]; exact .inl hp)), e], fun a h => .inl h⟩ d v r
theorem stp_put {i : Nat} : Stp F H (putF F i []) H := ⟨fun _ _ _ e => e, fun a h => (inF_put h).elim (fun z => by cases z) .inl⟩
theorem av_put {i : Nat} {a : Addr} (h : av B (putF F i []) a) : av B F a := h.imp id fun h => (inF_put h).elim (fun z => by cases z) id
/-- data into a slot; what it held is let go of -/
theorem Ok.set (k : Ok K B F H σ env) {i : Nat} {d : D} {v : V} (hi : i < env.length) (r : rd K (av B F) H d v) : Ok K B (putF F i []) H (σ.set i (some v)) (env.set i (some (.fz d))) where
  len := by rw [List.length_set, List.length_set, k.len]
  at_ := fun j w e => by
    by_cases ej : i = j
    · subst ej
      rw [List.getElem?_set_self hi] at e
      cases e
      refine ⟨v, List.getElem?_set_self (by rw [← k.len]; exact hi), ?_⟩
      rw [rw', putF_same]
      exact ⟨rfl, rd_less (fun a h => av_put h) r⟩
    · rw [List.getElem?_set_ne ej] at e
      obtain ⟨v', e1, r'⟩ := k.at_ j w e
      exact ⟨v', by rw [List.getElem?_set_ne ej]; exact e1, by rw [putF_ne (fun z => ej z.symm)]; exact rw_less (fun a h => av_put h) r'⟩
  nd := fun j => by
    by_cases e : j = i
    · rw [e, putF_same]; exact List.nodup_nil
    · rw [putF_ne e]; exact k.nd j
  dj := fun j j' a h h' => by
    by_cases e : j = i
    · rw [e, putF_same] at h; cases h
    · by_cases e' : j' = i
      · rw [e', putF_same] at h'; cases h'
      · rw [putF_ne e] at h
        rw [putF_ne e'] at h'
        exact k.dj j j' a h h'
  there := fun a h => k.there a (av_put h)
  sep := fun a h z => k.sep a h ((inF_put z).elim (fun z => by cases z) id)
end
theorem bind1_some {pn : Nat → Bool} {env env2 : En} {i : Nat} {w : Wv} (h : bind1 pn env i w = some env2) : pn i = false ∧ i < env.length ∧ env2 = env.set i (some w) := by
  unfold bind1 at h
  split at h
  · cases h
  · rename_i n
    rw [not_or] at n
    cases h
    exact ⟨by simpa using n.1, by omega, rfl⟩
def gL : List Nat → TGs
  | [] => gNil
  | i :: is => gCons (gName i) (gL is)
def gT (K : PySem.W.Frag) : Tg → TG
  | .nm i => gName i
  | .tup is => fun v σ H Q => gTup K is.length (gL is) v σ H Q ∨ gLst K is.length (gL is) v σ H Q
theorem pg_any {X : Cx} {pos : Pos} {es : List Expr} {k : Nat} {t : TGs} {n : Nat} (hc : X.calm = true) (h : PGs X es t) (h1 : (assignEach es X.env).length = n := by rfl) (h2 : List.findIdx? (fun x => x.fst) (assignEach es X.env) = none := by rfl) : PG X (.Tuple es k pos) (fun v σ H Q => gTup X.K n t v σ H Q ∨ gLst X.K n t v σ H Q) :=
  ⟨fun pins s σ H v u Q I r h' => h'.elim ((pg_tup hc h h1 h2).run pins s σ H v u Q I r) ((pg_lst hc h h1 h2).run pins s σ H v u Q I r)⟩
structure Filled (K : PySem.W.Frag) (B : Addr → Prop) (F : Fp) (H : Hp) (σ : L2.St) (pn : Nat → Bool) (is : List Nat) (env2 : En) (σ2 : L2.St) (F2 : Fp) : Prop where
  ok : Ok K B F2 H σ2 env2
  stp : Stp F H F2 H
  less : ∀ a, av B F2 a → av B F a
  other : ∀ j, j ∉ is → σ2[j]? = σ[j]?
  pins : ∀ j, pn j = true → σ2[j]? = σ[j]?
  len : σ2.length = σ.length
theorem gL_ok {K : PySem.W.Frag} {B : Addr → Prop} {pn : Nat → Bool} {H : Hp} {Q : L2.St → Hp → Prop} (is : List Nat) : ∀ (F : Fp) (σ : L2.St) (env env2 : En) (ds : List D) (vs : List V), Ok K B F H σ env → rdL K (av B F) H ds vs → bindL pn env is ds = some env2 →
    (∀ σ2 F2, Filled K B F H σ pn is env2 σ2 F2 → Q σ2 H) → is.length = vs.length ∧ gL is vs σ H Q := by
  induction is with
  | nil =>
    intro F σ env env2 ds vs k r e q
    cases ds with
    | nil =>
      cases e
      rw [rdL] at r
      subst r
      exact ⟨rfl, rfl, q σ F ⟨k, .refl, fun _ h => h, fun _ _ => rfl, fun _ _ => rfl, rfl⟩⟩
    | cons d ds => cases e
  | cons i is ih =>
    intro F σ env env2 ds vs k r e q
    cases ds with
    | nil => cases e
    | cons d ds =>
      rw [rdL] at r
      obtain ⟨v, vs, rfl, r1, r2⟩ := r
      unfold bindL at e
      cases z : bind1 pn env i (.fz d) with
      | none => rw [z] at e; cases e
      | some env1 =>
        rw [z] at e
        obtain ⟨hp, hi, rfl⟩ := bind1_some z
        obtain ⟨l, g⟩ := ih _ _ _ _ _ _ (k.set hi r1) (rdL_less (fun a h => av_put h) r2) e fun σ2 F2 f => q σ2 F2 ⟨f.ok, stp_put.trans f.stp, fun a h => av_put (f.less a h), fun j hj => by
          rw [List.mem_cons, not_or] at hj
          rw [f.other j hj.2, List.getElem?_set_ne (fun z => hj.1 z.symm)], fun j hj => by
          rw [f.pins j hj, List.getElem?_set_ne (fun z => by rw [z, hj] at hp; cases hp)], by rw [f.len, List.length_set]⟩
        exact ⟨by rw [List.length_cons, List.length_cons, l], v, vs, rfl, g⟩
theorem gT_ok {K : PySem.W.Frag} {B : Addr → Prop} {pn : Nat → Bool} {H : Hp} {Q : L2.St → Hp → Prop} {t : Tg} {F : Fp} {σ : L2.St} {env env2 : En} {d : D} {v : V} (k : Ok K B F H σ env) (r : rd K (av B F) H d v) (e : bindT pn env t d = some env2)
    (q : ∀ σ2 F2, Filled K B F H σ pn t.slots env2 σ2 F2 → Q σ2 H) : gT K t v σ H Q := by
  cases t with
  | nm i =>
    obtain ⟨hp, hi, rfl⟩ := bind1_some e
    exact q _ _ ⟨k.set hi r, stp_put, fun a h => av_put h, fun j hj => List.getElem?_set_ne (fun z => hj (by rw [← z]; exact List.mem_singleton.mpr rfl)), fun j hj => List.getElem?_set_ne (fun z => by rw [z, hj] at hp; cases hp), List.length_set⟩
  | tup is =>
    cases d with
    | tup ds =>
      rw [rd] at r
      obtain ⟨a, vs, rfl, h1, h2⟩ := r
      obtain ⟨l, g⟩ := gL_ok (Q := Q) is F σ env env2 ds vs k h2 e q
      exact .inl ⟨a, vs, rfl, sqT_of h1, l.symm, g⟩
    | lst ds =>
      rw [rd] at r
      obtain ⟨a, vs, rfl, h1, h2⟩ := r
      obtain ⟨l, g⟩ := gL_ok (Q := Q) is F σ env env2 ds vs k h2 e q
      exact .inr ⟨a, vs, rfl, SqL.of h1.2, l.symm, g⟩
    | _ => cases e
/-! ### a comprehension -/
theorem iteT' {p q : Prop} (h : p) : (if true = true then p else q) := by rw [if_pos rfl]; exact h
theorem iteF' {p q : Prop} (h : q) : (if false = true then p else q) := by rw [if_neg Bool.false_ne_true]; exact h
def tB' (K : PySem.W.Frag) (W : WX) (ev : Ev Bool) : TT := fun σ H Q => ∃ B F env, Ok K B F H σ env ∧ pst K W B σ F H (fun b _ F' H' => Q b H') (ev env)
abbrev WN : WX := fun _ _ _ _ => False
theorem noexc_ok {α : Type} {K : PySem.W.Frag} {W : WX} {B : Addr → Prop} {σ : L2.St} {F : Fp} {H : Hp} {β : Type} {P : β → En → Fp → Hp → Prop} {r : R α} {f : α → En → R β} (h : pst K W B σ F H P ((noexc r).bind f)) : ∃ a e, r = .ok a e ∧ pst K W B σ F H P (f a e) := by
  cases r with
  | ok a e => exact ⟨a, e, rfl, h⟩
  | exc x e => exact h.elim
  | stuck => exact h.elim
/-- a turn -/
def lcTurn (C : Ct) (t : Tg) (c : OE) (e : E) (d : D) (env : En) : R (Option D) := match bindT (fun _ => false) env t d with
  | some env2 => (evOE C c env2).bind fun b env3 => if b = true then (evE C e env3).bind fun r env4 => .ok (some r) (wipeE env4 t.slots) else .ok none (wipeE env3 t.slots)
  | none => .stuck
theorem evE_lc {C : Ct} {it : It'} {t : Tg} {c : OE} {e : E} {env : En} : evE C (.lc it t c e) env = (evIt C it env).bind fun ds env1 => if ds.length ≤ sizeLine then
      (noexc (turns (lcTurn C t c e) ds (wipeE env1 t.slots))).bind fun rs env5 => match unblk it env env5 with
          | some env6 => .ok (.lst rs) env6
          | none => .stuck
      else .stuck := by
  rw [evE]
  unfold lcTurn
  congr 1
theorem turns_cons {f : D → En → R (Option D)} {d : D} {ds : List D} {env e : En} {rs : List D} (h : turns f (d :: ds) env = .ok rs e) : ∃ o env1 rs1, f d env = .ok o env1 ∧ turns f ds env1 = .ok rs1 e ∧ rs = match o with
    | some r => r :: rs1
    | none => rs1 := by
  unfold turns at h
  obtain ⟨o, e1, h1, h⟩ := bind_ok h
  obtain ⟨rs1, e2, h2, h⟩ := bind_ok h
  cases h
  exact ⟨o, e1, rs1, h1, h2, rfl⟩
theorem evIt_len {C : Ct} {it : It'} {env env1 : En} {i : Nat} {ds : List D} (h : evIt C it env = .ok ds env1) (hs : it.slot = some i) : ∃ w, env[i]? = some (some w) ∧ w = .ol ds ∧ env1 = env.set i none := by
  cases it with
  | own j =>
    cases hs
    rw [evIt] at h
    split at h
    · rename_i ds' e
      cases h
      exact ⟨_, getW_some e, rfl, rfl⟩
    · cases h
  | _ => cases hs
section
variable {X : Cx} {W : WX} {C : Ct} {tg elt iter : Expr} {ifs : List Expr} {scope : Scope} {own : List (Str × Nat)} {pos : Pos} {it : It'} {t : Tg} {c : OE} {e : E}
/-- a comprehension's list, and its slots -/
def lcP (K : PySem.W.Frag) (W : WX) (B : Addr → Prop) (σ : L2.St) (F : Fp) (H : Hp) (Q : VK) : R D → Prop
  | .ok d env' => ∀ F' H' p vs rs, d = .lst rs → Stp F H F' H' → (inF F p ∨ H p = none) → ¬ B p → Ok K (fun a => B a ∨ a = p) F' H' σ env' → H' p = some (.lst vs) → rdL K (av (fun a => B a ∨ a = p) F') H' rs vs → Q (.ref p) H'
  | .exc x env' => ∀ F' H' cls dx, Stp F H F' H' → Ok K B F' H' σ env' → XR K (av B F') H' x cls dx → W cls dx σ H'
  | .stuck => False
theorem noexc_lc {α : Type} {K : PySem.W.Frag} {W : WX} {B : Addr → Prop} {σ : L2.St} {F : Fp} {H : Hp} {Q : VK} {r : R α} {f : α → En → R D} (h : lcP K W B σ F H Q ((noexc r).bind f)) : ∃ a e, r = .ok a e ∧ lcP K W B σ F H Q (f a e) := by
  cases r with
  | ok a e => exact ⟨a, e, rfl, h⟩
  | exc x e => exact h.elim
  | stuck => exact h.elim
theorem lc_imp (hbo : ∀ i, it.slot = some i → i ∉ t.slots) {σ : L2.St} {H : Hp} {Q : VK} (h : ∃ B F env, Ok X.K B F H σ env ∧ lcP X.K W B σ F H Q (evE C (.lc it t c e) env)) :
    tLc (tI X.K W it (evIt C it)) (gT X.K t) (tB' X.K WN (evOE C c)) (tE X.K WN (evE C e)) t.slots σ H Q := by
  obtain ⟨B, F, env, k, h⟩ := h
  rw [evE_lc] at h
  unfold tLc
  have hev := fun ds env1 (z : evIt C it env = .ok ds env1) (i : Nat) (hs : it.slot = some i) => evIt_len z hs
  cases zi : evIt C it env with
  | exc x e1 => rw [zi] at h; exact ⟨B, F, env, k, by rw [zi]; exact h⟩
  | stuck => rw [zi] at h; exact h.elim
  | ok ds env1 =>
    rw [zi] at h
    refine ⟨B, F, env, k, ?_⟩
    rw [zi]
    intro F0 H0 s0 k0 J rdy dA hD
    replace h : lcP X.K W B σ F H Q (if ds.length ≤ sizeLine then (noexc (turns (lcTurn C t c e) ds (wipeE env1 t.slots))).bind fun rs env5 => match unblk it env env5 with
          | some env6 => R.ok (D.lst rs) env6
          | none => .stuck
      else .stuck) := h
    split at h
    · rename_i hz
      obtain ⟨res, envE, hE, h⟩ := noexc_lc h
      obtain ⟨B1, F1, G, en⟩ := enter k0 rdy
      -- the turns
      let B2 : Addr → Prop := fun a => B1 a ∨ a = dA
      have k1 : Ok X.K B2 F1 (upd H0 dA (.lst [])) (wipe σ t.slots) (wipeE env1 t.slots) := by
        have k1 := (en.ok.grow (grow_upd (o := .lst []) hD)).wipe t.slots
        refine ⟨k1.len, fun i w q => ?_, k1.nd, k1.dj, fun a q => ?_, fun a q z => ?_⟩
        · obtain ⟨v, e1, r⟩ := en.ok.wipe t.slots |>.at_ i w q
          refine ⟨v, e1, rw_stay ⟨fun a o n e => grow_upd hD a o e, fun a h => ?_⟩ w v (F1 i) (fun a ha => ?_) r⟩
          · rcases h with (h | h) | h
            · exact .inl (.inl h)
            · exact .inr (by rw [h]; exact hD)
            · exact .inl (.inr h)
          · rw [upd_ne (fun z => en.ok.there a (.inr ⟨i, ha⟩) (by rw [z]; exact hD))]
        · rcases q with (q | q) | q
          · exact k1.there a (.inl q)
          · rw [q, upd_same]; exact fun z => nomatch z
          · exact k1.there a (.inr q)
        · rcases q with q | q
          · exact en.ok.sep a q z
          · rw [q] at z; exact en.ok.there dA (.inr z) hD
      refine ⟨fun i m H => i ≤ ds.length ∧ m = ds.length - i ∧ ∃ (F' : Fp) (env' : En) (acc rs : List Ev.D) (va : List V), Stp F1 H0 F' H ∧ Ok X.K B2 F' H (wipe σ t.slots) env' ∧ H dA = some (.lst va) ∧ rdL X.K (av B2 F') H acc va ∧ acc.length ≤ i ∧
        turns (lcTurn C t c e) (ds.drop i) env' = .ok rs envE ∧ res = acc ++ rs, ⟨ds.length, Nat.zero_le _, rfl, F1, _, [], res, [], Stp.upd hD, k1, upd_same, by rw [rdL], Nat.le_refl _, hE, rfl⟩, ?_⟩
      rintro i m H' ⟨hil, rfl, F', env', acc, rs, va, st, kk, hDv, hacc, hal, htr, hres⟩
      have goT : Go B1 F1 H0 B2 F' H' := ⟨st, fun a q => by
        rcases q with (q | q) | q
        · exact .inl (.inl q)
        · exact .inr (by rw [q]; exact hD)
        · exact (st.new a q).imp (fun z => .inr z) id⟩
      have g2 : G B2 F' H' := en.walk.stay _ _ _ _ _ _ goT en.g
      by_cases hlt : i < ds.length
      · refine .inr ⟨en.walk.go _ _ _ i g2 hlt, _, fun H'' nx => ⟨ds.length - (i + 1), by omega, nx⟩, fun x H'' y => ?_⟩
        obtain ⟨gr, d, hd, rx⟩ := en.walk.yld _ _ _ i x H'' g2 kk.there hlt y
        rw [show ds.drop i = d :: ds.drop (i + 1) from by rw [List.drop_eq_getElem_cons hlt]; congr 1; rw [List.getElem?_eq_getElem hlt] at hd; exact Option.some.inj hd] at htr
        obtain ⟨o, env2, rs1, h1, h2, h3⟩ := turns_cons htr
        have kk2 := kk.grow gr
        unfold lcTurn at h1
        split at h1
        · rename_i envB hb
          obtain ⟨b, env3, hb3, h1⟩ := bind_ok h1
          have hDv2 : H'' dA = some (.lst va) := gr _ _ hDv
          have hacc2 : rdL X.K (av B2 F') H'' acc va := rdL_grow gr hacc
          have nD : ∀ {F : Fp} {H : Hp} {σ : L2.St} {env : En}, Ok X.K B2 F H σ env → ¬ inF F dA := fun k z => k.sep dA (.inr rfl) z
          refine gT_ok kk2 rx hb fun σ2 F2 f => ⟨?_, B2, F2, envB, f.ok, ?_⟩
          · rw [wipe_eq (σ := wipe σ t.slots) f.len f.other]
            exact wipe_eq (wipe_length _ _) fun j hj => by rw [wipe_get, if_neg hj]
          · rw [hb3]
            intro F3 H3 s3 k3
            have w3 : wipe σ2 t.slots = wipe σ t.slots := by
              rw [wipe_eq (σ := wipe σ t.slots) f.len f.other]
              exact wipe_eq (wipe_length _ _) fun j hj => by rw [wipe_get, if_neg hj]
            have hD3 : H3 dA = some (.lst va) := s3.keep dA _ (nD f.ok) hDv2
            have acc3 : rdL X.K (av B2 F3) H3 acc va := s3.rdL (rdL_less f.less hacc2)
            have stG : Stp F' H' F' H'' := Stp.grow gr
            have st3 : Stp F1 H0 F3 H3 := st.trans (stG.trans (f.stp.trans s3))
            cases b with
            | false =>
              rw [if_neg Bool.false_ne_true] at h1
              refine iteF' ?_
              cases h1
              refine ⟨by omega, rfl, F3, _, acc, rs1, va, st3, ?_, hD3, acc3, by omega, h2, by rw [hres, h3]⟩
              have q := k3.wipe t.slots
              rw [w3] at q
              exact q
            | true =>
              rw [if_pos rfl] at h1
              refine iteT' ?_
              obtain ⟨r, env4, h4, h1⟩ := bind_ok h1
              cases h1
              refine ⟨B2, F3, env3, k3, ?_⟩
              rw [h4]
              intro F4 H4 s4 k4 y hy
              have hD4 : H4 dA = some (.lst va) := s4.keep dA _ (nD k3) hD3
              have acc4 : rdL X.K (av B2 F4) H4 acc va := s4.rdL acc3
              have la := rdL_len acc4
              have other : ∀ a, a ≠ dA → upd H4 dA (.lst (va ++ [y])) a = H4 a := fun a n => upd_ne n
              refine ⟨va, hD4, by omega, by omega, rfl, F4, _, acc ++ [r], rs1, va ++ [y], ⟨fun a o n e => ?_, (st3.trans s4).new⟩, ?_, upd_same, rdL_poke (.inr rfl) other (rdL_app acc4 (rdL_one hy)), by rw [List.length_append]; show acc.length + 1 ≤ i + 1; omega, h2, by rw [hres, h3, List.append_assoc]; rfl⟩
              · rw [other a (ne_of_none e hD)]
                exact (st3.trans s4).keep a o n e
              · have q := (k4.poke (.inr rfl) other (by rw [upd_same]; exact fun z => nomatch z)).wipe t.slots
                rw [w3] at q
                exact q
        · cases h1
      · have hi : i = ds.length := by omega
        subst hi
        rw [List.drop_length] at htr
        cases htr
        refine .inl ⟨en.walk.stop _ _ _ g2, ?_⟩
        rw [List.append_nil] at hres
        subst hres
        -- the slots come back
        have kf : Ok X.K B2 F' H' σ envE := by
          refine ⟨?_, fun j w q => ?_, kk.nd, kk.dj, kk.there, kk.sep⟩
          · rw [kk.len, wipe_length]
          · obtain ⟨v, e1, r⟩ := kk.at_ j w q
            rw [wipe_get] at e1
            split at e1
            · split at e1 <;> cases e1
            · exact ⟨v, e1, r⟩
        cases zu : unblk it env envE with
        | none => rw [zu] at h; exact h.elim
        | some env6 =>
          rw [zu] at h
          have hsl : ∀ i, it.slot = some i → σ[i]? = σ[i]? ∧ (envE[i]? = some none ∨ envE[i]? = none) := fun i hs => ⟨rfl, by
            cases it with
            | own j =>
              cases hs
              unfold unblk at zu
              dsimp only at zu
              split at zu
              · rename_i q; exact .inl q
              · cases zu
            | _ => cases hs⟩
          obtain ⟨F3, s3, l3, b3⟩ := en.back (fun a => a = dA) σ F' H' envE (fun a e z => by rw [e] at z; exact en.ok.there dA z hD) st kf g2 hsl
          have k6 : Ok X.K (fun a => B a ∨ a = dA) F3 H' σ env6 := b3 env6 (by
            cases hs : it.slot with
            | none =>
              left
              cases it with
              | own j => cases hs
              | _ => cases zu; rfl
            | some i =>
              right
              obtain ⟨w, q1, q2, _⟩ := evIt_len zi hs
              cases it with
              | own j =>
                cases hs
                unfold unblk at zu
                dsimp only at zu
                split at zu
                · cases zu
                  rw [q1, q2]
                  exact ⟨i, rfl, rfl⟩
                · cases zu
              | _ => cases hs)
          exact h F3 H' dA _ _ rfl (s0.trans s3) (s0.from_ (.inr hD)) (fun q => k0.there dA (.inl q) hD) k6 hDv (rdL_less l3 hacc)
    · exact h.elim
theorem snd_lc (hc : X.calm = true) (hN : X.N.Nodup) (hi : SI' X W tg iter C it) (ok : BlkOk X.N X.env.scope scope own) (ho : own.map (·.2) = t.slots) (hbo : ∀ i, it.slot = some i → i ∉ t.slots)
    (hg : ∀ (s : Shared) (H : Hp) (A : Addr) (cl : List (Str × Addr)) (fp : List Addr), PG (X.blk s H scope (compEnvC scope cl A X.env) fp) tg (gT X.K t))
    (ht : ∀ (s : Shared) (H : Hp) (A : Addr) (cl : List (Str × Addr)) (fp : List Addr), PTs (X.blk s H scope (compEnvC scope cl A X.env) fp) ifs (tB' X.K WN (evOE C c)))
    (he : ∀ (s : Shared) (H : Hp) (A : Addr) (cl : List (Str × Addr)) (fp : List Addr), PE (X.blk s H scope (compEnvC scope cl A X.env) fp) elt (tE X.K WN (evE C e)))
    (hs : ∀ x, foldedSetIterable iter X.env x = pure x) : SE X W (.ListComp elt [⟨tg, iter, ifs, 0⟩] scope pos) (evE C (.lc it t c e)) := by
  have q := pe_lc (pos := pos) hc hN hi ok hg ht he hs
  rw [ho] at q
  refine q.imp fun σ H Q h => lc_imp hbo ?_
  obtain ⟨B, F, env, k, h⟩ := h
  refine ⟨B, F, env, k, ?_⟩
  cases z : evE C (.lc it t c e) env with
  | ok d e1 =>
    rw [z] at h
    intro F' H' p vs rs hd s fr nb k' hp r
    subst hd
    refine h F' H' s (k'.less fun a => .inl) (.ref p) (rd_lst ⟨fun q => ?_, hp⟩ (rdL_less (fun a q => q.imp .inl id) r))
    rcases q with q | q
    · exact nb q
    · exact k'.sep p (.inr rfl) q
  | exc x e1 => rw [z] at h; exact h
  | stuck => rw [z] at h; exact h.elim
end
end Ev

set_option Elab.async false
set_option linter.all false
set_option maxRecDepth 100000
set_option maxHeartbeats 4000000
namespace Ev
open PySem PySem.Spec PyProof.Rows L2 He Gw
/-! ### an own object that comes -/
/-- the slots, off Fr too; Fr: what w stands on, new or let go of by the slots -/
structure Got (K : PySem.W.Frag) (B : Addr → Prop) (σ : L2.St) (F : Fp) (H : Hp) (F' : Fp) (H' : Hp) (env' : En) (w : Wv) (v : V) (Fr : List Addr) : Prop where
  stp : Stp F H F' H'
  from_ : ∀ a ∈ Fr, inF F a ∨ H a = none
  ok : Ok K (fun a => B a ∨ a ∈ Fr) F' H' σ env'
  rw : rw' K (av (fun a => B a ∨ a ∈ Fr) F') H' w v Fr
  nd : Fr.Nodup
def pstW (K : PySem.W.Frag) (W : WX) (B : Addr → Prop) (σ : L2.St) (F : Fp) (H : Hp) (Q : VK) : R Wv → Prop
  | .ok w env' => ∀ F' H' v Fr, Got K B σ F H F' H' env' w v Fr → Q v H'
  | .exc x env' => ∀ F' H' cls dx, Stp F H F' H' → Ok K B F' H' σ env' → XR K (av B F') H' x cls dx → W cls dx σ H'
  | .stuck => False
def tW (K : PySem.W.Frag) (W : WX) (ev : Ev Wv) : TE := fun σ H Q => ∃ B F env, Ok K B F H σ env ∧ pstW K W B σ F H Q (ev env)
section
variable {K : PySem.W.Frag} {W : WX} {B B' : Addr → Prop} {σ : L2.St} {F F' F1 : Fp} {H H' H1 : Hp} {env env' : En} {w : Wv} {v : V} {Fr : List Addr}
theorem Got.from (s : Stp F H F1 H1) (g : Got K B σ F1 H1 F' H' env' w v Fr) : Got K B σ F H F' H' env' w v Fr := ⟨s.trans g.stp, fun a h => s.from_ (g.from_ a h), g.ok, g.rw, g.nd⟩
theorem pstW_from {Q : VK} {r : R Wv} (s : Stp F H F1 H1) (h : pstW K W B σ F H Q r) : pstW K W B σ F1 H1 Q r := by
  cases r with
  | ok a e => exact fun F' H' v Fr g => h F' H' v Fr (g.from s)
  | exc x e => exact fun F' H' cls dx s' k => h F' H' cls dx (s.trans s') k
  | stuck => exact h
theorem pstW_bind {α : Type} {Q : VK} {r : R α} {f : α → En → R Wv} (h : pstW K W B σ F H Q (r.bind f)) : pst K W B σ F H (fun a env1 F1 H1 => Stp F H F1 H1 ∧ Ok K B F1 H1 σ env1 ∧ pstW K W B σ F1 H1 Q (f a env1)) r := by
  cases r with
  | ok a e => exact fun F' H' s k => ⟨s, k, pstW_from s h⟩
  | exc x e => exact h
  | stuck => exact h
/-- a new list -/
theorem Got.list (k : Ok K B F H σ env) {p : Addr} {ds : List D} {vs : List V} (hp : H p = none) (r : rdL K (av B F) H ds vs) : Got K B σ F H F (upd H p (.lst vs)) env (.ol ds) (.ref p) [p] := by
  have nB : ∀ a, av (fun a => B a ∨ a ∈ [p]) F a → av B F a ∨ H a = none := fun a h => by
    rcases h with (h | h) | h
    · exact .inl (.inl h)
    · exact .inr (by rw [List.mem_singleton.mp h]; exact hp)
    · exact .inl (.inr h)
  have st : Stay (av B F) H (av (fun a => B a ∨ a ∈ [p]) F) (upd H p (.lst vs)) := ⟨fun a o _ e => grow_upd hp a o e, nB⟩
  refine ⟨Stp.upd hp, fun a h => .inr (by rw [List.mem_singleton.mp h]; exact hp), ⟨k.len, fun i w e => ?_, k.nd, k.dj, fun a h => ?_, fun a h z => ?_⟩, ?_, by simp⟩
  · obtain ⟨v, e1, r1⟩ := k.at_ i w e
    exact ⟨v, e1, rw_stay st w v (F i) (fun a ha => upd_ne fun z => k.there a (.inr ⟨i, ha⟩) (by rw [z]; exact hp)) r1⟩
  · rcases h with (h | h) | h
    · exact (k.grow (grow_upd hp)).there a (.inl h)
    · rw [List.mem_singleton.mp h, upd_same]; exact fun z => nomatch z
    · exact (k.grow (grow_upd hp)).there a (.inr h)
  · rcases h with h | h
    · exact k.sep a h z
    · rw [List.mem_singleton.mp h] at z; exact k.there p (.inr z) hp
  · rw [rw']
    exact ⟨p, vs, rfl, rfl, upd_same, rdL_stay st ds vs r⟩
end
section
variable {X : Cx} {W : WX} {C : Ct} {a b c : Expr} {es : List Expr} {pos p : Pos}
abbrev SWv (X : Cx) (W : WX) (ast : Expr) (ev : Ev Wv) : Prop := PE X ast (tW X.K W ev)
theorem swv_lst {r : EL} (h : SLs X W es (evL C r)) : SWv X W (.List es pos) (evW C (.lst r)) := (pe_lst h).imp fun σ H Q h => by
  obtain ⟨B, F, env, k, h⟩ := h
  rw [evW] at h
  refine ⟨B, F, env, k, pst_imp (pstW_bind h) fun ds e1 F1 H1 _ _ z vs hvs => ?_⟩
  obtain ⟨_, k1, z⟩ := z
  split at z
  · rename_i hz
    exact ⟨by rw [← rdL_len hvs]; exact hz, fun p hp => z F1 _ _ _ (Got.list k1 hp hvs)⟩
  · exact z.elim
theorem swv_disp {r : StL} (h : SLs X W es (evSt C r)) : SWv X W (.List es pos) (evW C (.disp false r)) := (pe_lst h).imp fun σ H Q h => by
  obtain ⟨B, F, env, k, h⟩ := h
  rw [evW] at h
  refine ⟨B, F, env, k, pst_imp (pstW_bind h) fun ds e1 F1 H1 _ _ z vs hvs => ?_⟩
  obtain ⟨_, k1, z⟩ := z
  split at z
  · rename_i hz
    exact ⟨by rw [← rdL_len hvs]; exact hz, fun p hp => z F1 _ _ _ (Got.list k1 hp hvs)⟩
  · exact z.elim
theorem swv_list {as : OL} {x : Str} {p' : Pos} (hg : Gl X x) (hm : X.mg x = none) (hv : bootBuiltins x = some (.type "list")) (hn : x ≠ "__name__") (hdb : (x == ("__debug__" : Str)) = false)
    (he : starEach (a :: es) X.env = (false, eval a X.env) :: starEach es X.env) (hpl : (backTo pos (starEach es X.env)).any (·.1) = false) (ha : SOs X W (a :: es) (evO C as)) : SWv X W (.Call (.Name x p') (a :: es) [] pos) (evW C (.op .list as)) :=
  (pe_callTy call_list_of hg hm hv ha hn hdb he hpl).imp fun σ H Q h => by
    obtain ⟨B, F, env, k, h⟩ := h
    rw [evW, evE] at h
    rw [R.bind_assoc] at h
    refine ⟨B, F, env, k, pst_imp (pstW_bind h) fun os e1 F1 H1 _ _ z vs hvs => ?_⟩
    obtain ⟨_, k1, z⟩ := z
    cases q : resO e1 os with
    | none => rw [q] at z; exact z.elim
    | some ds =>
      rw [q] at z
      have rv := res_rv k1 q hvs
      match ds, rv with
      | [d], rv =>
        obtain ⟨u, r', rfl, ra, rfl⟩ := rv
        cases q2 : listD d with
        | none => rw [show (some [d]).bind (opD .list) = listD d from rfl, q2] at z; exact z.elim
        | some d' =>
          rw [show (some [d]).bind (opD .list) = listD d from rfl, q2] at z
          unfold listD at q2
          split at q2
          · cases q2
            obtain ⟨p, vs, rfl, h1, r1⟩ := ra
            exact ⟨p, vs, rfl, .inl (SqL.of h1), fun l hl => z F1 _ _ _ (Got.list k1 hl r1)⟩
          · cases q2
            obtain ⟨p, vs, rfl, h1, r1⟩ := rv_tup ra
            exact ⟨p, vs, rfl, .inr (sqT_of h1), fun l hl => z F1 _ _ _ (Got.list k1 hl r1)⟩
          · cases q2
            obtain ⟨p, rfl, h1⟩ := rv_scr ra
            exact ⟨p, _, rfl, .inl h1, fun l hl => z F1 _ _ _ (Got.list k1 hl (rdL_ints _))⟩
          · cases q2
      | [], rv => exact z.elim
      | _ :: _ :: _, rv => exact z.elim
theorem Got.back {K : PySem.W.Frag} {B : Addr → Prop} {F F' : Fp} {H H' : Hp} {σ : L2.St} {env : En} {os : List Ov} {vs : List V} {outs : List Wv} {n : Nat} {r : Wv} {v : V} (k : Ok K B F H σ env) (hn : (slots os).Nodup) (hv : ovL K B F H σ os vs) (hl : outs.length = vs.length) (hi : ∀ i ∈ slots os, i < env.length) (hN : os.length = n) (s : Stp (Fc F os) H F' H')
    (k' : Ok K (Bc B F os) F' H' (vs.map some ++ [some v]) (outs.map some ++ [some r])) : Got K B σ F H (Fb F F' os) H' (putA env os outs) r v (F' n) := by
  have kb := k.back hn hv hl hi s k'
  have less : ∀ a, av (fun a => B a ∨ a ∈ F' n) (Fb F F' os) a → av (Bc B F os) F' a := fun a h => by
    rcases h with (h | h) | h
    · exact .inl (.inl h)
    · exact .inr ⟨n, h⟩
    · exact av_b (.inr h)
  have fr : ∀ a ∈ F' n, inF F a ∨ H a = none := fun a h => (s.new a ⟨n, h⟩).imp (fun ⟨j, z⟩ => let ⟨t, _, z⟩ := Fc_at z; ⟨t, z⟩) id
  have hvl : os.length = vs.length := ovL_len hv
  obtain ⟨v', e1, hr'⟩ := k'.at_ n r (by rw [List.getElem?_append_right (by rw [List.length_map, hl, ← hvl, hN]; exact Nat.le_refl _), List.length_map, hl, ← hvl, hN, Nat.sub_self]; rfl)
  rw [List.getElem?_append_right (by rw [List.length_map, ← hvl, hN]; exact Nat.le_refl _), List.length_map, ← hvl, hN, Nat.sub_self] at e1
  cases e1
  refine ⟨s.back, fr, ⟨kb.len, fun i w e => ?_, kb.nd, kb.dj, fun a h => k'.there a (less a h), fun a h z => ?_⟩, rw_less less hr', k'.nd n⟩
  · unfold Fb
    split
    · rename_i j q
      have e1 := posO_some q
      rw [putA_at hn (hi i (mem_slots.mpr ⟨j, e1⟩)) (by rw [ovL_len hv, hl]) e1] at e
      cases q2 : outs[j]? with
      | none => rw [q2] at e; cases e
      | some w' =>
        rw [q2] at e
        cases e
        have hj : j < outs.length := (List.getElem?_eq_some_iff.mp q2).1
        obtain ⟨v, e3, r⟩ := k'.at_ j w (by rw [List.getElem?_append_left (by rw [List.length_map]; exact hj), List.getElem?_map, q2]; rfl)
        rw [List.getElem?_append_left (by rw [List.length_map, ← hl]; exact hj), List.getElem?_map] at e3
        obtain ⟨v', e4, h⟩ := ovL_get hv e1
        rw [e4] at e3
        cases e3
        exact ⟨_, h, rw_less less r⟩
    · rename_i q
      have ni := posO_none q
      rw [putA_out ni] at e
      obtain ⟨v, e1, r⟩ := k.at_ i w e
      refine ⟨v, e1, rw_stay ⟨fun a o n e => s.back.keep a o (fun z => n (.inr z)) e, fun a h => ?_⟩ w v (F i) (fun a ha => ?_) r⟩
      · rcases h with (h | h) | h
        · exact .inl (.inl h)
        · exact (fr a h).imp (fun z => .inr z) id
        · exact (s.back.new a h).imp (fun z => .inr z) id
      · cases z : H a with
        | none => exact absurd z (k.there a (.inr ⟨i, ha⟩))
        | some o =>
          refine s.keep a o (fun ⟨j, z2⟩ => ?_) z
          obtain ⟨t, e2, z2⟩ := Fc_at z2
          have := k.dj i t a ha z2
          subst this
          exact ni (mem_slots.mpr ⟨j, e2⟩)
  · rcases h with h | h
    · exact kb.sep a h z
    · exact off_b k' (Nat.le_of_eq hN) h (.inr z)
theorem callW_of {B : Addr → Prop} {F : Fp} {H : Hp} {σ : L2.St} {env : En} {f : Nat} {os : List Ov} {vs : List V} {n : Nat} {Q : VK} (k : Ok X.K B F H σ env) (hv : ovL X.K B F H σ os vs) (hn : os.length = n)
    (h : pstW X.K W B σ F H Q (callR C f os env)) : spE X.K (C.cal f) n vs H Q (WE W σ) := by
  unfold callR at h
  split at h
  · rename_i hnd
    split at h
    · rename_i ws hr
      have hl : os.length = ws.length := resA_len hr
      have hvl : os.length = vs.length := ovL_len hv
      have hi : ∀ i ∈ slots os, i < env.length := fun i hi => by
        obtain ⟨j, e⟩ := mem_slots.mp hi
        obtain ⟨v, _, e2⟩ := ovL_get hv e
        rw [k.len]
        exact (List.getElem?_eq_some_iff.mp (show σ[i]? = some (some v) from e2)).1
      refine ⟨by rw [← hvl, hn], Bc B F os, Fc F os, ws, by rw [← hl, hn], k.pass hnd hv hr, fun i hi => Fc_far (by rw [hn]; exact hi), ?_⟩
      split at h
      · rename_i r outs hc
        split at h
        · rename_i ho
          rw [hc]
          exact ⟨by rw [ho, ← hl, hn], fun F' H' v s k' => h _ _ _ _ (Got.back k hnd hv (by rw [ho, ← hl, hvl]) hi hn s k')⟩
        · exact h.elim
      · rename_i x outs hc
        split at h
        · rename_i ho
          rw [hc]
          refine ⟨by rw [ho, ← hl, hn], fun F' H' cls dx s k' xr => ?_⟩
          have kb := k.back (more := []) (moreE := []) hnd hv (by rw [ho, ← hl, hvl]) hi s (by rw [List.append_nil, List.append_nil]; exact k')
          exact h _ _ cls dx s.back kb (xr.less fun a ha => av_b ha)
        · exact h.elim
      · exact h.elim
    · exact h.elim
  · exact h.elim
theorem callWt_of {f : Nat} {as : AL} {n : Nat} {σ : L2.St} {H : Hp} {Q : VK} (hn : as.len = n) (h : tW X.K W (evW C (.call f as)) σ H Q) : tOs X.K W (evA C as) σ H fun vs H1 => spE X.K (C.cal f) n vs H1 Q (WE W σ) := by
  obtain ⟨B, F, env, k, h⟩ := h
  rw [evW] at h
  cases z : evA C as env with
  | ok os e1 =>
    rw [z] at h
    refine ⟨B, F, env, k, ?_⟩
    rw [z]
    intro F1 H1 s1 k1 vs hvs
    exact callW_of k1 hvs (by rw [evA_len as z, hn]) (pstW_from s1 h)
  | exc x e1 => rw [z] at h; exact ⟨B, F, env, k, by rw [z]; exact h⟩
  | stuck => rw [z] at h; exact h.elim
variable {CX : CXT} {k : Nat} {f : Nat} {fa : Addr} {fd : FuncData} {ps : List Str} {x : Str}
theorem swv_call {as : AL} (Fk : FnG X.prog X.w X.K X.mg X.base (L2.CX X.prog X.w) k fa fd ps (spE X.K (C.cal f) ps.length)) (hgd : X.A.guards = some []) (hr : Room k X.A) (hg : Gl X x) (hm : X.mg x = some (.ref fa)) (hk : PySem.W.keepIn X.K (.ref fa) = true) (hb : Binds X.K fd ps [])
    (tk : Takes X W) (hn : as.len = ps.length) (ha : SOs X W (a :: es) (evA C as)) (hdb : (x == ("__debug__" : Str)) = false) (he : starEach (a :: es) X.env = (false, eval a X.env) :: starEach es X.env) (hpl : (backTo pos (starEach es X.env)).any (·.1) = false) :
    SWv X W (.Call (.Name x p) (a :: es) [] pos) (evW C (.call f as)) := (pe_callG Fk hgd hr hg hm hk hb (fun σ => passAt tk σ) ha hdb he hpl).imp fun σ H Q h => callWt_of hn h
theorem swv_call0 (Fk : FnG X.prog X.w X.K X.mg X.base (L2.CX X.prog X.w) k fa fd ps (spE X.K (C.cal f) ps.length)) (hgd : X.A.guards = some []) (hr : Room k X.A) (hg : Gl X x) (hm : X.mg x = some (.ref fa)) (hk : PySem.W.keepIn X.K (.ref fa) = true) (hb : Binds X.K fd ps [])
    (tk : Takes X W) (hn : 0 = ps.length) (hdb : (x == ("__debug__" : Str)) = false) : SWv X W (.Call (.Name x p) [] [] pos) (evW C (.call f .nil)) := (pe_callG0 Fk hgd hr hg hm hk hb (fun σ => passAt tk σ) hdb).imp fun σ H Q h => by
  obtain ⟨B, F, env, k, h⟩ := callWt_of (as := .nil) hn h
  rw [evA] at h
  exact pst_here h k [] rfl
theorem methW_of {c m : Str} {f : Nat} {ro : Opd} {as : AL} {n : Nat} {σ : L2.St} {H : Hp} {Q : VK} (hn : as.len + 1 = n) (h : tW X.K W (evW C (.meth c m f ro as)) σ H Q) :
    tMethG (ga X.K c) m (spE X.K (C.cal f) n) (WE W) (tOd X.K W (evOpd C ro)) (tOs X.K W (evA C as)) σ H Q := by
  obtain ⟨B, F, env, k, h⟩ := h
  rw [evW] at h
  refine ⟨B, F, env, k, pst_imp (pstW_bind h) fun o e1 F1 H1 _ _ z x hx => ?_⟩
  obtain ⟨_, k1, z⟩ := z
  split at z
  · rename_i hi
    obtain ⟨a, dx, fs, ex, ha, hl⟩ := isO_at k1 hi hx
    refine ⟨a, dx, fs, ex, ha, hl, ?_⟩
    cases q : evA C as e1 with
    | ok os e2 =>
      rw [q] at z
      refine ⟨B, F1, e1, k1, ?_⟩
      rw [q]
      intro F2 H2 s2 k2 vs hvs
      exact callW_of k2 (os := o :: os) (vs := x :: vs) ⟨x, vs, rfl, ov_stp s2 hx, hvs⟩ (by rw [List.length_cons, evA_len as q, hn]) (pstW_from s2 z)
    | exc y e2 => rw [q] at z; exact ⟨B, F1, e1, k1, by rw [q]; exact z⟩
    | stuck => rw [q] at z; exact z.elim
  · exact z.elim
theorem swv_meth {o : Expr} {c m : Str} {ro : Opd} {as : AL} {apos : Pos} {pl : Sem Bool} (ho : SO X W o (evOpd C ro)) (cl : Cls X.K (ga X.K c)) (hm : Meth X.K (ga X.K c) m fa) (Fk : FnG X.prog X.w X.K X.mg X.base (L2.CX X.prog X.w) k fa fd ps (spE X.K (C.cal f) ps.length)) (hgd : X.A.guards = some []) (hr : Room k X.A) (hb : Binds X.K fd ps [])
    (tk : Takes X W) (hn : as.len + 1 = ps.length) (ha : SOs X W (a :: es) (evA C as)) (he : starEach (a :: es) X.env = (false, eval a X.env) :: starEach es X.env) (hpl : (backTo pos (starEach es X.env)).any (·.1) = false)
    (ht : eval (.Call (.Attribute o m apos) (a :: es) [] pos) X.env = (do
      let ov ← eval o X.env
      standAt apos.atName
      let (g, first) ← holding [ov] (getMethod ov m pl)
      callWith pos g first (backTo pos (starEach (a :: es) X.env)) (backToKw pos (keywordEach [] X.env)))) :
    SWv X W (.Call (.Attribute o m apos) (a :: es) [] pos) (evW C (.meth c m f ro as)) := (pe_methG ho cl hm Fk hgd hr hb (fun σ => passAt tk σ) ha he hpl ht).imp fun σ H Q h => methW_of hn h
theorem swv_meth0 {o : Expr} {c m : Str} {ro : Opd} {apos : Pos} {pl : Sem Bool} (ho : SO X W o (evOpd C ro)) (cl : Cls X.K (ga X.K c)) (hm : Meth X.K (ga X.K c) m fa) (Fk : FnG X.prog X.w X.K X.mg X.base (L2.CX X.prog X.w) k fa fd ps (spE X.K (C.cal f) ps.length)) (hgd : X.A.guards = some []) (hr : Room k X.A) (hb : Binds X.K fd ps [])
    (tk : Takes X W) (hn : 1 = ps.length)
    (ht : eval (.Call (.Attribute o m apos) [] [] pos) X.env = (do
      let ov ← eval o X.env
      standAt apos.atName
      let (g, first) ← holding [ov] (getMethod ov m pl)
      callWith pos g first (backTo pos (starEach [] X.env)) (backToKw pos (keywordEach [] X.env)))) :
    SWv X W (.Call (.Attribute o m apos) [] [] pos) (evW C (.meth c m f ro .nil)) := (pe_methG0 ho cl hm Fk hgd hr hb (fun σ => passAt tk σ) ht).imp fun σ H Q h => by
  obtain ⟨B, F, env, k, h⟩ := methW_of (as := .nil) (n := ps.length) (by rw [← hn]; rfl) h
  refine ⟨B, F, env, k, pst_imp h fun o e1 F1 H1 _ _ z x hx => ?_⟩
  obtain ⟨a, dx, fs, ex, ha, hl, z⟩ := z x hx
  refine ⟨a, dx, fs, ex, ha, hl, ?_⟩
  obtain ⟨B, F, env, k, z⟩ := z
  rw [evA] at z
  exact pst_here z k [] rfl
/-! ### statements -/
def Sg (pn : Nat → Bool) (σ σ' : L2.St) : Prop := ∀ j, pn j = true → σ'[j]? = σ[j]?
def sst (K : PySem.W.Frag) (W : WX) (pn : Nat → Bool) (B : Addr → Prop) (σ : L2.St) (F : Fp) (H : Hp) (Y : Ends) : R Fl → Prop
  | .ok .nx env' => ∀ σ' F' H', Stp F H F' H' → Ok K B F' H' σ' env' → Sg pn σ σ' → Y.nx σ' H'
  | .ok .bk env' => ∀ σ' F' H', Stp F H F' H' → Ok K B F' H' σ' env' → Sg pn σ σ' → Y.bk σ' H'
  | .ok .ct env' => ∀ σ' F' H', Stp F H F' H' → Ok K B F' H' σ' env' → Sg pn σ σ' → Y.ct σ' H'
  | .ok (.rt w) env' => ∀ σ' F' H' v Fr, Got K B σ' F H F' H' env' w v Fr → Sg pn σ σ' → Y.rt v H'
  | .exc x env' => ∀ σ' F' H' cls dx, Stp F H F' H' → Ok K B F' H' σ' env' → Sg pn σ σ' → XR K (av B F') H' x cls dx → W cls dx σ' H'
  | .stuck => False
def tS (K : PySem.W.Frag) (W : WX) (pn : Nat → Bool) (ev : Ev Fl) : TS := fun Y σ H => ∃ B F env, Ok K B F H σ env ∧ sst K W pn B σ F H Y (ev env)
end
section
variable {K : PySem.W.Frag} {W : WX} {pn : Nat → Bool} {B B' : Addr → Prop} {σ σ1 : L2.St} {F F' F1 : Fp} {H H' H1 : Hp} {env env' : En} {Y : Ends}
theorem Sg.refl : Sg pn σ σ := fun _ _ => rfl
theorem Sg.trans {σ2 : L2.St} (a : Sg pn σ σ1) (b : Sg pn σ1 σ2) : Sg pn σ σ2 := fun j h => (b j h).trans (a j h)
theorem sst_from {r : R Fl} (s : Stp F H F1 H1) (g : Sg pn σ σ1) (h : sst K W pn B σ F H Y r) : sst K W pn B σ1 F1 H1 Y r := by
  cases r with
  | ok fl e =>
    cases fl with
    | nx => exact fun σ' F' H' s' k g' => h σ' F' H' (s.trans s') k (g.trans g')
    | bk => exact fun σ' F' H' s' k g' => h σ' F' H' (s.trans s') k (g.trans g')
    | ct => exact fun σ' F' H' s' k g' => h σ' F' H' (s.trans s') k (g.trans g')
    | rt w => exact fun σ' F' H' v Fr g2 g' => h σ' F' H' v Fr (g2.from s) (g.trans g')
  | exc x e => exact fun σ' F' H' cls dx s' k g' => h σ' F' H' cls dx (s.trans s') k (g.trans g')
  | stuck => exact h
/-- an expression, then the rest -/
theorem sst_bindE {α : Type} {r : R α} {f : α → En → R Fl} (h : sst K W pn B σ F H Y (r.bind f)) : pst K W B σ F H (fun a env1 F1 H1 => Stp F H F1 H1 ∧ Ok K B F1 H1 σ env1 ∧ sst K W pn B σ F1 H1 Y (f a env1)) r := by
  cases r with
  | ok a e => exact fun F' H' s k => ⟨s, k, sst_from s .refl h⟩
  | exc x e => exact fun F' H' cls dx s k => h σ F' H' cls dx s k .refl
  | stuck => exact h
/-- a statement, then the rest -/
def nxt (K : PySem.W.Frag) (W : WX) (pn : Nat → Bool) (f : En → R Fl) : Fl → En → R Fl := fun fl env => match fl with
  | .nx => f env
  | r => .ok r env
theorem sst_here {r : Fl} (k : Ok K B F H σ env) (h : sst K W pn B σ F H Y (.ok .nx env)) : Y.nx σ H := h σ F H .refl k .refl
end
end Ev

set_option Elab.async false
set_option linter.all false
set_option maxRecDepth 100000
set_option maxHeartbeats 4000000
namespace Ev
open PySem PySem.Spec PyProof.Rows L2 He Gw
/-! ### own results, put into a slot -/
section
variable {K : PySem.W.Frag} {W : WX} {pn : Nat → Bool} {B B' : Addr → Prop} {σ σ1 : L2.St} {F F' F1 : Fp} {H H' H1 : Hp} {env env' : En} {Y : Ends} {w : Wv} {v : V} {Fr : List Addr}
theorem Got.put {σ0 : L2.St} {env0 : En} (k : Ok K B F H σ0 env0) (g : Got K B σ F H F' H' env' w v Fr) {i : Nat} (hi : i < env'.length) : Stp F H (putF F' i Fr) H' ∧ Ok K B (putF F' i Fr) H' (σ.set i (some v)) (env'.set i (some w)) := by
  have less : ∀ a, av B (putF F' i Fr) a → av (fun a => B a ∨ a ∈ Fr) F' a := fun a h => by
    rcases h with h | h
    · exact .inl (.inl h)
    · rcases inF_put h with h | h
      · exact .inl (.inr h)
      · exact .inr h
  refine ⟨⟨g.stp.keep, fun a h => ?_⟩, ⟨by rw [List.length_set, List.length_set, g.ok.len], fun j u e => ?_, fun j => ?_, fun j j' a h h' => ?_, fun a h => g.ok.there a (less a h), fun a h z => ?_⟩⟩
  · rcases inF_put h with h | h
    · exact g.from_ a h
    · exact g.stp.new a h
  · by_cases ej : j = i
    · subst ej
      rw [List.getElem?_set_self hi] at e
      cases e
      refine ⟨v, by rw [List.getElem?_set_self (by rw [← g.ok.len]; exact hi)], ?_⟩
      rw [putF_same]
      exact rw_less less g.rw
    · rw [List.getElem?_set_ne (fun z => ej z.symm)] at e
      obtain ⟨v', e1, r⟩ := g.ok.at_ j u e
      refine ⟨v', by rw [List.getElem?_set_ne (fun z => ej z.symm)]; exact e1, ?_⟩
      rw [putF_ne ej]
      exact rw_less less r
  · by_cases ej : j = i
    · rw [ej, putF_same]; exact g.nd
    · rw [putF_ne ej]; exact g.ok.nd j
  · by_cases ej : j = i
    · by_cases ej' : j' = i
      · rw [ej, ej']
      · rw [ej, putF_same] at h
        rw [putF_ne ej'] at h'
        exact absurd ⟨j', h'⟩ (g.ok.sep a (.inr h))
    · by_cases ej' : j' = i
      · rw [ej', putF_same] at h'
        rw [putF_ne ej] at h
        exact absurd ⟨j, h⟩ (g.ok.sep a (.inr h'))
      · rw [putF_ne ej] at h
        rw [putF_ne ej'] at h'
        exact g.ok.dj j j' a h h'
  · rcases inF_put z with z | z
    · rcases g.from_ a z with q | q
      · exact k.sep a h q
      · exact k.there a (.inl h) q
    · exact g.ok.sep a (.inl h) z
/-- data, as an own result -/
theorem Got.fz (k : Ok K B F H σ env) {d : D} (r : rd K (av B F) H d v) : Got K B σ F H F H env (.fz d) v [] := by
  have less : ∀ a, av (fun a => B a ∨ a ∈ ([] : List Addr)) F a → av B F a := fun a h => h.imp (fun h => h.elim id fun z => nomatch z) id
  refine ⟨.refl, fun a h => (nomatch h), k.less fun a h => h.elim id fun z => (nomatch z), ?_, List.nodup_nil⟩
  rw [rw']
  exact ⟨rfl, rd_less less r⟩

/-! ### one statement behind another -/
theorem sst_seq {f : En → R Fl} {r : R Fl} (h : sst K W pn B σ F H Y (r.bind fun fl e => match fl with
    | .nx => f e
    | q => .ok q e)) : sst K W pn B σ F H { Y with nx := tS K W pn f Y } r := by
  cases r with
  | ok fl e =>
    cases fl with
    | nx => exact fun σ' F' H' s k g => ⟨B, F', e, k, sst_from s g h⟩
    | bk => exact h
    | ct => exact h
    | rt w => exact h
  | exc x e => exact h
  | stuck => exact h
theorem sst_lift {α : Type} {o : Option α} {f : α → En → R Fl} (h : sst K W pn B σ F H Y ((lift o env).bind f)) : ∃ a, o = some a ∧ sst K W pn B σ F H Y (f a env) := by
  cases o with
  | none => exact h.elim
  | some a => exact ⟨a, rfl, h⟩
end
section
variable {X : Cx} {W : WX} {C : Ct} {pn : Nat → Bool} {a b c e tg iter : Expr} {st : Stmt} {sts as bs : List Stmt} {pos p : Pos}
abbrev SS (X : Cx) (W : WX) (pn : Nat → Bool) (ast : Stmt) (ev : Ev Fl) : Prop := PS X ast (tS X.K W pn ev)
abbrev SSs (X : Cx) (W : WX) (pn : Nat → Bool) (ast : List Stmt) (ev : Ev Fl) : Prop := PSs X ast (tS X.K W pn ev)
theorem ss_nil : SSs X W pn [] (evSL C pn .nil) := pss_nil.imp fun Y σ H h => by
  obtain ⟨B, F, env, k, h⟩ := h
  rw [evSL] at h
  exact sst_here (r := .nx) k h
theorem ss_cons {s : S} {ss : SL} (h1 : SS X W pn st (evS C pn s)) (h2 : SSs X W pn sts (evSL C pn ss)) : SSs X W pn (st :: sts) (evSL C pn (.cons s ss)) := (pss_cons h1 h2).imp fun Y σ H h => by
  obtain ⟨B, F, env, k, h⟩ := h
  rw [evSL] at h
  exact ⟨B, F, env, k, sst_seq h⟩
theorem ss_asg {t : Tg} {r : E} (he : SE X W e (evE C r)) (hg : PG X tg (gT X.K t)) (hs : swapsWithSole [tg] e pos.line X.env = pure false) (hw : swappedStores [tg] e X.env = pure none) (h1 : (assignEach [tg] X.env).map (·.2) = [assign tg X.env]) :
    SS X W pn (.Assign [tg] e pos) (evS C pn (.asg t r)) := (ps_asg he hg hs hw h1).imp fun Y σ H h => by
  obtain ⟨B, F, env, k, h⟩ := h
  rw [evS] at h
  refine ⟨B, F, env, k, pst_imp (sst_bindE h) fun d e1 F1 H1 _ _ z v hv => ?_⟩
  obtain ⟨_, k1, z⟩ := z
  obtain ⟨e2, hb, z⟩ := sst_lift z
  refine gT_ok k1 hv hb fun σ2 F2 f => ?_
  exact z σ2 F2 H1 f.stp f.ok f.pins
theorem ss_set {i : Nat} {x : Str} {r : E} (hN : X.N.Nodup) (hi : X.N[i]? = some x) (hx : Loc X.env.scope x) (he : SE X W e (evE C r)) (hs : swapsWith e (some (.Name x p)) pos.line X.env = pure false) (hf : X.fn x = true ∨ X.env.scope.names.lookup x = some .local) :
    SS X W pn (.Assign [.Name x p] e pos) (evS C pn (.asg (.nm i) r)) := (ps_set hN hi hx he hs hf).imp fun Y σ H h => by
  obtain ⟨B, F, env, k, h⟩ := h
  rw [evS] at h
  refine ⟨B, F, env, k, pst_imp (sst_bindE h) fun d e1 F1 H1 _ _ z v hv => ?_⟩
  obtain ⟨_, k1, z⟩ := z
  obtain ⟨e2, hb, z⟩ := sst_lift z
  exact gT_ok (K := X.K) (t := .nm i) (Q := Y.nx) k1 hv hb fun σ2 F2 f => z σ2 F2 H1 f.stp f.ok f.pins
/-- an own result, then the rest -/
theorem sst_bindW {K : PySem.W.Frag} {B : Addr → Prop} {σ : L2.St} {F : Fp} {H : Hp} {Y : Ends} {r : R Wv} {f : Wv → En → R Fl} {Q : VK} (h : sst K W pn B σ F H Y (r.bind f))
    (q : ∀ w e1 F1 H1 v Fr, Got K B σ F H F1 H1 e1 w v Fr → sst K W pn B σ F H Y (f w e1) → Q v H1) : pstW K W B σ F H Q r := by
  cases r with
  | ok w e1 => exact fun F1 H1 v Fr g => q w e1 F1 H1 v Fr g h
  | exc x e1 => exact fun F' H' cls dx s k => h σ F' H' cls dx s k .refl
  | stuck => exact h
theorem own_of {i : Nat} {r : E} {Y : Ends} {σ : L2.St} {H : Hp} (h : tS X.K W pn (evS C pn (.own i r)) Y σ H) : tW X.K W (evW C r) σ H fun v H1 => Y.nx (σ.set i (some v)) H1 := by
  obtain ⟨B, F, env, k, h⟩ := h
  rw [evS] at h
  refine ⟨B, F, env, k, sst_bindW h fun w e1 F1 H1 v Fr g z => ?_⟩
  obtain ⟨e2, hb, z⟩ := sst_lift z
  obtain ⟨hp, hi, rfl⟩ := bind1_some hb
  obtain ⟨s, k2⟩ := g.put k hi
  exact z _ _ H1 s k2 fun j hj => List.getElem?_set_ne (fun z => by rw [z, hj] at hp; cases hp)
theorem ss_own {i : Nat} {x : Str} {r : E} (hN : X.N.Nodup) (hi : X.N[i]? = some x) (hx : Loc X.env.scope x) (he : SWv X W e (evW C r)) (hs : swapsWith e (some (.Name x p)) pos.line X.env = pure false) (hf : X.fn x = true ∨ X.env.scope.names.lookup x = some .local) :
    SS X W pn (.Assign [.Name x p] e pos) (evS C pn (.own i r)) := (ps_set hN hi hx he hs hf).imp fun Y σ H h => own_of h
theorem ss_expr {r : E} (he : SE X W e (evE C r)) (hs : swapsWith e none pos.line X.env = pure false) : SS X W pn (.Expr e pos) (evS C pn (.expr r)) := (ps_expr he hs).imp fun Y σ H h => by
  obtain ⟨B, F, env, k, h⟩ := h
  rw [evS] at h
  refine ⟨B, F, env, k, pst_imp (sst_bindE h) fun d e1 F1 H1 _ _ z v hv => ?_⟩
  obtain ⟨_, k1, z⟩ := z
  exact sst_here (r := .nx) k1 z
theorem ss_ret {r : E} (he : SE X W e (evE C r)) : SS X W pn (.Return (some e) pos) (evS C pn (.ret r)) := (ps_ret he).imp fun Y σ H h => by
  obtain ⟨B, F, env, k, h⟩ := h
  rw [evS] at h
  refine ⟨B, F, env, k, pst_imp (sst_bindE h) fun d e1 F1 H1 _ _ z v hv => ?_⟩
  obtain ⟨_, k1, z⟩ := z
  exact z σ F1 H1 v [] (Got.fz k1 hv) .refl
theorem ss_retN : SS X W pn (.Return none pos) (evS C pn .retN) := ps_retN.imp fun Y σ H h => by
  obtain ⟨B, F, env, k, h⟩ := h
  rw [evS] at h
  exact h σ F H .non [] (Got.fz k (by rw [rd])) .refl
theorem ss_retW {r : E} (he : SWv X W e (evW C r)) : SS X W pn (.Return (some e) pos) (evS C pn (.retW r)) := (ps_ret he).imp fun Y σ H h => by
  obtain ⟨B, F, env, k, h⟩ := h
  rw [evS] at h
  exact ⟨B, F, env, k, sst_bindW h fun w e1 F1 H1 v Fr g z => z σ F1 H1 v Fr g .refl⟩
theorem ss_retO {i : Nat} {x : Str} (hN : X.N[i]? = some x) (hv : Vis X.env.scope x) (hd : (x == ("__debug__" : Str)) = false) (hcd : (x == ("__classdict__" : Str)) = false) : SS X W pn (.Return (some (.Name x p)) pos) (evS C pn (.retO i)) := (ps_ret (pe_var hN hv hd hcd)).imp fun Y σ H h => by
  obtain ⟨B, F, env, k, h⟩ := h
  rw [evS] at h
  split at h
  · rename_i w hw
    split at h
    · exact h.elim
    · have hw' : env[i]? = some (some w) := by
        unfold getW at hw
        split at hw
        · rename_i q; cases hw; exact q
        · cases hw
      obtain ⟨v, e1, r⟩ := k.at_ i w hw'
      refine ⟨v, e1, ?_⟩
      have less : ∀ a, av (fun a => B a ∨ a ∈ F i) (putF F i []) a → av B F a := fun a h => by
        rcases h with (h | h) | h
        · exact .inl h
        · exact .inr ⟨i, h⟩
        · rcases inF_put h with h | h
          · cases h
          · exact .inr h
      refine h σ (putF F i []) H v (F i) ⟨stp_put, fun a h => .inl ⟨i, h⟩, ⟨by rw [List.length_set, k.len], fun j u e => ?_, fun j => ?_, fun j j' a h h' => ?_, fun a h => k.there a (less a h), fun a h z => ?_⟩, rw_less less r, k.nd i⟩ .refl
      · by_cases ej : j = i
        · subst ej
          have hl : j < env.length := (List.getElem?_eq_some_iff.mp hw').1
          rw [List.getElem?_set_self hl] at e
          cases e
        · rw [List.getElem?_set_ne (fun z => ej z.symm)] at e
          obtain ⟨v', e2, r2⟩ := k.at_ j u e
          exact ⟨v', e2, by rw [putF_ne ej]; exact rw_less less r2⟩
      · by_cases ej : j = i
        · rw [ej, putF_same]; exact List.nodup_nil
        · rw [putF_ne ej]; exact k.nd j
      · by_cases ej : j = i
        · rw [ej, putF_same] at h; cases h
        · by_cases ej' : j' = i
          · rw [ej', putF_same] at h'; cases h'
          · rw [putF_ne ej] at h
            rw [putF_ne ej'] at h'
            exact k.dj j j' a h h'
      · rcases h with h | h
        · rcases inF_put z with z | z
          · cases z
          · exact k.sep a h z
        · obtain ⟨j, hj⟩ := z
          by_cases ej : j = i
          · rw [ej, putF_same] at hj; cases hj
          · rw [putF_ne ej] at hj
            exact ej (k.dj j i a hj h)
  · exact h.elim
theorem ss_if {r : E} {x y : SL} (hc : ST X W c (evE C r)) (ha : SSs X W pn as (evSL C pn x)) (hb : SSs X W pn bs (evSL C pn y)) : SS X W pn (.If c as bs pos) (evS C pn (.if_ r x y)) := (ps_if hc ha hb).imp fun Y σ H h => by
  obtain ⟨B, F, env, k, h⟩ := h
  rw [evS] at h
  refine ⟨B, F, env, k, pst_imp (sst_bindE h) fun d e1 F1 H1 _ _ z => ?_⟩
  obtain ⟨_, k1, z⟩ := z
  cases q : truD d with
  | none => rw [q] at z; exact z.elim
  | some b =>
    rw [q] at z
    refine ⟨b, rfl, ?_⟩
    cases b with
    | true => rw [if_pos rfl]; exact ⟨B, F1, e1, k1, z⟩
    | false => rw [if_neg Bool.false_ne_true]; exact ⟨B, F1, e1, k1, z⟩
theorem ss_brk : SS X W pn (.Break pos) (evS C pn .brk) := ps_break.imp fun Y σ H h => by
  obtain ⟨B, F, env, k, h⟩ := h
  rw [evS] at h
  exact h σ F H .refl k .refl
theorem ss_cont : SS X W pn (.Continue pos) (evS C pn .cont) := ps_continue.imp fun Y σ H h => by
  obtain ⟨B, F, env, k, h⟩ := h
  rw [evS] at h
  exact h σ F H .refl k .refl
theorem ss_pass : SS X W pn (.Pass pos) (evS C pn .pass) := ps_pass.imp fun Y σ H h => by
  obtain ⟨B, F, env, k, h⟩ := h
  rw [evS] at h
  exact sst_here (r := .nx) k h
theorem ss_doc {x j} : SS X W pn (.Expr (.Constant (.str x) j p) pos) (evS C pn .doc) := ps_doc.imp fun Y σ H h => by
  obtain ⟨B, F, env, k, h⟩ := h
  rw [evS] at h
  exact sst_here (r := .nx) k h
theorem ss_while {r : E} {x : SL} (hp : PassesOwn (model X.prog X.w) X.A X.env X.xe) (hc : ST X W c (evE C r)) (hb : SSs X W pn bs (evSL C pn x)) : SS X W pn (.While c bs [] pos) (evS C pn (.while_ r x)) := (ps_while hp hc hb).imp fun Y σ H h => by
  obtain ⟨B, F, env, k, h⟩ := h
  rw [evS] at h
  refine ⟨fun m σ' H' => tS X.K W pn (whileR (evE C r) (evSL C pn x) m) Y σ' H', ⟨C.fuel, B, F, env, k, h⟩, ?_⟩
  rintro m σ' H' ⟨B', F', env', k', h'⟩
  cases m with
  | zero => rw [whileR] at h'; exact h'.elim
  | succ n =>
    rw [whileR] at h'
    refine ⟨B', F', env', k', pst_imp (sst_bindE h') fun d e1 F1 H1 s1 _ z => ?_⟩
    obtain ⟨_, k1, z⟩ := z
    cases q : truD d with
    | none => rw [q] at z; exact z.elim
    | some b =>
      rw [q] at z
      refine ⟨b, rfl, ?_⟩
      cases b with
      | false => rw [if_neg Bool.false_ne_true]; exact sst_here (r := .nx) k1 z
      | true =>
        rw [if_pos rfl]
        refine ⟨fun σ2 H2 => tS X.K W pn (whileR (evE C r) (evSL C pn x) n) Y σ2 H2, fun σ2 H2 q => ⟨n, Nat.lt_succ_self n, q⟩, B', F1, e1, k1, ?_⟩
        dsimp only at z
        cases zb : evSL C pn x e1 with
        | ok fl e2 =>
          rw [zb] at z
          cases fl with
          | nx => exact fun σ2 F2 H2 s2 k2 g2 => ⟨B', F2, e2, k2, sst_from s2 g2 z⟩
          | ct => exact fun σ2 F2 H2 s2 k2 g2 => ⟨B', F2, e2, k2, sst_from s2 g2 z⟩
          | bk => exact fun σ2 F2 H2 s2 k2 g2 => z σ2 F2 H2 s2 k2 g2
          | rt w => exact z
        | exc y e2 => rw [zb] at z; exact z
        | stuck => rw [zb] at z; exact z
theorem Sg.sub {pn pn' : Nat → Bool} {σ σ' : L2.St} (g : Sg pn' σ σ') (h : ∀ j, pn j = true → pn' j = true) : Sg pn σ σ' := fun j hj => g j (h j hj)
theorem also_l {o : Option Nat} {j : Nat} (h : pn j = true) : also pn o j = true := by unfold also; rw [h, Bool.true_or]
theorem also_r {i : Nat} : also pn (some i) i = true := by unfold also; rw [Bool.or_eq_true]; right; exact beq_self_eq_true _
/-- the end of a walk -/
theorem for_end {K : PySem.W.Frag} {B B1 : Addr → Prop} {F F1 F' : Fp} {H H' : Hp} {σ σ' : L2.St} {env env0 env' : En} {it : It'} {ds : List D} {J : L2.It} {G : Gd} {Y : Ends} (zi : evIt C it env = .ok ds env0) (en : Entered K B F H σ env0 it ds J B1 F1 G)
    (s : Stp F1 H F' H') (k : Ok K B1 F' H' σ' env') (g : Sg (also pn it.slot) σ σ') (h : sst K W pn B σ F H Y (unblkR it env (.ok .nx env'))) : Y.nx σ' H' := by
  unfold unblkR at h
  dsimp only at h
  split at h
  · rename_i env2 zu
    obtain ⟨F3, s3, l3, b3⟩ := en.back (fun _ => False) σ' F' H' env' (fun _ z => z.elim) s (k.less fun a q => q.elim id fun z => z.elim) (en.walk.stay _ _ _ _ _ _ ⟨s, fun a q => by
      rcases q with (q | q) | q
      · exact .inl (.inl q)
      · exact q.elim
      · exact (s.new a q).imp (fun z => .inr z) id⟩ en.g) (fun i hs => ⟨g i (by rw [hs]; exact also_r), by
        cases it with
        | own j =>
          cases hs
          unfold unblk at zu
          dsimp only at zu
          split at zu
          · rename_i q; exact .inl q
          · cases zu
        | _ => cases hs⟩)
    refine h σ' F3 H' s3 ((b3 env2 ?_).less fun a q => .inl q) (g.sub fun j => also_l)
    cases it with
    | own j =>
      obtain ⟨w, q1, q2, _⟩ := evIt_len zi rfl
      unfold unblk at zu
      dsimp only at zu
      split at zu
      · cases zu
        rw [q1, q2]
        exact .inr ⟨j, rfl, rfl⟩
      · cases zu
    | _ => cases zu; exact .inl rfl
  · exact h.elim
theorem ss_for {it : It'} {t : Tg} {x : SL} (hp : PassesOwn (model X.prog X.w) X.A X.env X.xe) (hc : X.calm = true) (hi : SI' X W tg iter C it) (hg : PG X tg (gT X.K t)) (hb : SSs X W (also pn it.slot) bs (evSL C (also pn it.slot) x)) (hs : ∀ x, foldedSetIterable iter X.env x = pure x) :
    SS X W pn (.For tg iter bs [] pos) (evS C pn (.for_ t it x)) := (ps_for hp hc hi hg hb hs).imp fun Y σ H h => by
  obtain ⟨B, F, env, k, h⟩ := h
  rw [evS] at h
  cases zi : evIt C it env with
  | exc y e1 => rw [zi] at h; exact ⟨B, F, env, k, by rw [zi]; exact fun F' H' cls dx s k' xr => h σ F' H' cls dx s k' .refl xr⟩
  | stuck => rw [zi] at h; exact h.elim
  | ok ds env1 =>
    rw [zi] at h
    refine ⟨B, F, env, k, ?_⟩
    rw [zi]
    intro F0 H0 s0 k0 J rdy
    replace h := sst_from s0 (.refl (pn := pn) (σ := σ)) h
    dsimp only [R.bind] at h
    obtain ⟨B1, F1, G, en⟩ := enter k0 rdy
    generalize hf : (fun (d : D) (env : En) => (match bindT (also pn it.slot) env t d with
      | some env2 => evSL C (also pn it.slot) x env2
      | none => R.stuck : R Fl)) = f at h
    refine ⟨fun i m σ' H' => i ≤ ds.length ∧ m = ds.length - i ∧ ∃ F' env', Stp F1 H0 F' H' ∧ Ok X.K B1 F' H' σ' env' ∧ Sg (also pn it.slot) σ σ' ∧ sst X.K W pn B σ F0 H0 Y (unblkR it env (forR f (ds.drop i) env')), ⟨ds.length, Nat.zero_le _, rfl, F1, env1, .refl, en.ok, .refl, h⟩, ?_⟩
    rintro i m σ' H' ⟨hil, rfl, F', env', st, kk, sg, hh⟩
    have goT : Go B1 F1 H0 B1 F' H' := st.go B1
    have g2 : G B1 F' H' := en.walk.stay _ _ _ _ _ _ goT en.g
    by_cases hlt : i < ds.length
    · refine .inr ⟨en.walk.go _ _ _ i g2 hlt, fun σ3 H3 => i + 1 ≤ ds.length ∧ ds.length - (i + 1) = ds.length - (i + 1) ∧ ∃ F' env', Stp F1 H0 F' H3 ∧ Ok X.K B1 F' H3 σ3 env' ∧ Sg (also pn it.slot) σ σ3 ∧ sst X.K W pn B σ F0 H0 Y (unblkR it env (forR f (ds.drop (i + 1)) env')), fun σ3 H3 nx => ⟨ds.length - (i + 1), by omega, nx⟩, fun x' H'' y => ?_⟩
      obtain ⟨gr, d, hd, rx⟩ := en.walk.yld _ _ _ i x' H'' g2 kk.there hlt y
      rw [show ds.drop i = d :: ds.drop (i + 1) from by rw [List.drop_eq_getElem_cons hlt]; congr 1; rw [List.getElem?_eq_getElem hlt] at hd; exact Option.some.inj hd, forR] at hh
      have kk2 := kk.grow gr
      cases zb : bindT (also pn it.slot) env' t d with
      | none => rw [show f d env' = .stuck from by rw [← hf]; dsimp only; rw [zb]] at hh; exact hh.elim
      | some envB =>
        rw [show f d env' = evSL C (also pn it.slot) x envB from by rw [← hf]; dsimp only; rw [zb]] at hh
        refine gT_ok kk2 rx zb fun σ2 F2 fl => ⟨B1, F2, envB, fl.ok, ?_⟩
        have st2 : Stp F1 H0 F2 H'' := st.trans ((Stp.grow gr).trans fl.stp)
        have sg2 : Sg (also pn it.slot) σ σ2 := sg.trans fl.pins
        cases zs : evSL C (also pn it.slot) x envB with
        | ok r e3 =>
          rw [zs] at hh
          cases r with
          | nx => exact fun σ3 F3 H3 s3 k3 g3 => ⟨by omega, rfl, F3, e3, st2.trans s3, k3, sg2.trans g3, hh⟩
          | ct => exact fun σ3 F3 H3 s3 k3 g3 => ⟨by omega, rfl, F3, e3, st2.trans s3, k3, sg2.trans g3, hh⟩
          | bk => exact fun σ3 F3 H3 s3 k3 g3 => for_end zi en (st2.trans s3) k3 (sg2.trans g3) hh
          | rt w =>
            intro σ3 F3 H3 v Fr g3 gg
            have g4 := g3.from st2
            refine hh σ3 F3 H3 v Fr ⟨en.fst.trans g4.stp, fun a ha => en.fst.from_ (g4.from_ a ha), g4.ok.less fun a q => q.imp (en.sub a) id, rw_less (fun a q => q.imp (fun q => q.imp (en.sub a) id) id) g4.rw, g4.nd⟩ ((sg2.trans gg).sub fun j => also_l)
        | exc y e3 =>
          rw [zs] at hh
          intro σ3 F3 H3 cls dx s3 k3 g3 xr
          exact hh σ3 F3 H3 cls dx (en.fst.trans (st2.trans s3)) (k3.less en.sub) ((sg2.trans g3).sub fun j => also_l) (xr.less fun a q => q.imp (en.sub a) id)
        | stuck => rw [zs] at hh; exact hh.elim
    · have hi : i = ds.length := by omega
      subst hi
      rw [List.drop_length, forR] at hh
      exact .inl ⟨en.walk.stop _ _ _ g2, for_end zi en st kk sg hh⟩
end
end Ev

set_option Elab.async false
set_option linter.all false
set_option maxRecDepth 100000
set_option maxHeartbeats 4000000
namespace Ev
open PySem PySem.Spec PyProof.Rows L2 He Gw
section
variable {K : PySem.W.Frag} {M : Addr → Prop} {H : Hp}
theorem rd_fl {d : D} {v u : V} (r : rd K M H d v) (e : flD d = some u) : v = u ∧ flatV u = true := by
  cases d with
  | non => rw [rd] at r; cases e; exact ⟨r, rfl⟩
  | bl b => rw [rd] at r; cases e; exact ⟨r, rfl⟩
  | int i => rw [rd] at r; cases e; exact ⟨r, rfl⟩
  | str x => rw [rd] at r; cases e; exact ⟨r, rfl⟩
  | _ => cases e
theorem rv_fl {d : D} {v u : V} (r : rv K M H d v) (e : flD d = some u) : v = u ∧ flatV u = true := by
  cases d with
  | lst ds => cases e
  | dct ks ds => cases e
  | _ => exact rd_fl r e
theorem rdL_fl : ∀ {ds : List D} {vs us : List V}, rdL K M H ds vs → flL ds = some us → vs = us ∧ us.all flatV = true
  | [], _, _, r, e => by rw [rdL] at r; cases e; exact ⟨r, rfl⟩
  | d :: ds, _, _, r, e => by
    rw [rdL] at r
    obtain ⟨v, vs, rfl, r1, r2⟩ := r
    unfold flL at e
    cases q : flD d with
    | none => rw [q] at e; cases e
    | some u =>
      cases q2 : flL ds with
      | none => rw [q, q2] at e; cases e
      | some us =>
        rw [q, q2] at e
        cases e
        obtain ⟨rfl, h1⟩ := rd_fl r1 q
        obtain ⟨rfl, h2⟩ := rdL_fl r2 q2
        exact ⟨rfl, by rw [List.all_cons, h1, h2]; rfl⟩
theorem inS_some {x : D} {ds : List D} {b : Bool} (e : inS x ds = some b) : ∃ v vs, flD x = some v ∧ flL ds = some vs ∧ b = inV v vs := by
  unfold inS at e
  cases q : flD x with
  | none => rw [q] at e; cases e
  | some u =>
    cases q2 : flL ds with
    | none => rw [q, q2] at e; cases e
    | some us => rw [q, q2] at e; cases e; exact ⟨u, us, rfl, rfl, rfl⟩
/-- in, not in: what the rules ask -/
theorem isin_of {a b : D} {x y : V} {r : Bool} (e : isinD a b = some r) (ra : rv K M H a x) (rb : rv K M H b y) : (∃ p xs, y = .ref p ∧ (SqL K H p xs ∨ SqT K H p xs) ∧ flatV x = true ∧ xs.all flatV = true ∧ r = inV x xs) ∨
    ∃ (c : Nat) (z : Str), x = .str ⟨#[c]⟩ ∧ y = .str z ∧ r = decide (c ∈ z.cps.toList) := by
  unfold isinD at e
  split at e
  · obtain ⟨v, vs, h1, h2, rfl⟩ := inS_some e
    obtain ⟨p, us, rfl, hp, rr⟩ := rb
    obtain ⟨rfl, f1⟩ := rv_fl ra h1
    obtain ⟨rfl, f2⟩ := rdL_fl rr h2
    exact .inl ⟨p, _, rfl, .inl (SqL.of hp), f1, f2, rfl⟩
  · obtain ⟨v, vs, h1, h2, rfl⟩ := inS_some e
    obtain ⟨p, us, rfl, hp, rr⟩ := rv_tup rb
    obtain ⟨rfl, f1⟩ := rv_fl ra h1
    obtain ⟨rfl, f2⟩ := rdL_fl rr h2
    exact .inl ⟨p, _, rfl, .inr (sqT_of hp), f1, f2, rfl⟩
  · rename_i x' z
    split at e
    · rename_i c hc
      cases e
      obtain rfl := rv_str ra
      obtain rfl := rv_str rb
      refine .inr ⟨c, z, ?_, rfl, rfl⟩
      obtain ⟨cps⟩ := x'
      congr 2
      exact Array.toList_inj.mp hc
    · cases e
  · cases e
end
section
variable {X : Cx} {W : WX} {C : Ct} {a b c : Expr} {es : List Expr} {pos p p2 : Pos}
theorem opr_isin : OpR X (compareOp .In) (rO2 X.K .isin) := by
  intro pins s σ H x y v u Q I rx ry h
  obtain ⟨M, ds, d, al, rs, e, q⟩ := h
  obtain ⟨a, b, rfl, ra, rb⟩ := rvL2 rs
  replace e : (isinD a b).map D.bl = some d := e
  cases z : isinD a b with
  | none => rw [z] at e; cases e
  | some r =>
    rw [z] at e
    cases e
    rcases isin_of z ra rb with ⟨p, xs, rfl, h1, f1, f2, rfl⟩ | ⟨c, z', rfl, rfl, rfl⟩
    · exact op_in_seq pins s σ H _ _ v u Q I rx ry ⟨p, xs, rfl, h1, f1, f2, q _ _ .refl rd_bl⟩
    · exact op_in_sign pins s σ H _ _ v u Q I rx ry ⟨c, z', rfl, rfl, q _ _ .refl rd_bl⟩
theorem opr_notin : OpR X (compareOp .NotIn) (rO2 X.K .notin) := by
  intro pins s σ H x y v u Q I rx ry h
  obtain ⟨M, ds, d, al, rs, e, q⟩ := h
  obtain ⟨a, b, rfl, ra, rb⟩ := rvL2 rs
  replace e : (isinD a b).map (fun r => D.bl (!r)) = some d := e
  cases z : isinD a b with
  | none => rw [z] at e; cases e
  | some r =>
    rw [z] at e
    cases e
    rcases isin_of z ra rb with ⟨p, xs, rfl, h1, f1, f2, rfl⟩ | ⟨c, z', rfl, rfl, rfl⟩
    · exact op_notIn_seq pins s σ H _ _ v u Q I rx ry ⟨p, xs, rfl, h1, f1, f2, q _ _ .refl rd_bl⟩
    · exact op_notIn_sign pins s σ H _ _ v u Q I rx ry ⟨c, z', rfl, rfl, q _ _ .refl rd_bl⟩
theorem ev_op1 {o : Opc} {p : Opd} {env : En} : evE C (.op o (.cons p .nil)) env = (evOpd C p env).bind fun x e1 => lift ((resO e1 [x]).bind (opD o)) e1 := by
  rw [evE, evO]
  simp only [R.bind_assoc]
  congr 1
theorem snd_neg {q : Opd} (ha : SO X W a (evOpd C q)) : SE X W (.UnaryOp .USub a pos) (evE C (.op .neg (.cons q .nil))) := (pe_un un_neg ha).imp fun σ H Q h => by
  obtain ⟨B, F, env, k, h⟩ := h
  rw [ev_op1] at h
  refine ⟨B, F, env, k, pst_imp (pst_bind h) fun o e1 F1 H1 _ _ z v hv => ?_⟩
  obtain ⟨_, k1, z⟩ := z
  obtain ⟨d, e, z⟩ := pst_lift z
  cases q : resO e1 [o] with
  | none => rw [q] at e; cases e
  | some ds =>
    rw [q] at e
    have r := res_rv (vs := [v]) k1 q ⟨v, [], rfl, hv, rfl⟩
    obtain ⟨d', rfl, rr⟩ := rvL1 r
    cases d' with
    | int i =>
      cases e
      obtain rfl := rv_int rr
      exact ⟨i, rfl, z F1 H1 .refl k1 _ rd_int⟩
    | _ => cases e
/-! ### slices -/
theorem snd_ptN : PO X none (fun σ H Q => ∃ B F env, Ok X.K B F H σ env ∧ pst X.K W B σ F H (fun o _ F' H' => Q o H') (evPt C .no env)) := ⟨fun pins s σ H Q I h => po_none.run pins s σ H Q I (by
  obtain ⟨B, F, env, k, h⟩ := h
  rw [evPt] at h
  exact pst_here h k)⟩
theorem snd_pt {e : E} (he : SE X W a (evE C e)) : PO X (some a) (fun σ H Q => ∃ B F env, Ok X.K B F H σ env ∧ pst X.K W B σ F H (fun o _ F' H' => Q o H') (evPt C (.yes e) env)) := ⟨fun pins s σ H Q I h => (po_some he).run pins s σ H Q I (by
  obtain ⟨B, F, env, k, h⟩ := h
  rw [evPt] at h
  refine ⟨B, F, env, k, pst_imp (pst_bind h) fun d e1 F1 H1 _ _ z v hv => ?_⟩
  obtain ⟨_, k1, z⟩ := z
  cases d with
  | int i =>
    rw [rd] at hv
    exact ⟨i, hv, pst_here z k1⟩
  | _ => exact z.elim)⟩
abbrev SPt (X : Cx) (W : WX) (ast : Option Expr) (ev : Ev (Option Int)) : Prop := PO X ast (fun σ H Q => ∃ B F env, Ok X.K B F H σ env ∧ pst X.K W B σ F H (fun o _ F' H' => Q o H') (ev env))
def rSlE (K : PySem.W.Frag) : V → Option Int → Option Int → Hp → VK → Prop := fun x lo hi H Q => ∃ (M : Addr → Prop) (d r : D), (∀ a, M a → H a ≠ none) ∧ rv K M H d x ∧ slcD lo hi d = some r ∧ ∀ v H', Grow H H' → rd K M H' r v → Q v H'
theorem cut_rd {K : PySem.W.Frag} {M : Addr → Prop} {H : Hp} {ds : List D} {vs : List V} {lo hi : Option Int} (r : rdL K M H ds vs) : rdL K M H (cutL ds lo hi) (cutV vs lo hi) := by
  unfold cutL cutV
  rw [rdL_len r]
  exact rdL_take (rdL_drop r _) _
theorem slr_E : SlR X (rSlE X.K) := by
  intro pins s σ H x v vl vu lo hi sl Q I rx hs pl pu h
  obtain ⟨M, d, r, al, rv, e, q⟩ := h
  unfold slcD at e
  split at e
  · cases e
    obtain ⟨p, vs, rfl, hp, rr⟩ := rv
    exact sl_list pins s σ H _ v vl vu lo hi sl Q I rx hs pl pu ⟨p, vs, rfl, SqL.of hp, fun t ht => q _ _ (grow_upd ht) (new_lst al ht (cut_rd rr))⟩
  · rename_i ds
    cases e
    obtain ⟨p, vs, rfl, hp, rr⟩ := rv_tup rv
    refine sl_tupA pins s σ H _ v vl vu lo hi sl Q I rx hs pl pu ⟨p, vs, rfl, sqT_of hp, fun ⟨h1, h2⟩ => ?_, fun _ t ht => q _ _ (grow_upd ht) (new_tup al ht (cut_rd rr))⟩
    refine q _ _ .refl (rd_tup hp ?_)
    have : cutL ds lo hi = ds := by
      unfold cutL
      rw [rdL_len rr, h1, h2, List.drop_zero, Nat.sub_zero, ← rdL_len rr, List.take_length]
    rw [this]
    exact rr
  · rename_i ns
    cases e
    obtain ⟨p, rfl, hp⟩ := rv_scr rv
    refine sl_list pins s σ H _ v vl vu lo hi sl Q I rx hs pl pu ⟨p, _, rfl, hp, fun t ht => q _ _ (grow_upd ht) (new_lst al ht ?_)⟩
    have : cutV (ns.map V.int) lo hi = (cutL ns lo hi).map V.int := by
      unfold cutV cutL
      rw [List.length_map, List.map_take, List.map_drop]
    rw [this]
    exact rdL_ints _
  · split at e
    · rename_i hz
      cases e
      obtain rfl := rv_str rv
      exact sl_str pins s σ H _ v vl vu lo hi sl Q I rx hs pl pu ⟨_, rfl, hz, q _ _ .refl rd_str⟩
    · cases e
  · cases e
theorem snd_slc {q : Opd} {l h : OE} {lo hi : Option Expr} (ha : SO X W a (evOpd C q)) (hl : SPt X W lo (evPt C l)) (hh : SPt X W hi (evPt C h)) : SE X W (.Subscript a (.Slice lo hi none p2) pos) (evE C (.slc q l h)) := (pe_slice slr_E ha hl hh).imp fun σ H Q h => by
  obtain ⟨B, F, env, k, h⟩ := h
  rw [evE] at h
  refine ⟨B, F, env, k, pst_imp (pst_bind h) fun o e1 F1 H1 _ _ z v hv => ?_⟩
  obtain ⟨_, k1, z⟩ := z
  refine ⟨B, F1, e1, k1, pst_imp (pst_bind z) fun l e2 F2 H2 s2 _ z => ?_⟩
  obtain ⟨_, k2, z⟩ := z
  refine ⟨B, F2, e2, k2, pst_imp (pst_bind z) fun l e3 F3 H3 s3 _ z => ?_⟩
  obtain ⟨_, k3, z⟩ := z
  obtain ⟨d, e, z⟩ := pst_lift z
  cases q : resO e3 [o] with
  | none => rw [q] at e; cases e
  | some ds =>
    rw [q] at e
    have r := res_rv (vs := [v]) k3 q ⟨v, [], rfl, ov_stp s3 (ov_stp s2 hv), rfl⟩
    obtain ⟨d', rfl, rr⟩ := rvL1 r
    exact ⟨av B F3, d', d, k3.there, rr, e, fun u H' g ru => z F3 H' (Stp.grow g) (k3.grow g) u ru⟩
/-! ### chains -/
theorem rO_two {K : PySem.W.Frag} {B : Addr → Prop} {F : Fp} {H : Hp} {d1 d2 d : D} {x y : V} {o : Opc} {Q : VK} (al : ∀ a, av B F a → H a ≠ none) (h1 : rd K (av B F) H d1 x) (h2 : rd K (av B F) H d2 y) (e : opD o [d1, d2] = some d) (q : ∀ v H', Grow H H' → rd K (av B F) H' d v → Q v H') :
    rO K o [x, y] H Q := ⟨av B F, [d1, d2], d, al, ⟨x, [y], rfl, rv_of h1, y, [], rfl, rv_of h2, rfl⟩, e, q⟩
theorem chain_of {o o' : Opc} {x y z : E} {σ : L2.St} {H : Hp} {Q : VK} (h : tE X.K W (evE C (.chain x o y o' z)) σ H Q) : tChain (rO2 X.K o) (rO2 X.K o') (tE X.K W (evE C x)) (tE X.K W (evE C y)) (tE X.K W (evE C z)) σ H Q := by
  obtain ⟨B, F, env, k, h⟩ := h
  rw [evE] at h
  refine ⟨B, F, env, k, pst_imp (pst_bind h) fun d1 e1 F1 H1 _ _ z v1 hv1 => ?_⟩
  obtain ⟨_, k1, z⟩ := z
  refine ⟨B, F1, e1, k1, pst_imp (pst_bind z) fun d2 e2 F2 H2 s2 _ z v2 hv2 => ?_⟩
  obtain ⟨_, k2, z⟩ := z
  cases q : opD o [d1, d2] with
  | none => rw [q] at z; exact z.elim
  | some d =>
    rw [q] at z
    cases d with
    | bl b =>
      refine rO_two k2.there (s2.rd hv1) hv2 q fun v H3 g hv => ?_
      rw [rd] at hv
      subst hv
      refine ⟨b, rfl, ?_⟩
      cases b with
      | false =>
        rw [if_neg Bool.false_ne_true]
        exact z F2 H3 (Stp.grow g) (k2.grow g) _ rd_bl
      | true =>
        rw [if_pos rfl]
        have sg : Stp F2 H2 F2 H3 := Stp.grow g
        refine ⟨B, F2, e2, k2.grow g, pst_imp (pst_bind (pst_from sg z)) fun d3 e3 F3 H3' s3 _ z v3 hv3 => ?_⟩
        obtain ⟨_, k3, z⟩ := z
        obtain ⟨d', e', z⟩ := pst_lift z
        exact rO_two k3.there (s3.rd (sg.rd hv2)) hv3 e' fun u H' g' ru => z F3 H' (Stp.grow g') (k3.grow g') u ru
    | _ => exact z.elim
theorem snd_chain {o o' : Opc} {op op' : CmpOp} {x y z : E} (ho : OpR X (compareOp op) (rO2 X.K o)) (ho' : OpR X (compareOp op') (rO2 X.K o')) (ha : SE X W a (evE C x)) (hb : SE X W b (evE C y)) (hc : SE X W c (evE C z)) (hm : lastMarks [op, op'] [b, c] = false) :
    SE X W (.Compare a [op, op'] [b, c] pos) (evE C (.chain x o y o' z)) := (pe_chain ho ho' ha hb hc hm).imp fun σ H Q h => chain_of h
theorem snd_chainT {o o' : Opc} {op op' : CmpOp} {x y z : E} (ho : OpR X (compareOp op) (rO2 X.K o)) (ho' : OpR X (compareOp op') (rO2 X.K o')) (hc' : isCmp o' = true) (ha : SE X W a (evE C x)) (hb : SE X W b (evE C y)) (hc : SE X W c (evE C z)) (hm : lastMarks [op, op'] [b, c] = false) :
    ST X W (.Compare a [op, op'] [b, c] pos) (evE C (.chain x o y o' z)) := (pt_chain ho ho' ha hb hc hm).imp fun σ H Q h => chain_of (tt_tb (fun env d e z => by
  rw [evE] at z
  obtain ⟨x1, e1, _, z⟩ := bind_ok z
  obtain ⟨y1, e2, _, z⟩ := bind_ok z
  split at z
  · obtain ⟨z1, e3, _, z⟩ := bind_ok z
    obtain ⟨z, _⟩ := lift_ok z
    exact cmp_bl hc' z
  · cases z; exact ⟨_, rfl⟩
  · cases z) h)
end
/-! ### a slot's own list changed -/
section
variable {K : PySem.W.Frag} {B : Addr → Prop} {F : Fp} {H : Hp} {σ : L2.St} {env : En}
theorem Ok.own (k : Ok K B F H σ env) {i : Nat} {w : Wv} (e : getW env i = some w) : ∃ v, σ[i]? = some (some v) ∧ rw' K (av B F) H w v (F i) := k.at_ i w (getW_some e)
theorem Ok.swap (k : Ok K B F H σ env) {i : Nat} {w : Wv} {l : Addr} {o : HO} (hi : i < env.length) (hl : F i = [l]) (hs : σ[i]? = some (some (.ref l))) (hw : ∀ H', H' l = some o → Stay (av B F) H (av B F) H' → rw' K (av B F) H' w (.ref l) [l]) : Stp F H F (upd H l o) ∧ Ok K B F (upd H l o) σ (env.set i (some w)) := by
  have inl : inF F l := ⟨i, by rw [hl]; exact List.mem_cons_self⟩
  have st : Stay (av B F) H (av B F) (upd H l o) := ⟨fun a u n e => by rw [upd_ne (fun z => n (by rw [z]; exact .inr inl))]; exact e, fun a h => .inl h⟩
  refine ⟨⟨fun a u n e => by rw [upd_ne (fun z => n (by rw [z]; exact inl))]; exact e, fun a h => .inl h⟩, ⟨by rw [List.length_set, k.len], fun j u e => ?_, k.nd, k.dj, fun a h => ?_, k.sep⟩⟩
  · by_cases ej : j = i
    · subst ej
      rw [List.getElem?_set_self hi] at e
      cases e
      refine ⟨.ref l, hs, ?_⟩
      rw [hl]
      exact hw _ upd_same st
    · rw [List.getElem?_set_ne (fun z => ej z.symm)] at e
      obtain ⟨v, e1, r⟩ := k.at_ j u e
      refine ⟨v, e1, rw_stay st u v (F j) (fun a ha => upd_ne fun z => ej (k.dj j i a ha (by rw [z, hl]; exact List.mem_cons_self))) r⟩
  · by_cases e : a = l
    · rw [e, upd_same]; exact fun z => nomatch z
    · rw [upd_ne e]; exact k.there a h
theorem getW_lt {i : Nat} {w : Wv} (e : getW env i = some w) : i < env.length := (List.getElem?_eq_some_iff.mp (getW_some e)).1
end
/-! ### methods that change it -/
def rMu (K : PySem.W.Frag) (m : Opc') : V → List V → Hp → VK → Prop := fun x us H Q => ∃ (l : Addr) (vs : List V) (M : Addr → Prop) (xs ds : List D) (r : D) (xs' : List D), x = .ref l ∧ H l = some (.lst vs) ∧ rdL K M H xs vs ∧ rdL K M H ds us ∧ mutD m xs ds = some (r, xs') ∧ ∀ v vs', rd K M H r v → rdL K M H xs' vs' → Q v (upd H l (.lst vs'))
section
variable {X : Cx} {W : WX} {C : Ct} {a b c e : Expr} {es : List Expr} {pos p p2 apos : Pos}
theorem mu_append : MtR X "list.append" (rMu X.K .append) := by
  intro pins s σ H x us v uv Q I rx ru h
  obtain ⟨l, vs, M, xs, ds, r, xs', rfl, hl, r1, r2, e, q⟩ := h
  match ds, e, r2 with
  | [d], e, r2 =>
    obtain ⟨u, rfl, r3⟩ := rdL1 r2
    replace e : (if xs.length < sizeLine then some (D.non, xs ++ [d]) else none) = some (r, xs') := e
    split at e
    · rename_i hz
      cases e
      exact mt_append pins s σ H _ _ v uv Q I rx ru ⟨l, vs, u, rfl, rfl, hl, by rw [← rdL_len r1]; exact hz, q _ _ rd_non (rdL_app r1 (rdL_one r3))⟩
    · cases e
theorem mu_extend : MtR X "list.extend" (rMu X.K .extend) := by
  intro pins s σ H x us v uv Q I rx ru h
  obtain ⟨l, vs, M, xs, ds, r, xs', rfl, hl, r1, r2, e, q⟩ := h
  match ds, e, r2 with
  | [d], e, r2 =>
    obtain ⟨u, rfl, r3⟩ := rdL1 r2
    replace e : ((seqI d).bind fun zs => if xs.length + zs.length ≤ sizeLine then some (D.non, xs ++ zs) else none) = some (r, xs') := e
    cases z : seqI d with
    | none => rw [z] at e; cases e
    | some zs =>
      rw [z] at e
      replace e : (if xs.length + zs.length ≤ sizeLine then some (D.non, xs ++ zs) else none) = some (r, xs') := e
      split at e
      · rename_i hz
        cases e
        cases d with
        | lst zs' =>
          cases z
          rw [rd] at r3
          obtain ⟨p, ws, rfl, h1, h2⟩ := r3
          exact mt_extend pins s σ H _ _ v uv Q I rx ru ⟨l, p, vs, ws, rfl, rfl, hl, h1.2, by rw [← rdL_len r1, ← rdL_len h2]; exact hz, q _ _ rd_non (rdL_app r1 h2)⟩
        | tup zs' =>
          cases z
          rw [rd] at r3
          obtain ⟨p, ws, rfl, h1, h2⟩ := r3
          exact mt_extT pins s σ H _ _ v uv Q I rx ru ⟨l, p, vs, ws, rfl, rfl, hl, sqT_of h1, by rw [← rdL_len r1, ← rdL_len h2]; exact hz, q _ _ rd_non (rdL_app r1 h2)⟩
        | _ => cases z
      · cases e
theorem mu_pop : MtR X "list.pop" (rMu X.K .pop) := by
  intro pins s σ H x us v uv Q I rx ru h
  obtain ⟨l, vs, M, xs, ds, r, xs', rfl, hl, r1, r2, e, q⟩ := h
  match ds, e, r2 with
  | [], e, r2 =>
    rw [rdL] at r2
    subst r2
    replace e : ((xs[xs.length - 1]?).map fun d => (d, xs.dropLast)) = some (r, xs') := e
    cases z : xs[xs.length - 1]? with
    | none => rw [z] at e; cases e
    | some d =>
      rw [z] at e
      cases e
      obtain ⟨u, e1, ru'⟩ := rdL_get r1 z
      refine mt_pop pins s σ H _ _ v uv Q I rx ru ⟨l, vs, u, rfl, rfl, hl, by rw [← rdL_len r1]; exact e1, q _ _ ru' ?_⟩
      rw [List.dropLast_eq_take, List.dropLast_eq_take, ← rdL_len r1]
      exact rdL_take r1 _
theorem mu_clear : MtR X "list.clear" (rMu X.K .clear) := by
  intro pins s σ H x us v uv Q I rx ru h
  obtain ⟨l, vs, M, xs, ds, r, xs', rfl, hl, r1, r2, e, q⟩ := h
  match ds, e, r2 with
  | [], e, r2 =>
    rw [rdL] at r2
    subst r2
    cases e
    exact mt_clear pins s σ H _ _ v uv Q I rx ru ⟨l, vs, rfl, rfl, hl, q _ _ rd_non (by rw [rdL])⟩
theorem mu_reverse : MtR X "list.reverse" (rMu X.K .reverse) := by
  intro pins s σ H x us v uv Q I rx ru h
  obtain ⟨l, vs, M, xs, ds, r, xs', rfl, hl, r1, r2, e, q⟩ := h
  match ds, e, r2 with
  | [], e, r2 =>
    rw [rdL] at r2
    subst r2
    cases e
    exact mt_reverse pins s σ H _ _ v uv Q I rx ru ⟨l, vs, rfl, rfl, hl, q _ _ rd_non (rdL_rev r1)⟩
theorem mu_insert : MtR X "list.insert" (rMu X.K .insert) := by
  intro pins s σ H x us v uv Q I rx ru h
  obtain ⟨l, vs, M, xs, ds, r, xs', rfl, hl, r1, r2, e, q⟩ := h
  match ds, e, r2 with
  | [.int i, d], e, r2 =>
    obtain ⟨u, u', rfl, r3, r4⟩ := rdL2 r2
    rw [rd] at r3
    subst r3
    replace e : (if xs.length < sizeLine ∧ 0 ≤ i ∧ i < 2 ^ 63 then some (D.non, xs.take i.toNat ++ [d] ++ xs.drop i.toNat) else none) = some (r, xs') := e
    split at e
    · rename_i hz
      cases e
      exact mt_insert pins s σ H _ _ v uv Q I rx ru ⟨l, vs, i, u', rfl, rfl, hl, by rw [← rdL_len r1]; exact hz.1, hz.2.1, hz.2.2, q _ _ rd_non (rdL_app (rdL_app (rdL_take r1 _) (rdL_one r4)) (rdL_drop r1 _))⟩
    · cases e
theorem mut_of {m : Opc'} {i : Nat} {as : EL} {σ : L2.St} {H : Hp} {Q : VK} (h : tE X.K W (evE C (.mut m i as)) σ H Q) : tVar i σ H fun x H1 => tyV X.K "list" x H1 ∧ tL X.K W (evL C as) σ H1 fun us H2 => rMu X.K m x us H2 Q := by
  obtain ⟨B, F, env, k, h⟩ := h
  rw [evE] at h
  split at h
  · rename_i xs0 hw
    obtain ⟨v, e1, r⟩ := k.own hw
    rw [rw'] at r
    obtain ⟨l, vs0, rfl, hf, hl, r⟩ := r
    refine ⟨.ref l, e1, .inl ⟨rfl, vs0, SqL.of hl⟩, B, F, env, k, pst_imp (pst_bind h) fun ds e2 F2 H2 _ _ z us hus => ?_⟩
    obtain ⟨_, k2, z⟩ := z
    split at z
    · rename_i xs hw2
      obtain ⟨v2, e3, r2⟩ := k2.own hw2
      rw [rw'] at r2
      obtain ⟨l2, vs, rfl, hf2, hl2, r2⟩ := r2
      rw [e1] at e3
      cases e3
      cases q : mutD m xs ds with
      | none => rw [q] at z; exact z.elim
      | some rr =>
        rw [q] at z
        obtain ⟨r, xs'⟩ := rr
        refine ⟨l, vs, av B F2, xs, ds, r, xs', rfl, hl2, r2, hus, q, fun v vs' hv hvs' => ?_⟩
        obtain ⟨s, k3⟩ := k2.swap (o := .lst vs') (w := .ol xs') (getW_lt hw2) hf2 e1 fun H' eq st => by
          rw [rw']
          exact ⟨l, vs', rfl, rfl, eq, rdL_stay st _ _ hvs'⟩
        exact z F2 _ s k3 v (s.rd hv)
    · exact z.elim
  · exact h.elim
theorem snd_mut {m : Opc'} {i : Nat} {as : EL} {x name : Str} {id : String} (slot : Slot "list" name id) (hty : typeOf (.builtin id) = pure (.type "method_descriptor")) (hm : MtR X id (rMu X.K m)) (hN : X.N[i]? = some x) (hv : Vis X.env.scope x) (hd : (x == ("__debug__" : Str)) = false) (hcd : (x == ("__classdict__" : Str)) = false)
    (ha : SLs X W (e :: es) (evL C as)) (hbase : attributeBase (.Name x p) name X.env (eval (.Name x p) X.env) = eval (.Name x p) X.env)
    (hfew : ((backTo pos (starEach (e :: es) X.env)).all (fun x => !x.1) && (backToKw pos (keywordEach [] X.env)).all (fun x => x.1.isSome)
      && decide ((e :: es).length + ([] : List Keyword).length + (if ([] : List Keyword).isEmpty then 0 else 1) < 30)) = true)
    (hline : (apos.endLine == pos.line) = true) (hs : starEach (e :: es) X.env = (false, eval e X.env) :: starEach es X.env) (hplain : (backTo pos (starEach es X.env)).any (·.1) = false) :
    SE X W (.Call (.Attribute (.Name x p) name apos) (e :: es) [] pos) (evE C (.mut m i as)) := (pe_bm PySem.F.plainAttrs_list slot hty hm (pe_var hN hv hd hcd) ha hbase hfew hline hs hplain).imp fun σ H Q h => mut_of h
theorem snd_mut0 {m : Opc'} {i : Nat} {x name : Str} {id : String} (slot : Slot "list" name id) (hty : typeOf (.builtin id) = pure (.type "method_descriptor")) (hm : MtR X id (rMu X.K m)) (hN : X.N[i]? = some x) (hv : Vis X.env.scope x) (hd : (x == ("__debug__" : Str)) = false) (hcd : (x == ("__classdict__" : Str)) = false)
    (hbase : attributeBase (.Name x p) name X.env (eval (.Name x p) X.env) = eval (.Name x p) X.env) (hline : (apos.endLine == pos.line) = true) :
    SE X W (.Call (.Attribute (.Name x p) name apos) [] [] pos) (evE C (.mut m i .nil)) := (pe_bm0 PySem.F.plainAttrs_list slot hty hm (pe_var hN hv hd hcd) hbase hline).imp fun σ H Q h => by
  obtain ⟨v, e1, ty, B, F, env, k, h⟩ := mut_of h
  rw [evL] at h
  exact ⟨v, e1, ty, pst_here h k [] (by rw [rdL])⟩
/-! ### fields -/
theorem look_rd {K : PySem.W.Frag} {M : Addr → Prop} {H : Hp} {f : Str} : ∀ {ks : List Str} {ds : List D} {vs : List V} {d : D}, rdL K M H ds vs → (ks.zip ds).lookup f = some d → ∃ v, (ks.zip vs).lookup f = some v ∧ rd K M H d v
  | [], _, _, _, _, e => by simp at e
  | k :: ks, [], _, _, _, e => by simp at e
  | k :: ks, d :: ds, _, d', r, e => by
    rw [rdL] at r
    obtain ⟨v, vs, rfl, r1, r2⟩ := r
    rw [List.zip_cons_cons, List.lookup_cons] at e ⊢
    split at e
    · cases e; exact ⟨v, rfl, r1⟩
    · exact look_rd r2 e
theorem look_rw {K : PySem.W.Frag} {M : Addr → Prop} {H : Hp} {f : Str} : ∀ {ks : List Str} {ws : List Wv} {vs : List V} {fp : List Addr} {d : D}, rwL K M H ws vs fp → (ks.zip ws).lookup f = some (.fz d) → ∃ v, (ks.zip vs).lookup f = some v ∧ rd K M H d v
  | [], _, _, _, _, _, e => by simp at e
  | k :: ks, [], _, _, _, _, e => by simp at e
  | k :: ks, w :: ws, _, _, d', r, e => by
    rw [rwL] at r
    obtain ⟨v, vs, f1, f2, rfl, rfl, r1, r2⟩ := r
    rw [List.zip_cons_cons, List.lookup_cons] at e ⊢
    split at e
    · cases e
      rw [rw'] at r1
      exact ⟨v, rfl, r1.2⟩
    · exact look_rw r2 e
/-- the classes whose fields are read -/
def FldOk (K : PySem.W.Frag) (C : Ct) : Prop := ∀ c f, C.fok c f = true → Cls K (ga K c) ∧ NoAttr K (ga K c) f
theorem fldW_ok {K : PySem.W.Frag} {B : Addr → Prop} {F : Fp} {H : Hp} {f : Str} {w : Wv} {v : V} {fp : List Addr} {d : D} (hF : FldOk K C) (r : rw' K (av B F) H w v fp) (e : fldW C f w = some d) : ∃ a A dx fs u, v = .ref a ∧ H a = some (.ins A dx fs) ∧ Cls K A ∧ NoAttr K A f ∧ fs.lookup f = some u ∧ rd K (av B F) H d u := by
  unfold fldW at e
  split at e
  · rename_i c ks ds
    split at e
    · rename_i hf
      rw [rw', rd] at r
      obtain ⟨_, a, dx, vs, rfl, h1, h2, h3⟩ := r
      obtain ⟨u, e1, ru⟩ := look_rd h3 e
      exact ⟨a, _, dx, _, u, rfl, h1.2, (hF c f hf).1, (hF c f hf).2, e1, ru⟩
    · cases e
  · rename_i c ks ws
    split at e
    · rename_i hf
      rw [rw'] at r
      obtain ⟨a, dx, vs, fq, rfl, _, h1, h2, h3⟩ := r
      split at e
      · rename_i d' q
        cases e
        obtain ⟨u, e1, ru⟩ := look_rw h3 q
        exact ⟨a, _, dx, _, u, rfl, h1, (hF c f hf).1, (hF c f hf).2, e1, ru⟩
      · cases e
    · cases e
  · cases e
theorem snd_fld {q : Opd} {f : Str} (hF : FldOk X.K C) (ha : SO X W a (evOpd C q)) (hb : attributeBase a f X.env (eval a X.env) = eval a X.env) : SE X W (.Attribute a f pos) (evE C (.fld q f)) := (pe_fld ha hb).imp fun σ H Q h => by
  obtain ⟨B, F, env, k, h⟩ := h
  rw [evE] at h
  refine ⟨B, F, env, k, pst_imp (pst_bind h) fun o e1 F1 H1 _ _ z v hv => ?_⟩
  obtain ⟨_, k1, z⟩ := z
  obtain ⟨d, e, z2⟩ := pst_lift z
  cases o with
  | inl d' =>
    obtain ⟨a, A, dx, fs, u, e1, e2, e3, e4, e5, ru⟩ := fldW_ok (w := .fz d') (fp := []) hF (by rw [rw']; exact ⟨rfl, hv⟩) e
    exact ⟨a, A, dx, fs, u, e1, e2, e3, e4, e5, z2 F1 H1 .refl k1 u ru⟩
  | inr i =>
    replace e : (getW e1 i).bind (fldW C f) = some d := e
    cases q : getW e1 i with
    | none => rw [q] at e; cases e
    | some w =>
      rw [q] at e
      obtain ⟨v', e1', r⟩ := k1.own q
      rw [show σ[i]? = some (some v) from hv] at e1'
      cases e1'
      obtain ⟨a, A, dx, fs, u, e1, e2, e3, e4, e5, ru⟩ := fldW_ok hF r e
      exact ⟨a, A, dx, fs, u, e1, e2, e3, e4, e5, z2 F1 H1 .refl k1 u ru⟩
end
end Ev

set_option Elab.async false
set_option linter.all false
set_option maxRecDepth 100000
set_option maxHeartbeats 4000000
namespace Ev
open PySem PySem.Spec PyProof.Rows L2 He Gw
section
variable {X : Cx} {W : WX} {C : Ct} {pn : Nat → Bool} {a b c e : Expr} {es : List Expr} {pos p p1 p2 : Pos}
theorem setD_some {w w2 : Wv} {k d : D} (e : setD w k d = some w2) : ∃ ds i j, w = .ol ds ∧ k = .int i ∧ ixN ds.length i = some j ∧ w2 = .ol (ds.set j d) := by
  unfold setD at e
  split at e
  · rename_i ds i
    cases q : ixN ds.length i with
    | none => rw [q] at e; cases e
    | some j => rw [q] at e; cases e; exact ⟨ds, i, j, rfl, rfl, q, rfl⟩
  · cases e
theorem ss_setix {i : Nat} {x : Str} {r ix : E} {kx : Expr} (hN : X.N[i]? = some x) (hv : Vis X.env.scope x) (hd : (x == ("__debug__" : Str)) = false) (hcd : (x == ("__classdict__" : Str)) = false) (he : SE X W e (evE C r)) (hk : SE X W kx (evE C ix))
    (ha : ∀ v, assign (.Subscript (.Name x p) kx p1) X.env v = (do
      let ov ← holding [v] (eval (.Name x p) X.env)
      let iv ← holding [v, ov] (eval kx X.env)
      standAt p1
      holding [v, ov, iv] (setItem ov iv v)
      release [v, ov, iv] []))
    (hs : swapsWithSole [.Subscript (.Name x p) kx p1] e pos.line X.env = pure false) (hw : swappedStores [.Subscript (.Name x p) kx p1] e X.env = pure none) (h1 : (assignEach [.Subscript (.Name x p) kx p1] X.env).map (·.2) = [assign (.Subscript (.Name x p) kx p1) X.env]) :
    SS X W pn (.Assign [.Subscript (.Name x p) kx p1] e pos) (evS C pn (.set i ix r)) := (ps_asg he (pg_sub (pe_var hN hv hd hcd) hk set_list ha) hs hw h1).imp fun Y σ H h => by
  obtain ⟨B, F, env, k, h⟩ := h
  rw [evS] at h
  refine ⟨B, F, env, k, pst_imp (sst_bindE h) fun d e1 F1 H1 _ _ z v hv => ?_⟩
  obtain ⟨_, k1, z⟩ := z
  split at z
  · rename_i w0 hw0
    obtain ⟨u0, e0, r0⟩ := k1.own hw0
    refine ⟨u0, e0, B, F1, e1, k1, pst_imp (sst_bindE z) fun kd e2 F2 H2 s2 _ z u hu => ?_⟩
    obtain ⟨_, k2, z⟩ := z
    split at z
    · rename_i w hw
      obtain ⟨w2, e3, z⟩ := sst_lift z
      obtain ⟨ds, j, m, rfl, rfl, hj, rfl⟩ := setD_some e3
      obtain ⟨u1, e4, r1⟩ := k2.own hw
      rw [rw'] at r1
      obtain ⟨l, vs, rfl, hf, hl, r1⟩ := r1
      rw [e0] at e4
      cases e4
      rw [rd] at hu
      subst hu
      obtain ⟨s, k3⟩ := k2.swap (o := .lst (vs.set m v)) (w := .ol (ds.set m d)) (getW_lt hw) hf e0 fun H' eq st => by
        rw [rw']
        exact ⟨l, _, rfl, rfl, eq, rdL_stay st _ _ (rdL_set r1 (s2.rd hv) m)⟩
      exact ⟨l, vs, j, m, rfl, rfl, hl, by rw [← rdL_len r1]; exact hj, z σ F2 _ s k3 .refl⟩
    · exact z.elim
  · exact z.elim
/-! ### self.f = .. -/
theorem putF_zip {f : Str} {v : V} : ∀ {ks : List Str} {vs : List V}, ks.length = vs.length → L2.putF f v (ks.zip vs) = (putN f ks).zip (putL f v ks vs) ∧ (putN f ks).length = (putL f v ks vs).length
  | [], [], _ => ⟨rfl, rfl⟩
  | [], _ :: _, e => by simp at e
  | _ :: _, [], e => by simp at e
  | k :: ks, u :: vs, e => by
    obtain ⟨h1, h2⟩ := putF_zip (f := f) (v := v) (ks := ks) (vs := vs) (by simpa using e)
    rw [List.zip_cons_cons, L2.putF, putN, putL]
    by_cases h : k = f
    · subst h
      rw [if_pos rfl, if_pos rfl, if_pos rfl]
      exact ⟨rfl, by simpa using e⟩
    · rw [if_neg h, if_neg h, if_neg h, List.zip_cons_cons, h1]
      exact ⟨rfl, by simpa using h2⟩
theorem putL_rd {K : PySem.W.Frag} {M : Addr → Prop} {H : Hp} {f : Str} {d : D} {v : V} (hd : rd K M H d v) : ∀ {ks : List Str} {ds : List D} {vs : List V}, rdL K M H ds vs → rdL K M H (putL f d ks ds) (putL f v ks vs)
  | [], _, _, _ => rdL_one hd
  | _ :: _, [], _, r => by rw [rdL] at r; subst r; rw [putL, putL, rdL]
  | k :: ks, d' :: ds, _, r => by
    rw [rdL] at r
    obtain ⟨u, vs, rfl, r1, r2⟩ := r
    rw [putL, putL]
    by_cases h : k = f
    · rw [if_pos h, if_pos h, rdL]; exact ⟨_, _, rfl, hd, r2⟩
    · rw [if_neg h, if_neg h, rdL]; exact ⟨_, _, rfl, r1, putL_rd hd r2⟩
theorem fzL_rd {K : PySem.W.Frag} {M : Addr → Prop} {H : Hp} : ∀ {ws : List Wv} {ds : List D} {vs : List V} {fp : List Addr}, fzL ws = some ds → rwL K M H ws vs fp → fp = [] ∧ rdL K M H ds vs
  | [], _, _, _, e, r => by cases e; rw [rwL] at r; rw [rdL]; exact ⟨r.2, r.1⟩
  | .fz d :: ws, _, _, _, e, r => by
    rw [rwL] at r
    obtain ⟨u, vs, f1, f2, rfl, rfl, r1, r2⟩ := r
    unfold fzL at e
    cases q : fzL ws with
    | none => rw [q] at e; cases e
    | some ds =>
      rw [q] at e
      cases e
      obtain ⟨rfl, r3⟩ := fzL_rd q r2
      rw [rw'] at r1
      obtain ⟨rfl, r1⟩ := r1
      rw [rdL]
      exact ⟨rfl, u, vs, rfl, r1, r3⟩
  | .ol _ :: _, _, _, _, e, _ => by cases e
  | .od _ _ :: _, _, _, _, e, _ => by cases e
  | .oi _ _ _ :: _, _, _, _, e, _ => by cases e
  | .ow _ :: _, _, _, _, e, _ => by cases e
theorem rwL_fz {K : PySem.W.Frag} {M : Addr → Prop} {H : Hp} : ∀ {ds : List D} {vs : List V}, rdL K M H ds vs → rwL K M H (ds.map .fz) vs []
  | [], _, r => by rw [rdL] at r; rw [List.map_nil, rwL]; exact ⟨r, rfl⟩
  | d :: ds, _, r => by
    rw [rdL] at r
    obtain ⟨u, vs, rfl, r1, r2⟩ := r
    rw [List.map_cons, rwL]
    exact ⟨u, vs, [], [], rfl, rfl, by rw [rw']; exact ⟨rfl, r1⟩, rwL_fz r2⟩
theorem setF_some {f : Str} {d : D} {w w2 : Wv} (e : setF f d w = some w2) : ∃ c ks ws ds, w = .oi c ks ws ∧ ks.length < 1000 ∧ ks.length = ws.length ∧ fzL ws = some ds ∧ w2 = .oi c (putN f ks) ((putL f d ks ds).map .fz) := by
  unfold setF at e
  split at e
  · rename_i c ks ws
    split at e
    · rename_i hz
      cases q : fzL ws with
      | none => rw [q] at e; cases e
      | some ds => rw [q] at e; cases e; exact ⟨c, ks, ws, ds, rfl, hz.1, hz.2, q, rfl⟩
    · cases e
  · cases e
theorem ss_setf {i : Nat} {x f : Str} {r : E} (hF : FldOk X.K C) (hN : X.N[i]? = some x) (hv : Vis X.env.scope x) (hd : (x == ("__debug__" : Str)) = false) (hcd : (x == ("__classdict__" : Str)) = false) (he : SE X W e (evE C r))
    (hs : swapsWith e (some (.Attribute (.Name x p) f p1)) pos.line X.env = pure false) : SS X W pn (.Assign [.Attribute (.Name x p) f p1] e pos) (evS C pn (.setf i f r)) := (ps_fld (pe_var hN hv hd hcd) he hs).imp fun Y σ H h => by
  obtain ⟨B, F, env, k, h⟩ := h
  rw [evS] at h
  refine ⟨B, F, env, k, pst_imp (sst_bindE h) fun d e1 F1 H1 _ _ z v hv => ?_⟩
  obtain ⟨_, k1, z⟩ := z
  split at z
  · rename_i w hw
    split at z
    · rename_i hfo
      obtain ⟨w2, e2, z⟩ := sst_lift z
      obtain ⟨c, ks, ws, ds, rfl, h1, h2, h3, rfl⟩ := setF_some e2
      obtain ⟨u, e3, r⟩ := k1.own hw
      rw [rw'] at r
      obtain ⟨l, dx, vs, fq, rfl, hf, hl, l1, r⟩ := r
      obtain ⟨rfl, rr⟩ := fzL_rd h3 r
      have hfk := hF c f hfo
      obtain ⟨z1, z2⟩ := putF_zip (f := f) (v := v) l1
      obtain ⟨s, k3⟩ := k1.swap (o := .ins (ga X.K c) dx (L2.putF f v (ks.zip vs))) (w := .oi c (putN f ks) ((putL f d ks ds).map .fz)) (getW_lt hw) hf e3 fun H' eq st => by
        rw [rw']
        rw [z1] at eq
        exact ⟨l, dx, _, [], rfl, rfl, eq, z2, rwL_fz (rdL_stay st _ _ (putL_rd hv rr))⟩
      refine ⟨.ref l, e3, l, _, dx, _, rfl, hl, hfk.1, hfk.2, ?_, z σ F1 _ s k3 .refl⟩
      rw [List.length_zip, ← l1, Nat.min_self]
      exact h1
    · exact z.elim
  · exact z.elim
end
section
variable {X : Cx} {W : WX} {C : Ct} {pn : Nat → Bool}
/-- o.f = .., as one of several targets -/
def gAtt (K : PySem.W.Frag) (to : TE) (f : Str) : TG := fun v σ H Q => to σ H fun x H1 => ∃ a D dx fs, x = .ref a ∧ H1 a = some (.ins D dx fs) ∧ Cls K D ∧ NoAttr K D f ∧ fs.length < 1000 ∧ Q σ (upd H1 a (.ins D dx (L2.putF f v fs)))
theorem pg_attr {o : Expr} {f : Str} {to : TE} {pos : Pos} (ho : PE X o to)
    (ha : ∀ v, assign (.Attribute o f pos) X.env v = (do
      let ov ← holding [v] (eval o X.env)
      standAt pos.atName
      holding [v, ov] (setAttr ov f v)
      release [v, ov] []) := by intro _; rfl) : PG X (.Attribute o f pos) (gAtt X.K to f) := by
  refine ⟨fun pins s σ H v u Q I r h => ?_⟩
  rw [ha]
  refine wpAny_bind (wpAny_holding (thn (ho.run pins s σ H _ I h) fun ov s1 ⟨x, H1, I1, r1, a, D, dx, fs, ex, ea, c, n, l, q⟩ => ?_))
  subst ex
  cases (show ov = Value.ref a from r1)
  exact wpAny_bind (wpAny_standAt (wpAny_bind (wpAny_holding (setattr_ok I1 ea c n l r fun s2 I2 => wpAny_release ⟨σ, _, I2, q⟩))))
theorem ss_asgf {i j : Nat} {f : Str} {r : E} {e tg : Expr} {pos : Pos} (hF : FldOk X.K C) (he : SE X W e (evE C r)) (hg : PG X tg (gTup X.K 2 (gCons (gName i) (gCons (gAtt X.K (tVar j) f) gNil)))) (hs : swapsWithSole [tg] e pos.line X.env = pure false) (hw : swappedStores [tg] e X.env = pure none) (h1 : (assignEach [tg] X.env).map (·.2) = [assign tg X.env]) :
    SS X W pn (.Assign [tg] e pos) (evS C pn (.asgf i j f r)) := (ps_asg he hg hs hw h1).imp fun Y σ H h => by
  obtain ⟨B, F, env, k, h⟩ := h
  rw [evS] at h
  refine ⟨B, F, env, k, pst_imp (sst_bindE h) fun d e1 F1 H1 _ _ z v hv => ?_⟩
  obtain ⟨_, k1, z⟩ := z
  split at z
  · rename_i d1 d2
    obtain ⟨e2, hb, z⟩ := sst_lift z
    obtain ⟨hp, hi, rfl⟩ := bind1_some hb
    rw [rd] at hv
    obtain ⟨a, vs, rfl, ht, hr⟩ := hv
    rw [rdL] at hr
    obtain ⟨v1, _, rfl, hr1, hr⟩ := hr
    rw [rdL] at hr
    obtain ⟨v2, _, rfl, hr2, hr⟩ := hr
    rw [rdL] at hr
    subst hr
    refine ⟨a, [v1, v2], rfl, sqT_of ht, rfl, v1, [v2], rfl, v2, [], rfl, ?_⟩
    have k2 := k1.set hi hr1
    split at z
    · rename_i w hw
      split at z
      · rename_i hfo
        obtain ⟨w2, e2, z⟩ := sst_lift z
        obtain ⟨c, ks, ws, ds, rfl, g1, g2, g3, rfl⟩ := setF_some e2
        obtain ⟨u, e3, r⟩ := k2.own hw
        rw [rw'] at r
        obtain ⟨l, dx, us, fq, rfl, hf, hl, l1, r⟩ := r
        obtain ⟨rfl, rr⟩ := fzL_rd g3 r
        have hfk := hF c f hfo
        obtain ⟨z1, z2⟩ := putF_zip (f := f) (v := v2) l1
        obtain ⟨s, k3⟩ := k2.swap (o := .ins (ga X.K c) dx (L2.putF f v2 (ks.zip us))) (w := .oi c (putN f ks) ((putL f d2 ks ds).map .fz)) (getW_lt hw) hf e3 fun H' eq st => by
          rw [rw']
          rw [z1] at eq
          exact ⟨l, dx, _, [], rfl, rfl, eq, z2, rwL_fz (rdL_stay st _ _ (putL_rd (rd_less (fun a h => av_put h) hr2) rr))⟩
        refine ⟨.ref l, e3, l, _, dx, _, rfl, hl, hfk.1, hfk.2, ?_, rfl, z _ _ _ (stp_put.trans s) k3 fun j hj => List.getElem?_set_ne (fun z => by rw [z, hj] at hp; cases hp)⟩
        rw [List.length_zip, ← l1, Nat.min_self]
        exact g1
      · exact z.elim
    · exact z.elim
  · exact z.elim
end
/-! ### raise -/
def spErrF (K : PySem.W.Frag) (f : Str) : Sp := fun vs H Q _ => ∃ (a C : Addr) (v : V), vs = [.ref a, v] ∧ OexC K C ∧ NoAttr K C f ∧ H a = some (exo a C none) ∧ ∀ dx, H dx = none → dx ≠ a → Q .non (upd (upd H dx (exd dx [(f, v)])) a (exo a C (some dx)))
theorem raiseF {K : PySem.W.Frag} {C : Addr} {H : Hp} {Q : XK} {v : V} {f : Str} (x : OexC K C) (na : NoAttr K C f) (q : ∀ d, H d = none → Q (.ref C) (some d) (upd H d (.xd [(f, v)]))) :
    [v].length ≤ 1000 ∧ ∀ a, H a = none → spErrF K f (.ref a :: ([v] ++ [])) (upd H a (exo a C none)) (fun u H2 => u = .non ∧ ∃ (d : Addr) (fs : List (Str × V)), H2 a = some (exo a C (some d)) ∧ H2 d = some (exd d fs) ∧ H d = none ∧ Q (.ref C) (some d) (upd (del H2 a) d (.xd fs))) (fun _ _ _ => False) := by
  refine ⟨by show 1 ≤ 1000; decide, fun a ha => ⟨a, C, v, rfl, x, na, upd_same, fun dx h1 h2 => ?_⟩⟩
  rw [upd_ne h2] at h1
  refine ⟨rfl, dx, _, upd_same, by rw [upd_ne h2, upd_same], h1, ?_⟩
  have e : upd (del (upd (upd (upd H a (exo a C none)) dx (exd dx [(f, v)])) a (exo a C (some dx))) a) dx (.xd [(f, v)]) = upd H dx (.xd [(f, v)]) := by
    funext b
    by_cases hb : b = dx
    · rw [hb, upd_same, upd_same]
    · rw [upd_ne hb, upd_ne hb]
      by_cases hb2 : b = a
      · rw [hb2, del_same, ha]
      · rw [del_ne hb2, upd_ne hb2, upd_ne hb, upd_ne hb2]
  rw [e]
  exact q dx h1
section
variable {X : Cx} {W : WX} {C : Ct} {pn : Nat → Bool} {a b c e : Expr} {es : List Expr} {pos p p1 p2 : Pos} {CX : CXT} {x m : Str} {fI : Addr} {k : Nat} {fd : FuncData} {ps : List Str}
theorem ss_raise0 (hc : X.calm = true) (tk : Takes X W) (T : OexC X.K (ga X.K x)) (hi : PySem.W.findIn X.K (.ref (ga X.K x)) "__init__" = some (some (.ref fI)) ∧ PySem.W.typeIn X.K (.ref fI) = some (.type "function"))
    (G : FnOk X.prog X.w X.K X.mg X.base CX k fI fd ps (spErr0 X.K)) (hr : Room (k + 1) X.A) (hb : Binds X.K fd ps []) (hx : Passes CX X (fun _ _ _ => False)) (hm : X.mg x = some (.ref (ga X.K x))) (hg : Gl X x)
    (hdb : (x == ("__debug__" : Str)) = false) : SS X W pn (.Raise (some (.Call (.Name x p) [] [] p1)) none pos) (evS C pn (.raise x [] .nil)) := (ps_raise hc tk (pmk_oex0 T hi G hr hb hx hm hg hdb)).imp fun Y σ H h => by
  obtain ⟨B, F, env, kk, h⟩ := h
  rw [evS, evL] at h
  replace h : sst X.K W pn B σ F H Y (.exc ⟨x, [], []⟩ env) := h
  exact raise0 T (h σ F H _ _ .refl kk .refl ⟨rfl, .inl ⟨rfl, rfl⟩⟩)
theorem ss_raise1 {f : Str} {r : E} (hc : X.calm = true) (tk : Takes X W) (T : OexC X.K (ga X.K x)) (na : NoAttr X.K (ga X.K x) f) (hi : PySem.W.findIn X.K (.ref (ga X.K x)) "__init__" = some (some (.ref fI)) ∧ PySem.W.typeIn X.K (.ref fI) = some (.type "function"))
    (G : FnOk X.prog X.w X.K X.mg X.base CX k fI fd ps (spErrF X.K f)) (hr : Room (k + 1) X.A) (hb : Binds X.K fd ps []) (hx : Passes CX X (fun _ _ _ => False)) (hm : X.mg x = some (.ref (ga X.K x))) (hg : Gl X x)
    (hdb : (x == ("__debug__" : Str)) = false) (he : starEach [a] X.env = (false, eval a X.env) :: starEach [] X.env) (hpl : (backTo p1 (starEach [] X.env)).any (·.1) = false) (ha : SLs X W [a] (evL C (.cons r .nil))) :
    SS X W pn (.Raise (some (.Call (.Name x p) [a] [] p1)) none pos) (evS C pn (.raise x [f] (.cons r .nil))) := (ps_raise hc tk (pmk_oex (es := []) (ds := []) (dvs := []) T hi.1 hi.2 G hr hb .nil hx hg hm ha hdb he hpl)).imp fun Y σ H h => by
  obtain ⟨B, F, env, kk, h⟩ := h
  rw [evS] at h
  have hlen := fun e1 ds (z : evL C (.cons r .nil) env = .ok ds e1) => evL_len _ z
  cases zz : evL C (.cons r .nil) env with
  | exc y e1 => rw [zz] at h; exact ⟨B, F, env, kk, by rw [zz]; exact fun F' H' cls dx s k' xr => h σ F' H' cls dx s k' .refl xr⟩
  | stuck => rw [zz] at h; exact h.elim
  | ok ds e1 =>
    rw [zz] at h
    have l := hlen e1 ds zz
    dsimp only [R.bind] at h
    match ds, l with
    | [d], _ =>
      · replace h : sst X.K W pn B σ F H Y (.exc ⟨x, [f], [d]⟩ e1) := h
        refine ⟨B, F, env, kk, ?_⟩
        rw [zz]
        intro F1 H1 s1 k1 vs hvs
        obtain ⟨v, rfl, hv⟩ := rdL1 hvs
        refine raiseF (Q := fun cls d H' => W cls d σ H') T na fun dd hd => ?_
        have g := grow_upd (o := .xd [(f, v)]) hd
        exact h σ F1 _ _ _ (s1.trans (Stp.upd hd)) (k1.grow g) .refl ⟨rfl, .inr ⟨dd, [v], rfl, upd_same, rfl, rdL_grow g hvs⟩⟩
/-! ### try -/
def hdL (K : PySem.W.Frag) (C : Ct) (pn : Nat → Bool) : HL → List (Value × (Addr → Value → Option Addr → TS))
  | .nil => []
  | .cons c _ b hs => (.ref (ga K c), fun _ _ _ => tS K WN pn (evSL C pn b)) :: hdL K C pn hs
  | .ret c _ _ _ hs => (.ref (ga K c), fun _ _ _ _ _ _ => True) :: hdL K C pn hs
def IsaOk (K : PySem.W.Frag) (C : Ct) : Prop := ∀ c d b, C.isa c d = some b → PySem.W.exmOne K (.ref (ga K c)) (.ref (ga K d)) = some b
theorem hd_of {K : PySem.W.Frag} {B : Addr → Prop} {F F' : Fp} {H H' : Hp} {σ σ' : L2.St} {env : En} {Y : Ends} {xx : Xc} {cls : Value} {dx : Option Addr} (hI : IsaOk K C) (s : Stp F H F' H') (g : Sg pn σ σ') (k : Ok K B F' H' σ' env) (xr : XR K (av B F') H' xx cls dx) : ∀ hs : HL,
    sst K W pn B σ F H Y (evH C pn hs xx env) → wMany K W Y (hdL K C pn hs) cls dx σ' H'
  | .nil, h => by rw [evH] at h; exact h σ' F' H' cls dx s k g xr
  | .cons c n b hs, h => by
    unfold evH at h
    obtain ⟨rfl, _⟩ := id xr
    cases q : C.isa xx.c c with
    | none => rw [q] at h; exact h.elim
    | some r =>
      rw [q] at h
      refine ⟨r, hI _ _ _ q, fun er a ha => ?_, fun er => ?_⟩
      · subst er
        cases n with
        | some i => exact h.elim
        | none =>
          refine ⟨B, F', env, k, ?_⟩
          replace h : sst K W pn B σ F H Y (noexc (evSL C pn b env)) := h
          have h := sst_from s g h
          cases zb : evSL C pn b env with
          | ok fl e1 =>
            rw [zb] at h
            cases fl with
            | nx => exact h
            | bk => exact h
            | ct => exact h
            | rt w => exact h
          | exc y e1 => rw [zb] at h; exact h.elim
          | stuck => rw [zb] at h; exact h.elim
      · subst er
        exact hd_of hI s g k xr hs h
  | .ret c i f kk hs, h => by
    unfold evH at h
    obtain ⟨rfl, _⟩ := id xr
    cases q : C.isa xx.c c with
    | none => rw [q] at h; exact h.elim
    | some r =>
      rw [q] at h
      refine ⟨r, hI _ _ _ q, fun er a ha => trivial, fun er => ?_⟩
      subst er
      exact hd_of hI s g k xr hs h
theorem ss_try {h₀ : ExceptHandler} {hds : List ExceptHandler} {bs : List Stmt} {bd : SL} {hs : HL} (hI : IsaOk X.K C) (hst : X.stack = X.env :: X.outer) (hf : X.env.frame = some X.env.locals) (tk : Takes X W)
    (hb : ∀ (W : WX) (pns : List (Addr × Obj)) (xe : Value → Shared → Prop), Takes (X.tr pns xe) W → PassesOwn (model X.prog X.w) X.A X.env xe → SSs (X.tr pns xe) W pn bs (evSL C pn bd))
    (hh : HdsOk X (h₀ :: hds) (hdL X.K C pn hs)) : SS X W pn (.Try bs (h₀ :: hds) [] [] pos) (evS C pn (.try_ bd hs)) := (ps_try_many (tb := fun W => tS X.K W pn (evSL C pn bd)) hst hf tk hb hh).imp fun Y σ H h => by
  obtain ⟨B, F, env, k, h⟩ := h
  rw [evS] at h
  refine ⟨B, F, env, k, ?_⟩
  cases z : evSL C pn bd env with
  | ok fl e1 =>
    rw [z] at h
    cases fl with
    | nx => exact h
    | bk => exact h
    | ct => exact h
    | rt w => exact h
  | stuck => rw [z] at h; exact h.elim
  | exc xx e1 =>
    rw [z] at h
    exact fun σ' F' H' cls dx s k' g xr => hd_of hI s g k' xr hs h
theorem hd_nil : HdsOk X [] (hdL X.K C pn .nil) := .nil
theorem hd_cons {x c : Str} {b₀ : Stmt} {suite : List Stmt} {np pos' : Pos} {hds : List ExceptHandler} {bd : SL} {hs : HL} (hc : Names X x (.ref (ga X.K c))) (hsu : ∀ (a : Addr) (pns : List (Addr × Obj)), SSs (X.suite a pns) WN pn (b₀ :: suite) (evSL C pn bd)) (r : HdsOk X hds (hdL X.K C pn hs)) :
    HdsOk X (.ExceptHandler (some (.Name x np)) none (b₀ :: suite) pos' :: hds) (hdL X.K C pn (.cons c none bd hs)) := .cons hc (fun a oe cls d pns _ _ => hsu a _) r
end
end Ev

set_option Elab.async false
set_option linter.all false
set_option maxRecDepth 100000
set_option maxHeartbeats 4000000
namespace Ev
open PySem PySem.Spec PyProof.Rows L2 He Gw
/-! ### a def run on data -/
def isFz : Wv → Bool
  | .fz _ => true
  | _ => false
def pnOf (ws : List Wv) (i : Nat) : Bool := match ws[i]? with
  | some w => !isFz w
  | none => false
def outsA (env : En) : Nat → List Wv → Option (List Wv)
  | _, [] => some []
  | i, w :: ws => match (if isFz w = true then some w else getW env i), outsA env (i + 1) ws with
    | some u, some us => some (u :: us)
    | _, _ => none
def runF (C : Ct) (N : Nat) (b : SL) (ws : List Wv) : CRes := match evSL C (pnOf ws) b (ws.map some ++ List.replicate (N - ws.length) none) with
  | .ok .nx e => match outsA e 0 ws with
    | some os => .ok (.fz .non) os
    | none => .stuck
  | .ok (.rt w) e => match outsA e 0 ws with
    | some os => .ok w os
    | none => .stuck
  | .exc x e => match outsA e 0 ws with
    | some os => .exc x os
    | none => .stuck
  | _ => .stuck
theorem outsA_get {env : En} : ∀ {ws us : List Wv} {n : Nat}, outsA env n ws = some us → us.length = ws.length ∧ ∀ i u, us[i]? = some u → ∃ w, ws[i]? = some w ∧ ((isFz w = true ∧ u = w) ∨ (isFz w = false ∧ getW env (n + i) = some u))
  | [], _, _, h => by cases h; exact ⟨rfl, fun i u e => by simp at e⟩
  | w :: ws, _, n, h => by
    unfold outsA at h
    split at h
    · rename_i u us h1 h2
      cases h
      obtain ⟨l, q⟩ := outsA_get h2
      refine ⟨by rw [List.length_cons, List.length_cons, l], fun i v e => ?_⟩
      cases i with
      | zero =>
        cases e
        refine ⟨w, rfl, ?_⟩
        split at h1
        · rename_i hf; cases h1; exact .inl ⟨hf, rfl⟩
        · rename_i hf; exact .inr ⟨by simpa using hf, h1⟩
      | succ i =>
        obtain ⟨w', e1, r⟩ := q i v (by simpa using e)
        refine ⟨w', by simpa using e1, r.imp id fun ⟨a, b⟩ => ⟨a, by rw [show n + (i + 1) = n + 1 + i by omega]; exact b⟩⟩
    · cases h
section
variable {K : PySem.W.Frag} {B : Addr → Prop} {F F' : Fp} {H H' : Hp} {σ σ' : L2.St} {env env' : En} {vs : List V} {ws outs : List Wv} {w : Wv} {v : V} {Fr : List Addr} {N : List Str}
theorem start_ok (k : Ok K B F H (vs.map some) (ws.map some)) (hN : vs.length ≤ N.length) : Ok K B F H (L2.start N vs) (ws.map some ++ List.replicate (N.length - ws.length) none) := by
  have l : ws.length = vs.length := by simpa using k.len
  refine ⟨by unfold L2.start; simp [l], fun i u e => ?_, k.nd, k.dj, k.there, k.sep⟩
  by_cases hi : i < ws.length
  · rw [List.getElem?_append_left (by simpa using hi)] at e
    obtain ⟨v, e1, r⟩ := k.at_ i u e
    exact ⟨v, by unfold L2.start; rw [List.getElem?_append_left (by rw [List.length_map, ← l]; exact hi)]; exact e1, r⟩
  · rw [List.getElem?_append_right (by rw [List.length_map]; omega)] at e
    exfalso
    rw [List.getElem?_replicate] at e
    split at e <;> cases e
/-- the footprints behind a def -/
def Fo (ws : List Wv) (F' : Fp) (n : Nat) (Fr : List Addr) : Fp := fun i => if i < n then (if pnOf ws i = true then F' i else []) else if i = n then Fr else []
theorem Fo_lt {n i : Nat} (h : i < n) : Fo ws F' n Fr i = if pnOf ws i = true then F' i else [] := if_pos h
theorem Fo_eq {n : Nat} : Fo ws F' n Fr n = Fr := by unfold Fo; rw [if_neg (Nat.lt_irrefl n), if_pos rfl]
theorem Fo_mem {n i : Nat} {a : Addr} (h : a ∈ Fo ws F' n Fr i) : (i < n ∧ a ∈ F' i) ∨ (i = n ∧ a ∈ Fr) := by
  unfold Fo at h
  split at h
  · rename_i hi
    split at h
    · exact .inl ⟨hi, h⟩
    · cases h
  · split at h
    · rename_i e; exact .inr ⟨e, h⟩
    · cases h
theorem end_ok (k : Ok K B F H (vs.map some) (ws.map some)) (hl : ws.length = vs.length) (hN : vs.length ≤ N.length) (g : Got K B σ' F H F' H' env' w v Fr) (sg : Sg (pnOf ws) (L2.start N vs) σ') (ho : outsA env' 0 ws = some outs) :
    Stp F H (Fo ws F' vs.length Fr) H' ∧ Ok K B (Fo ws F' vs.length Fr) H' (vs.map some ++ [some v]) (outs.map some ++ [some w]) := by
  obtain ⟨lo, og⟩ := outsA_get ho
  have less : ∀ a, av B (Fo ws F' vs.length Fr) a → av (fun a => B a ∨ a ∈ Fr) F' a := fun a h => by
    rcases h with h | ⟨i, h⟩
    · exact .inl (.inl h)
    · rcases Fo_mem h with ⟨_, h⟩ | ⟨_, h⟩
      · exact .inr ⟨i, h⟩
      · exact .inl (.inr h)
  have stp : Stp F H (Fo ws F' vs.length Fr) H' := ⟨g.stp.keep, fun a ⟨i, h⟩ => by
    rcases Fo_mem h with ⟨_, h⟩ | ⟨_, h⟩
    · exact g.stp.new a ⟨i, h⟩
    · exact g.from_ a h⟩
  refine ⟨stp, ⟨by simp [lo, hl], fun i u e => ?_, fun i => ?_, fun i j a h h' => ?_, fun a h => g.ok.there a (less a h), fun a h ⟨i, z⟩ => ?_⟩⟩
  · by_cases hi : i < vs.length
    · rw [List.getElem?_append_left (by rw [List.length_map, lo, hl]; exact hi), List.getElem?_map] at e
      cases q : outs[i]? with
      | none => rw [q] at e; cases e
      | some u' =>
        rw [q] at e
        cases e
        obtain ⟨w', e1, r⟩ := og i u q
        have ei : (vs.map some)[i]? = some (some vs[i]) := by rw [List.getElem?_map, List.getElem?_eq_getElem hi]; rfl
        obtain ⟨v0, e0, r0⟩ := k.at_ i w' (by rw [List.getElem?_map, e1]; rfl)
        rcases r with ⟨hf, rfl⟩ | ⟨hf, hg⟩
        · refine ⟨v0, by rw [List.getElem?_append_left (by rw [List.length_map]; exact hi)]; exact e0, ?_⟩
          rw [Fo_lt hi, show pnOf ws i = false from by unfold pnOf; rw [e1]; simp [hf], if_neg Bool.false_ne_true]
          cases u with
          | fz d =>
            rw [rw'] at r0 ⊢
            refine ⟨rfl, ?_⟩
            have := stp.rd (B := B) (K := K) r0.2
            exact this
          | _ => cases hf
        · have hp : pnOf ws i = true := by unfold pnOf; rw [e1]; simp [hf]
          have hg := getW_some hg
          rw [Nat.zero_add] at hg
          obtain ⟨v1, e2, r1⟩ := g.ok.at_ i u hg
          rw [sg i hp] at e2
          unfold L2.start at e2
          rw [List.getElem?_append_left (by rw [List.length_map]; exact hi), e0] at e2
          cases e2
          refine ⟨v0, by rw [List.getElem?_append_left (by rw [List.length_map]; exact hi)]; exact e0, ?_⟩
          rw [Fo_lt hi, hp, if_pos rfl]
          exact rw_less less r1
    · rw [List.getElem?_append_right (by rw [List.length_map, lo, hl]; omega), List.length_map, lo, hl] at e
      by_cases hi2 : i = vs.length
      · subst hi2
        rw [Nat.sub_self] at e
        cases e
        refine ⟨v, by rw [List.getElem?_append_right (by rw [List.length_map]; exact Nat.le_refl _), List.length_map, Nat.sub_self]; rfl, ?_⟩
        rw [Fo_eq]
        exact rw_less less g.rw
      · rw [List.getElem?_eq_none (by simp; omega)] at e
        cases e
  · unfold Fo
    split
    · split
      · exact g.ok.nd i
      · exact List.nodup_nil
    · split
      · exact g.nd
      · exact List.nodup_nil
  · rcases Fo_mem h with ⟨a1, b1⟩ | ⟨a1, b1⟩
    · rcases Fo_mem h' with ⟨a2, b2⟩ | ⟨a2, b2⟩
      · exact g.ok.dj i j a b1 b2
      · exact absurd ⟨i, b1⟩ (g.ok.sep a (.inr b2))
    · rcases Fo_mem h' with ⟨a2, b2⟩ | ⟨a2, b2⟩
      · exact absurd ⟨j, b2⟩ (g.ok.sep a (.inr b1))
      · rw [a1, a2]
  · rcases Fo_mem z with ⟨_, z⟩ | ⟨_, z⟩
    · exact g.ok.sep a (.inl h) ⟨i, z⟩
    · rcases g.from_ a z with q | q
      · exact k.sep a h q
      · exact k.there a (.inl h) q
theorem Ok.init (k : Ok K B F H (vs.map some ++ [some v]) (outs.map some ++ [some w])) (hl : outs.length = vs.length) : Ok K B (fun i => if i < vs.length then F i else []) H (vs.map some) (outs.map some) := by
  have less : ∀ a, av B (fun i => if i < vs.length then F i else []) a → av B F a := fun a h => h.imp id fun ⟨i, h⟩ => ⟨i, by
    try dsimp only at h
    split at h
    · exact h
    · cases h⟩
  refine ⟨by simp [hl], fun i u e => ?_, fun i => ?_, fun i j a h h' => ?_, fun a h => k.there a (less a h), fun a h z => ?_⟩
  · have hi : i < vs.length := by
      have := (List.getElem?_eq_some_iff.mp e).1
      rw [List.length_map, hl] at this
      exact this
    obtain ⟨v', e1, r⟩ := k.at_ i u (by rw [List.getElem?_append_left (by rw [List.length_map, hl]; exact hi)]; exact e)
    rw [List.getElem?_append_left (by rw [List.length_map]; exact hi)] at e1
    refine ⟨v', e1, ?_⟩
    try dsimp only
    rw [if_pos hi]
    exact rw_less less r
  · try dsimp only
    split
    · exact k.nd i
    · exact List.nodup_nil
  · try dsimp only at h h'
    split at h
    · split at h'
      · exact k.dj i j a h h'
      · cases h'
    · cases h
  · exact k.sep a h (by
      obtain ⟨i, z⟩ := z
      try dsimp only at z
      split at z
      · exact ⟨i, z⟩
      · cases z)
/-! ### a def keeps its promise -/
theorem runF_sst {N : List Str} {C : Ct} {b : SL} {n : Nat} {Q : VK} {E : XK} (k : Ok K B F H (vs.map some) (ws.map some)) (hl : ws.length = vs.length) (hn : vs.length = n) (hN : vs.length ≤ N.length) (h : pres K B n vs F H Q E (runF C N.length b ws)) :
    sst K (fun cls d _ H => E cls d H) (pnOf ws) B (L2.start N vs) F H { nx := fun _ H' => Q .non H', rt := Q } (evSL C (pnOf ws) b (ws.map some ++ List.replicate (N.length - ws.length) none)) := by
  subst hn
  unfold runF at h
  cases z : evSL C (pnOf ws) b (ws.map some ++ List.replicate (N.length - ws.length) none) with
  | stuck => rw [z] at h; exact h
  | ok fl e =>
    rw [z] at h
    cases fl with
    | nx =>
      cases q : outsA e 0 ws with
      | none => simp only [q] at h; exact h.elim
      | some os =>
        simp only [q] at h
        intro σ' F' H' s k' g
        have G : Got K B σ' F H F' H' e (.fz .non) .non [] := (Got.fz k' rd_non).from s
        obtain ⟨s2, k2⟩ := end_ok k hl hN G g q
        exact h.2 _ _ _ s2 k2
    | rt w =>
      cases q : outsA e 0 ws with
      | none => simp only [q] at h; exact h.elim
      | some os =>
        simp only [q] at h
        intro σ' F' H' v Fr G g
        obtain ⟨s2, k2⟩ := end_ok k hl hN G g q
        exact h.2 _ _ _ s2 k2
    | bk => exact h.elim
    | ct => exact h.elim
  | exc x e =>
    rw [z] at h
    cases q : outsA e 0 ws with
    | none => simp only [q] at h; exact h.elim
    | some os =>
      simp only [q] at h
      intro σ' F' H' cls dx s k' g xr
      have G : Got K B σ' F H F' H' e (.fz .non) .non [] := (Got.fz k' rd_non).from s
      obtain ⟨s2, k2⟩ := end_ok k hl hN G g q
      have lo : os.length = vs.length := by rw [(outsA_get q).1, hl]
      have k3 := k2.init lo
      have s3 : Stp F H (fun i => if i < vs.length then Fo ws F' vs.length [] i else []) H' := ⟨s2.keep, fun a hi => s2.new a (by
        obtain ⟨i, hi⟩ := hi
        refine ⟨i, ?_⟩
        dsimp only at hi
        split at hi
        · exact hi
        · cases hi)⟩
      refine h.2 _ _ cls dx s3 k3 (xr.less fun a ha => ?_)
      rcases ha with ha | ⟨i, ha⟩
      · exact .inl ha
      · right
        dsimp only at ha
        split at ha
        · rcases Fo_mem ha with ⟨_, z⟩ | ⟨_, z⟩
          · exact ⟨i, z⟩
          · cases z
        · cases ha
end
theorem fnE {P : Program} {w : World} {K : PySem.W.Frag} {mg : Str → Option Value} {base : Heap} {x qual : Str} {params : Arguments} {body : List Stmt} {scope : Scope} {dvs : List V} {kws : List (Str × V)} {f : Addr} {fd : FuncData} {N ps : List Str} {k : Nat} {C : Ct} {b : SL}
    (F : FunD K x qual params body scope dvs kws f fd) (S : FnScope N ps scope) (hN : ps.length ≤ N.length)
    (hb : ∀ (cdv : Value) (A : Around) (outer : List Env) (s : Shared) (H : Hp) (E : XK) (pn : Nat → Bool), A.guards = some [] → Room k (A.deeper (envOfC qual scope s.heap.objs.size f cdv)) →
      SSs (cxOf (L2.CX P w) P w K mg base N qual scope f cdv A outer s H E) (fun cls d _ H => E cls d H) pn body (evSL C pn b)) : FnG P w K mg base (L2.CX P w) (k + 1) f fd ps (spE K (runF C N.length b) ps.length) :=
  fnG_of F S (fun _ _ _ _ h => h.1) fun cdv A outer s H vs Q E hg hr ⟨lv, B, Fp, ws, lw, k, hF, h⟩ =>
    ⟨_, hb cdv A outer s H E (pnOf ws) hg hr, B, Fp, _, start_ok k (by rw [lv]; exact hN), runF_sst k (by rw [lw, lv]) lv (by rw [lv]; exact hN) h⟩
/-! ### all defs together -/
structure Fd where
  nps : Nat
  n : Nat
  b : SL
def calT (T : Nat → Option Fd) (C : Ct) : Nat → Nat → List Wv → CRes
  | 0, _, _ => .stuck
  | k + 1, f, ws => match T f with
    | some d => if ws.length = d.nps then runF { C with cal := calT T C k } d.n d.b ws else .stuck
    | none => .stuck
abbrev ctx (T : Nat → Option Fd) (C : Ct) (k : Nat) : Ct := { C with cal := calT T C k }
theorem fn0 {P : Program} {w : World} {K : PySem.W.Frag} {mg : Str → Option Value} {base : Heap} {CX : CXT} {f : Addr} {fd : FuncData} {ps : List Str} {T : Nat → Option Fd} {C : Ct} {i n : Nat} : FnG P w K mg base CX n f fd ps (spE K (calT T C 0 i) ps.length) :=
  ⟨fun _ _ _ _ h => h.1, fun _ _ _ _ _ _ _ _ _ _ _ _ _ _ h => by
    obtain ⟨_, B, F, ws, _, _, _, h⟩ := h
    exact h.elim⟩
theorem fnS {P : Program} {w : World} {K : PySem.W.Frag} {mg : Str → Option Value} {base : Heap} {CX : CXT} {f : Addr} {fd : FuncData} {ps : List Str} {T : Nat → Option Fd} {C : Ct} {i k n N : Nat} {b : SL} (e : T i = some ⟨ps.length, N, b⟩)
    (h : FnG P w K mg base CX n f fd ps (spE K (runF (ctx T C k) N b) ps.length)) : FnG P w K mg base CX n f fd ps (spE K (calT T C (k + 1) i) ps.length) := by
  have q : ∀ vs H Q E, spE K (calT T C (k + 1) i) ps.length vs H Q E → spE K (runF (ctx T C k) N b) ps.length vs H Q E := fun vs H Q E ⟨l, B, F, ws, lw, k1, hF, z⟩ => ⟨l, B, F, ws, lw, k1, hF, by
    rw [calT, e] at z
    dsimp only at z
    rw [if_pos lw] at z
    exact z⟩
  exact ⟨fun vs H Q E z => h.len vs H Q E (q _ _ _ _ z), fun A outer s H args us vs Q E hg hr e0 hb hv z => h.run A outer s H args us vs Q E hg hr e0 hb hv (q _ _ _ _ z)⟩
end Ev
namespace Ev
open PySem PySem.Spec PyProof.Rows L2 He Gw
theorem fnX {P : Program} {w : World} {K : PySem.W.Frag} {mg : Str → Option Value} {base : Heap} {CX : CXT} {f : Addr} {fd : FuncData} {ps : List Str} {T : Nat → Option Fd} {C : Ct} {i k n : Nat} (e : T i = none) : FnG P w K mg base CX n f fd ps (spE K (calT T C (k + 1) i) ps.length) :=
  ⟨fun _ _ _ _ h => h.1, fun _ _ _ _ _ _ _ _ _ _ _ _ _ _ h => by
    obtain ⟨_, B, F, ws, _, _, _, h⟩ := h
    rw [calT, e] at h
    exact h.elim⟩
end Ev

set_option Elab.async false
set_option linter.all false
set_option maxRecDepth 100000
set_option maxHeartbeats 4000000
namespace Ev
open PySem PySem.Spec PyProof.Rows L2 He Gw
section
variable {K : PySem.W.Frag} {B : Addr → Prop} {F F' F1 F3 : Fp} {H H' H1 H2 H3 : Hp} {σ : L2.St} {env : En} {vs us : List V} {ws outs : List Wv} {w : Wv} {v : V}
/-- a slot's own object let go of: data from now on -/
theorem Ok.frz (k : Ok K B F H σ env) {i : Nat} {d : D} (e : getW env i = some w) (hd : frz w = some d) : ∃ v, σ[i]? = some (some v) ∧ rd K (av B (putF F i [])) H d v ∧ Ok K B (putF F i []) H σ (env.set i (some (.fz d))) := by
  obtain ⟨v, e1, r⟩ := k.own e
  have less : ∀ a, av B (putF F i []) a → av B F a := fun a h => av_put h
  have rr : rd K (av B (putF F i [])) H d v := frz_rd less w v (F i) d (fun a ha z => by
    rcases z with z | ⟨j, z⟩
    · exact k.sep a z ⟨i, ha⟩
    · by_cases ej : j = i
      · rw [ej, putF_same] at z; cases z
      · rw [putF_ne ej] at z; exact ej (k.dj j i a z ha)) r hd
  refine ⟨v, e1, rr, ⟨by rw [List.length_set, k.len], fun j u q => ?_, fun j => ?_, fun j j' a h h' => ?_, fun a h => k.there a (less a h), fun a h z => k.sep a h ((inF_put z).elim (fun z => nomatch z) id)⟩⟩
  · by_cases ej : j = i
    · subst ej
      rw [List.getElem?_set_self (getW_lt e)] at q
      cases q
      refine ⟨v, e1, ?_⟩
      rw [rw', putF_same]
      exact ⟨rfl, rr⟩
    · rw [List.getElem?_set_ne (fun z => ej z.symm)] at q
      obtain ⟨v', e2, r2⟩ := k.at_ j u q
      exact ⟨v', e2, by rw [putF_ne ej]; exact rw_less less r2⟩
  · by_cases ej : j = i
    · rw [ej, putF_same]; exact List.nodup_nil
    · rw [putF_ne ej]; exact k.nd j
  · by_cases ej : j = i
    · rw [ej, putF_same] at h; cases h
    · by_cases ej' : j' = i
      · rw [ej', putF_same] at h'; cases h'
      · rw [putF_ne ej] at h
        rw [putF_ne ej'] at h'
        exact k.dj j j' a h h'
/-- the first slot goes behind the others -/
def rotF (n : Nat) (F : Fp) : Fp := fun i => if i < n then F (i + 1) else if i = n then F 0 else []
theorem rot_mem {n i : Nat} {a : Addr} (h : a ∈ rotF n F i) : ∃ j, a ∈ F j ∧ ((i < n ∧ j = i + 1) ∨ (i = n ∧ j = 0)) := by
  unfold rotF at h
  split at h
  · rename_i hi; exact ⟨_, h, .inl ⟨hi, rfl⟩⟩
  · split at h
    · rename_i hi; exact ⟨_, h, .inr ⟨hi, rfl⟩⟩
    · cases h
theorem Ok.rot {x : V} {more : L2.St} {moreE : En} (k : Ok K B F H (some x :: (us.map some ++ more)) (some w :: (outs.map some ++ moreE))) (hl : outs.length = us.length) : Ok K B (rotF us.length F) H (us.map some ++ [some x]) (outs.map some ++ [some w]) := by
  have less : ∀ a, av B (rotF us.length F) a → av B F a := fun a h => h.imp id fun ⟨i, h⟩ => let ⟨j, h, _⟩ := rot_mem h; ⟨j, h⟩
  refine ⟨by simp [hl], fun i u e => ?_, fun i => ?_, fun i j a h h' => ?_, fun a h => k.there a (less a h), fun a h ⟨i, z⟩ => let ⟨j, z, _⟩ := rot_mem z; k.sep a h ⟨j, z⟩⟩
  · by_cases hi : i < us.length
    · rw [List.getElem?_append_left (by rw [List.length_map, hl]; exact hi)] at e
      obtain ⟨v, e1, r⟩ := k.at_ (i + 1) u (by rw [List.getElem?_cons_succ, List.getElem?_append_left (by rw [List.length_map, hl]; exact hi)]; exact e)
      rw [List.getElem?_cons_succ, List.getElem?_append_left (by rw [List.length_map]; exact hi)] at e1
      refine ⟨v, by rw [List.getElem?_append_left (by rw [List.length_map]; exact hi)]; exact e1, ?_⟩
      unfold rotF
      rw [if_pos hi]
      exact rw_less less r
    · rw [List.getElem?_append_right (by rw [List.length_map, hl]; omega), List.length_map, hl] at e
      by_cases hi2 : i = us.length
      · subst hi2
        rw [Nat.sub_self] at e
        cases e
        obtain ⟨v, e1, r⟩ := k.at_ 0 w rfl
        cases e1
        refine ⟨x, by rw [List.getElem?_append_right (by rw [List.length_map]; exact Nat.le_refl _), List.length_map, Nat.sub_self]; rfl, ?_⟩
        unfold rotF
        rw [if_neg (Nat.lt_irrefl _), if_pos rfl]
        exact rw_less less r
      · rw [List.getElem?_eq_none (by simp; omega)] at e
        cases e
  · unfold rotF
    split
    · exact k.nd _
    · split
      · exact k.nd _
      · exact List.nodup_nil
  · obtain ⟨p, h, q⟩ := rot_mem h
    obtain ⟨p', h', q'⟩ := rot_mem h'
    have := k.dj p p' a h h'
    omega
/-- the slots that are passed, a new instance ahead of them -/
def newF (x : Addr) (F : Fp) : Fp
  | 0 => [x]
  | i + 1 => F i
theorem new_mem {x a : Addr} {i : Nat} (h : a ∈ newF x F i) : (i = 0 ∧ a = x) ∨ ∃ j, i = j + 1 ∧ a ∈ F j := by
  cases i with
  | zero => exact .inl ⟨rfl, List.mem_singleton.mp h⟩
  | succ i => exact .inr ⟨i, rfl, h⟩
theorem Ok.inst (k : Ok K B F H (vs.map some) (ws.map some)) {x dx : Addr} {c : Str} (h1 : H x = none) (h2 : H dx = none) (h3 : dx ≠ x) :
    Ok K B (newF x F) (upd (upd H dx (.own x)) x (.ins (ga K c) dx [])) ((V.ref x :: vs).map some) ((Wv.oi c [] [] :: ws).map some) := by
  have g : ∀ a o, H a = some o → upd (upd H dx (.own x)) x (.ins (ga K c) dx []) a = some o := fun a o e => by rw [upd_ne (ne_of_none e h1), upd_ne (ne_of_none e h2)]; exact e
  have kg := k.grow g
  have cov : ∀ a, av B (newF x F) a → av B F a ∨ a = x := fun a h => by
    rcases h with h | ⟨i, h⟩
    · exact .inl (.inl h)
    · rcases new_mem h with ⟨_, e⟩ | ⟨j, _, e⟩
      · exact .inr e
      · exact .inl (.inr ⟨j, e⟩)
  have nx : ¬ av B F x := fun z => k.there x z h1
  refine ⟨by simpa using k.len, fun i u e => ?_, fun i => ?_, fun i j a h h' => ?_, fun a h => ?_, fun a h ⟨i, z⟩ => ?_⟩
  · cases i with
    | zero =>
      cases e
      refine ⟨.ref x, rfl, ?_⟩
      rw [rw']
      exact ⟨x, dx, [], [], rfl, rfl, upd_same, rfl, by rw [rwL]; exact ⟨rfl, rfl⟩⟩
    | succ i =>
      obtain ⟨v, e1, r⟩ := k.at_ i u (by simpa using e)
      refine ⟨v, by simpa using e1, rw_stay ⟨fun a o _ e => g a o e, fun a h => (cov a h).imp id fun z => by rw [z]; exact h1⟩ u v (F i) (fun a ha => ?_) r⟩
      cases q : H a with
      | none => exact absurd q (k.there a (.inr ⟨i, ha⟩))
      | some o => exact g a o q
  · cases i with
    | zero => exact List.nodup_cons.mpr ⟨List.not_mem_nil, List.nodup_nil⟩
    | succ i => exact k.nd i
  · rcases new_mem h with ⟨e1, e2⟩ | ⟨i', e1, e2⟩
    · rcases new_mem h' with ⟨e3, e4⟩ | ⟨j', e3, e4⟩
      · rw [e1, e3]
      · exact absurd (.inr ⟨j', by rw [← e2]; exact e4⟩) nx
    · rcases new_mem h' with ⟨e3, e4⟩ | ⟨j', e3, e4⟩
      · exact absurd (.inr ⟨i', by rw [← e4]; exact e2⟩) nx
      · rw [e1, e3, k.dj i' j' a e2 e4]
  · rcases cov a h with h | h
    · exact kg.there a h
    · rw [h, upd_same]; exact fun z => nomatch z
  · rcases new_mem z with ⟨_, e⟩ | ⟨j, _, e⟩
    · rw [e] at h; exact nx (.inl h)
    · exact k.sep a h ⟨j, e⟩
end
/-! ### an instance made, where no guard stands -/
section
variable {X : Cx} {CX : CXT} {k : Nat} {f A : Addr} {fd : FuncData} {ps : List Str} {sp : Sp} {E : L2.St → XK} {x : Str} {p pos : Pos} {e : Expr} {es : List Expr} {t : TA} {W : WX} {C : Ct}
theorem run_makeG {pins : List (Addr × Obj)} {σ : L2.St} {H : Hp} {s : Shared} {Q : VK} {us : List Value} {vs : List V} (M : Mk X.K A f) (F : FnG X.prog X.w X.K X.mg X.base CX k f fd ps sp) (hgd : X.A.guards = some []) (hr : Room (k + 1) X.A) (hb : Binds X.K fd ps [])
    (hx : PassesAt CX X σ (E σ)) (I : Inv X pins σ H s) (r : Vals vs us)
    (h : ∀ x dx, H x = none → H dx = none → dx ≠ x → sp (.ref x :: vs) (upd (upd H dx (.own x)) x (.ins A dx [])) (fun v H2 => v = .non ∧ Q (.ref x) H2) (E σ)) :
    wpAny (model X.prog X.w) X.A (call (.ref A) us) (EP X pins σ Q) X.xe s := by
  have hq := h (s.heap.objs.size + 1) s.heap.objs.size (I.hok.fresh (Nat.le_succ _)) (I.hok.fresh (Nat.le_refl _)) (Nat.ne_of_lt (Nat.lt_succ_self _))
  have I2 := Inv.made (C := A) I
  have r2 : Vals (V.ref (s.heap.objs.size + 1) :: vs) (Value.ref (s.heap.objs.size + 1) :: us) := .cons rfl r
  have hl : (Value.ref (s.heap.objs.size + 1) :: us ++ []).length = ps.length := by
    have e := r2.length
    rw [F.len _ _ _ _ hq] at e
    rw [List.append_nil]
    exact e.symm
  have hB := hb _ (Value.ref (s.heap.objs.size + 1) :: us) I2.kIn hl
  rw [List.append_nil] at hB
  refine wpAny_call (make_map (f := f) I.kIn M.makes M.init (beq_iff_eq.mp M.fn) (codeAny_mono (F.run _ X.stack _ _ ⟨Value.ref (s.heap.objs.size + 1) :: us, []⟩ (Value.ref (s.heap.objs.size + 1) :: us) _ _ (E σ) hgd (hr.make A us [])
    (I2.env0.make A us []) hB r2 hq) fun r s' hq' => ?_))
  cases r with
  | error e => exact hx pins _ _ e s' I2 hq'
  | ok fl =>
    cases fl with
    | ret u =>
      obtain ⟨v, H', I3, rv, ev, q3⟩ := I2.after hq'
      subst ev
      exact ⟨rv, ⟨V.ref (s.heap.objs.size + 1), H', I3, rfl, q3⟩⟩
    | next => exact False.elim hq'
    | brk => exact False.elim hq'
    | cont => exact False.elim hq'
theorem pe_makeG (M : Mk X.K A f) (F : FnG X.prog X.w X.K X.mg X.base CX k f fd ps sp) (hgd : X.A.guards = some []) (hr : Room (k + 1) X.A) (hg : Gl X x) (hm : X.mg x = some (.ref A)) (hb : Binds X.K fd ps []) (hx : ∀ σ, PassesAt CX X σ (E σ))
    (ha : PA X (e :: es) t) (hdb : (x == ("__debug__" : Str)) = false) (he : starEach (e :: es) X.env = (false, eval e X.env) :: starEach es X.env) (hpl : (backTo pos (starEach es X.env)).any (·.1) = false) :
    PE X (.Call (.Name x p) (e :: es) [] pos) (tMakeS A sp E t) := by
  refine ⟨fun pins s σ H Q I h => ?_⟩
  refine wpAny_Call_Name_kw (ld_glob I hg hm ?_ hdb)
  refine PySem.W.callWith_K (h₀ := X.base) I.ok.mod.kin M.kp (thn (ha.run pos pins s σ H _ I h) fun us s1 ⟨vs, H1, I1, r, q⟩ => ⟨I1.kIn, ?_⟩) he hpl
  exact run_makeG M F hgd hr hb (hx σ) I1 r q
theorem makeW_of {B : Addr → Prop} {F : Fp} {H : Hp} {σ : L2.St} {env : En} {c : Str} {f : Nat} {os : List Ov} {vs : List V} {n : Nat} {Q : VK} (k : Ok X.K B F H σ env) (hv : ovL X.K B F H σ os vs) (hn : os.length = n)
    (h : pstW X.K W B σ F H Q (makeR C c f os env)) {x dx : Addr} (h1 : H x = none) (h2 : H dx = none) (h3 : dx ≠ x) :
    spE X.K (C.cal f) (n + 1) (.ref x :: vs) (upd (upd H dx (.own x)) x (.ins (ga X.K c) dx [])) (fun v H2 => v = .non ∧ Q (.ref x) H2) (WE W σ) := by
  have grow : Grow H (upd (upd H dx (.own x)) x (.ins (ga X.K c) dx [])) := fun a o e => by rw [upd_ne (ne_of_none e h1), upd_ne (ne_of_none e h2)]; exact e
  unfold makeR at h
  split at h
  · rename_i hnd
    split at h
    · rename_i ws hr
      have hl : os.length = ws.length := resA_len hr
      have hvl : os.length = vs.length := ovL_len hv
      have hi : ∀ i ∈ slots os, i < env.length := fun i hi => by
        obtain ⟨j, e⟩ := mem_slots.mp hi
        obtain ⟨v, _, e2⟩ := ovL_get hv e
        rw [k.len]
        exact (List.getElem?_eq_some_iff.mp (show σ[i]? = some (some v) from e2)).1
      have kp := k.pass hnd hv hr
      have toF : ∀ {F3 : Fp} {H3 : Hp}, Stp (newF x (Fc F os)) (upd (upd H dx (.own x)) x (.ins (ga X.K c) dx [])) F3 H3 → Stp (Fc F os) H (rotF vs.length F3) H3 := fun s => by
        have nx : ¬ inF (Fc F os) x := fun z => kp.there x (.inr z) h1
        refine ⟨fun a o n e => s.keep a o (fun ⟨i, z⟩ => ?_) (grow a o e), fun a ⟨i, z⟩ => ?_⟩
        · rcases new_mem z with ⟨_, e2⟩ | ⟨j, _, e2⟩
          · rw [e2, h1] at e; cases e
          · exact n ⟨j, e2⟩
        · obtain ⟨j, z, _⟩ := rot_mem z
          rcases s.new a ⟨j, z⟩ with ⟨j', z'⟩ | z'
          · rcases new_mem z' with ⟨_, e2⟩ | ⟨j2, _, e2⟩
            · exact .inr (by rw [e2]; exact h1)
            · exact .inl ⟨j2, e2⟩
          · cases q : H a with
            | none => exact .inr rfl
            | some o => rw [grow a o q] at z'; cases z'
      refine ⟨by simp [← hvl, hn], Bc B F os, newF x (Fc F os), _, by simp [← hl, hn], kp.inst (c := c) h1 h2 h3, fun i hi => ?_, ?_⟩
      · cases i with
        | zero => omega
        | succ i => exact Fc_far (by omega)
      · split at h
        · rename_i w outs hc
          split at h
          · rename_i ho
            rw [hc]
            refine ⟨by simp [ho, ← hl, hn], fun F3 H3 v s k' => ?_⟩
            have hv2 : v = .non := by
              obtain ⟨v', e1, r⟩ := k'.at_ (vs.length + 1) (.fz .non) (by
                rw [List.map_cons, List.cons_append, List.getElem?_cons_succ, List.getElem?_append_right (by rw [List.length_map, ho, ← hl, hvl]; exact Nat.le_refl _), List.length_map, ho, ← hl, hvl, Nat.sub_self]; rfl)
              rw [List.map_cons, List.cons_append, List.getElem?_cons_succ, List.getElem?_append_right (by rw [List.length_map]; exact Nat.le_refl _), List.length_map, Nat.sub_self] at e1
              cases e1
              rw [rw', rd] at r
              exact r.2
            have k5 := k'.rot (us := vs) (outs := outs) (more := [some v]) (moreE := [some (.fz .non)]) (by rw [ho, ← hl, hvl])
            exact ⟨hv2, h _ _ _ _ (Got.back (n := vs.length) k hnd hv (by rw [ho, ← hl, hvl]) hi hvl (toF s) k5)⟩
          · exact h.elim
        · rename_i xx w outs hc
          split at h
          · rename_i ho
            rw [hc]
            refine ⟨by simp [ho, ← hl, hn], fun F3 H3 cls ex s k' xr => ?_⟩
            have k5 := Ok.rot (us := vs) (outs := outs) (more := []) (moreE := []) (K := X.K) (B := Bc B F os) (F := F3) (H := H3) (w := w) (x := .ref x) (by rw [List.append_nil, List.append_nil]; exact k') (by rw [ho, ← hl, hvl])
            have kb := k.back hnd hv (by rw [ho, ← hl, hvl]) hi (toF s) k5
            exact h _ _ cls ex (toF s).back kb (xr.less fun a ha => by
              rcases av_b ha with z | ⟨i, z⟩
              · exact .inl z
              · obtain ⟨j, z, _⟩ := rot_mem z
                exact .inr ⟨j, z⟩)
          · exact h.elim
        · exact h.elim
    · exact h.elim
  · exact h.elim
theorem frzW {K : PySem.W.Frag} {B : Addr → Prop} {F : Fp} {H : Hp} {σ : L2.St} {env : En} {Q : VK} {r : R Wv} (k : Ok K B F H σ env) (h : pst K W B σ F H (fun d _ F' H' => ∀ v, rd K (av B F') H' d v → Q v H') (r.bind fun w e => lift (frz w) e)) : pstW K W B σ F H Q r := by
  cases r with
  | stuck => exact h
  | exc x e => exact h
  | ok w e =>
    intro F' H' v Fr g
    obtain ⟨d, hd, h⟩ := pst_lift (show pst K W B σ F H _ (lift (frz w) e) from h)
    have less : ∀ a, av B F' a → av (fun a => B a ∨ a ∈ Fr) F' a := fun a h => h.imp .inl id
    refine h F' H' g.stp (g.ok.less fun a => .inl) v (frz_rd less w v Fr d (fun a ha z => ?_) g.rw hd)
    rcases z with z | z
    · rcases g.from_ a ha with q | q
      · exact k.sep a z q
      · exact k.there a (.inl z) q
    · exact g.ok.sep a (.inr ha) z
theorem makeA_of {c : Str} {f : Nat} {as : AL} {n : Nat} {σ : L2.St} {H : Hp} {Q : VK} (hn : as.len = n) (h : ∃ B F env, Ok X.K B F H σ env ∧ pstW X.K W B σ F H Q ((evA C as env).bind fun os env1 => makeR C c f os env1)) :
    tMakeS (ga X.K c) (spE X.K (C.cal f) (n + 1)) (WE W) (tOs X.K W (evA C as)) σ H Q := by
  obtain ⟨B, F, env, k, h⟩ := h
  cases z : evA C as env with
  | ok os e1 =>
    rw [z] at h
    refine ⟨B, F, env, k, ?_⟩
    rw [z]
    intro F1 H1 s1 k1 vs hvs x dx h1 h2 h3
    exact makeW_of k1 hvs (by rw [evA_len as z, hn]) (pstW_from s1 h) h1 h2 h3
  | exc y e1 => rw [z] at h; exact ⟨B, F, env, k, by rw [z]; exact h⟩
  | stuck => rw [z] at h; exact h.elim
theorem frzA {c : Str} {f : Nat} {as : AL} {σ : L2.St} {H : Hp} {Q : VK} (h : tE X.K W (evE C (.make c f as)) σ H Q) : ∃ B F env, Ok X.K B F H σ env ∧ pstW X.K W B σ F H Q ((evA C as env).bind fun os env1 => makeR C c f os env1) := by
  obtain ⟨B, F, env, k, h⟩ := h
  rw [evE] at h
  exact ⟨B, F, env, k, frzW k (by rw [R.bind_assoc]; exact h)⟩
variable {c : Str} {fn : Nat} {as : AL}
theorem swv_make (M : Mk X.K (ga X.K c) f) (F : FnG X.prog X.w X.K X.mg X.base (L2.CX X.prog X.w) k f fd ps (spE X.K (C.cal fn) ps.length)) (hgd : X.A.guards = some []) (hr : Room (k + 1) X.A) (hg : Gl X x) (hm : X.mg x = some (.ref (ga X.K c))) (hb : Binds X.K fd ps [])
    (tk : Takes X W) (hn : as.len + 1 = ps.length) (ha : SOs X W (e :: es) (evA C as)) (hdb : (x == ("__debug__" : Str)) = false) (he : starEach (e :: es) X.env = (false, eval e X.env) :: starEach es X.env) (hpl : (backTo pos (starEach es X.env)).any (·.1) = false) :
    SWv X W (.Call (.Name x p) (e :: es) [] pos) (evW C (.make c fn as)) := by
  rw [← hn] at F
  exact (pe_makeG M F hgd hr hg hm hb (fun σ => passAt tk σ) ha hdb he hpl).imp fun σ H Q h => makeA_of rfl (by
    obtain ⟨B, F, env, k, h⟩ := h
    rw [evW] at h
    exact ⟨B, F, env, k, h⟩)
theorem snd_make (M : Mk X.K (ga X.K c) f) (F : FnG X.prog X.w X.K X.mg X.base (L2.CX X.prog X.w) k f fd ps (spE X.K (C.cal fn) ps.length)) (hgd : X.A.guards = some []) (hr : Room (k + 1) X.A) (hg : Gl X x) (hm : X.mg x = some (.ref (ga X.K c))) (hb : Binds X.K fd ps [])
    (tk : Takes X W) (hn : as.len + 1 = ps.length) (ha : SOs X W (e :: es) (evA C as)) (hdb : (x == ("__debug__" : Str)) = false) (he : starEach (e :: es) X.env = (false, eval e X.env) :: starEach es X.env) (hpl : (backTo pos (starEach es X.env)).any (·.1) = false) :
    SE X W (.Call (.Name x p) (e :: es) [] pos) (evE C (.make c fn as)) := by
  rw [← hn] at F
  exact (pe_makeG M F hgd hr hg hm hb (fun σ => passAt tk σ) ha hdb he hpl).imp fun σ H Q h => makeA_of rfl (frzA h)
/-! ### smaller ones -/
theorem snd_frz {i : Nat} {x : Str} (hN : X.N[i]? = some x) (hv : Vis X.env.scope x) (hd : (x == ("__debug__" : Str)) = false) (hcd : (x == ("__classdict__" : Str)) = false) : SE X W (.Name x pos) (evE C (.frz i)) := (pe_var hN hv hd hcd).imp fun σ H Q h => by
  obtain ⟨B, F, env, k, h⟩ := h
  rw [evE] at h
  split at h
  · rename_i d hw
    obtain ⟨v, e1, r⟩ := k.own hw
    rw [rw'] at r
    exact ⟨v, e1, h F H .refl k v r.2⟩
  · rename_i w _ hw
    split at h
    · rename_i d hd
      obtain ⟨v, e1, r, k2⟩ := k.frz hw hd
      exact ⟨v, e1, h _ H stp_put k2 v r⟩
    · exact h.elim
  · exact h.elim
theorem snd_kst {d : D} {v : V} (h : PE X e (tC v)) (r : ∀ M H, rd X.K M H d v) : SE X W e (evE C (.kst d)) := h.imp fun σ H Q h => by
  obtain ⟨B, F, env, k, h⟩ := h
  rw [evE] at h
  exact h F H .refl k v (r _ _)
theorem rd_cst {K : PySem.W.Frag} {a : Addr} {ds : List D} {vs : List V} (h : ∀ H : Hp, SqT K H a vs) (r : ∀ M H, rdL K M H ds vs) : ∀ M H, rd K M H (.tup ds) (.ref a) := fun M H => by
  rw [rd]
  refine ⟨a, vs, rfl, .inr ?_, r M H⟩
  rcases h (fun _ => none) with (h | ⟨b, h⟩) | h
  · cases h
  · cases h
  · exact h
theorem takesN : Takes X WN := fun u s' ⟨_, _, _, _, _, _, _, _, _, _, _, _, _, _, _, _, w⟩ => w.elim
theorem _root_.L2.PTs.imp {X : Cx} {e : List Expr} {t t' : TT} (h : PTs X e t) (hi : ∀ σ H Q, t' σ H Q → t σ H Q) : PTs X e t' := ⟨fun pins s σ H Q I q => h.run pins s σ H Q I (hi σ H Q q)⟩
theorem ifs_no : PTs X [] (tB' X.K W (evOE C .no)) := pts_nil.imp fun σ H Q h => by
  obtain ⟨B, F, env, k, h⟩ := h
  rw [evOE] at h
  exact pst_here h k
theorem ifs_yes {r : Ev.E} (h : ST X W e (evE C r)) : PTs X [e] (tB' X.K W (evOE C (.yes r))) := (pts_one h).imp fun σ H Q h => by
  obtain ⟨B, F, env, k, h⟩ := h
  rw [evOE] at h
  refine ⟨B, F, env, k, pst_imp (pst_bind h) fun d e1 F1 H1 _ _ z => ?_⟩
  obtain ⟨_, k1, z⟩ := z
  obtain ⟨b, hb, z⟩ := pst_lift z
  exact ⟨b, hb, pst_here z k1⟩
end
end Ev

set_option Elab.async false
set_option linter.all false
set_option maxRecDepth 100000
set_option maxHeartbeats 4000000
namespace Ev
open PySem PySem.Spec PyProof.Rows L2 He Gw
/-! ### a comprehension, put into a slot -/
section
variable {X : Cx} {W : WX} {C : Ct} {pn : Nat → Bool} {tg elt iter : Expr} {ifs : List Expr} {scope : Scope} {own : List (Str × Nat)} {pos spos py : Pos} {it : It'} {t : Tg} {c : OE} {e : E} {i : Nat} {y : Str}
theorem lcP_own {K : PySem.W.Frag} {B : Addr → Prop} {F : Fp} {H : Hp} {σ : L2.St} {Q : VK} {r : R D} (h : pstW K W B σ F H Q (r.bind fun d e => lift (thaw d) e)) : lcP K W B σ F H Q r := by
  cases r with
  | stuck => exact h
  | exc x e => exact h
  | ok d e1 =>
    intro F' H' p vs rs hd s fr nb k' hp rr
    subst hd
    have k2 : Ok K (fun a => B a ∨ a ∈ [p]) F' H' σ e1 := k'.less fun a => Or.imp id fun z => List.mem_singleton.mp z
    refine h F' H' (.ref p) [p] ⟨s, fun a ha => by rw [List.mem_singleton.mp ha]; exact fr, k2, ?_, by simp⟩
    rw [rw']
    exact ⟨p, vs, rfl, rfl, hp, rdL_less (fun a q => q.imp (Or.imp id fun z => List.mem_singleton.mp z) id) rr⟩
theorem lcP_data {K : PySem.W.Frag} {B : Addr → Prop} {F : Fp} {H : Hp} {σ : L2.St} {Q : VK} {r : R D} (h : pst K W B σ F H (fun d _ F' H' => ∀ v, rd K (av B F') H' d v → Q v H') r) : lcP K W B σ F H Q r := by
  cases r with
  | stuck => exact h
  | exc x e => exact h
  | ok d e1 =>
    intro F' H' p vs rs hd s fr nb k' hp rr
    subst hd
    refine h F' H' s (k'.less fun a => .inl) (.ref p) (rd_lst ⟨fun q => ?_, hp⟩ (rdL_less (fun a q => q.imp .inl id) rr))
    rcases q with q | q
    · exact nb q
    · exact k'.sep p (.inr rfl) q
theorem swv_lc (hc : X.calm = true) (hN : X.N.Nodup) (hi : SI' X W tg iter C it) (ok : BlkOk X.N X.env.scope scope own) (ho : own.map (·.2) = t.slots) (hbo : ∀ i, it.slot = some i → i ∉ t.slots)
    (hg : ∀ (s : Shared) (H : Hp) (A : Addr) (cl : List (Str × Addr)) (fp : List Addr), PG (X.blk s H scope (compEnvC scope cl A X.env) fp) tg (gT X.K t))
    (ht : ∀ (s : Shared) (H : Hp) (A : Addr) (cl : List (Str × Addr)) (fp : List Addr), PTs (X.blk s H scope (compEnvC scope cl A X.env) fp) ifs (tB' X.K WN (evOE C c)))
    (he : ∀ (s : Shared) (H : Hp) (A : Addr) (cl : List (Str × Addr)) (fp : List Addr), PE (X.blk s H scope (compEnvC scope cl A X.env) fp) elt (tE X.K WN (evE C e)))
    (hs : ∀ x, foldedSetIterable iter X.env x = pure x) : SWv X W (.ListComp elt [⟨tg, iter, ifs, 0⟩] scope pos) (evW C (.lc it t c e)) := by
  have q := pe_lc (pos := pos) hc hN hi ok hg ht he hs
  rw [ho] at q
  refine q.imp fun σ H Q h => lc_imp hbo ?_
  obtain ⟨B, F, env, k, h⟩ := h
  rw [evW] at h
  exact ⟨B, F, env, k, lcP_own h⟩
theorem ss_ownLc (hc : X.calm = true) (hN : X.N.Nodup) (hy : X.N[i]? = some y) (hyl : X.env.scope.names.lookup y = some .local) (hsw : swapsWith (.ListComp elt [⟨tg, iter, ifs, 0⟩] scope pos) (some (.Name y py)) spos.line X.env = pure true)
    (hi : SI' X W tg iter C it) (ok : BlkOk X.N X.env.scope scope own) (ho : own.map (·.2) = t.slots) (hbo : ∀ i, it.slot = some i → i ∉ t.slots)
    (hg : ∀ (s : Shared) (H : Hp) (A : Addr) (cl : List (Str × Addr)) (fp : List Addr), PG (X.blk s H scope (compEnvC scope cl A X.env) fp) tg (gT X.K t))
    (ht : ∀ (s : Shared) (H : Hp) (A : Addr) (cl : List (Str × Addr)) (fp : List Addr), PTs (X.blk s H scope (compEnvC scope cl A X.env) fp) ifs (tB' X.K WN (evOE C c)))
    (he : ∀ (s : Shared) (H : Hp) (A : Addr) (cl : List (Str × Addr)) (fp : List Addr), PE (X.blk s H scope (compEnvC scope cl A X.env) fp) elt (tE X.K WN (evE C e)))
    (hs : ∀ x, foldedSetIterable iter X.env x = pure x) : SS X W pn (.Assign [.Name y py] (.ListComp elt [⟨tg, iter, ifs, 0⟩] scope pos) spos) (evS C pn (.own i (.lc it t c e))) := by
  have q := ps_setLc (spos := spos) (py := py) hc hN hy hyl hsw hi ok hg ht he hs
  rw [ho] at q
  refine q.imp fun Y σ H h => ?_
  obtain ⟨B, F, env, k, h⟩ := own_of h
  rw [evW] at h
  exact lc_imp hbo ⟨B, F, env, k, lcP_own h⟩
theorem ss_setLc (hc : X.calm = true) (hN : X.N.Nodup) (hy : X.N[i]? = some y) (hyl : X.env.scope.names.lookup y = some .local) (hsw : swapsWith (.ListComp elt [⟨tg, iter, ifs, 0⟩] scope pos) (some (.Name y py)) spos.line X.env = pure true)
    (hi : SI' X W tg iter C it) (ok : BlkOk X.N X.env.scope scope own) (ho : own.map (·.2) = t.slots) (hbo : ∀ i, it.slot = some i → i ∉ t.slots)
    (hg : ∀ (s : Shared) (H : Hp) (A : Addr) (cl : List (Str × Addr)) (fp : List Addr), PG (X.blk s H scope (compEnvC scope cl A X.env) fp) tg (gT X.K t))
    (ht : ∀ (s : Shared) (H : Hp) (A : Addr) (cl : List (Str × Addr)) (fp : List Addr), PTs (X.blk s H scope (compEnvC scope cl A X.env) fp) ifs (tB' X.K WN (evOE C c)))
    (he : ∀ (s : Shared) (H : Hp) (A : Addr) (cl : List (Str × Addr)) (fp : List Addr), PE (X.blk s H scope (compEnvC scope cl A X.env) fp) elt (tE X.K WN (evE C e)))
    (hs : ∀ x, foldedSetIterable iter X.env x = pure x) : SS X W pn (.Assign [.Name y py] (.ListComp elt [⟨tg, iter, ifs, 0⟩] scope pos) spos) (evS C pn (.asg (.nm i) (.lc it t c e))) := by
  have q := ps_setLc (spos := spos) (py := py) hc hN hy hyl hsw hi ok hg ht he hs
  rw [ho] at q
  refine q.imp fun Y σ H h => ?_
  obtain ⟨B, F, env, k, h⟩ := h
  rw [evS] at h
  refine lc_imp hbo ⟨B, F, env, k, lcP_data (pst_imp (sst_bindE h) fun d e1 F1 H1 _ _ z v hv => ?_)⟩
  obtain ⟨_, k1, z⟩ := z
  obtain ⟨e2, hb, z⟩ := sst_lift z
  exact gT_ok (K := X.K) (t := .nm i) (Q := Y.nx) k1 hv hb fun σ2 F2 f => z σ2 F2 H1 f.stp f.ok f.pins
end
/-! ### the same, side conditions by themselves -/
theorem _root_.L2.Room.u64 {k : Nat} {A : Around} (r : Room k A) : A.units + 64 < cLine := by have := r.un; omega
section
variable {X : Cx} {W : WX} {C : Ct} {pn : Nat → Bool} {a b c e tg iter : Expr} {es : List Expr} {st : Stmt} {sts as bs : List Stmt} {pos p p1 p2 apos spos py : Pos} {x y : Str} {i j k : Nat} {sg : Stmt} {ps : List Str}
theorem x_v (i : Nat) (hN : X.N[i]? = some x := by rfl) (hv : Vis X.env.scope x := by first | exact .inl rfl | exact .inr (.inl rfl) | exact .inr (.inr rfl)) (hd : (x == ("__debug__" : Str)) = false := by decide) (hcd : (x == ("__classdict__" : Str)) = false := by decide) : SE X W (.Name x pos) (evE C (.var i)) := snd_var hN hv hd hcd
theorem x_fz (i : Nat) (hN : X.N[i]? = some x := by rfl) (hv : Vis X.env.scope x := by first | exact .inl rfl | exact .inr (.inl rfl) | exact .inr (.inr rfl)) (hd : (x == ("__debug__" : Str)) = false := by decide) (hcd : (x == ("__classdict__" : Str)) = false := by decide) : SE X W (.Name x pos) (evE C (.frz i)) := snd_frz hN hv hd hcd
theorem x_o (i : Nat) (hN : X.N[i]? = some x := by rfl) (hv : Vis X.env.scope x := by first | exact .inl rfl | exact .inr (.inl rfl) | exact .inr (.inr rfl)) (hd : (x == ("__debug__" : Str)) = false := by decide) (hcd : (x == ("__classdict__" : Str)) = false := by decide) : SO X W (.Name x pos) (evOpd C (.own i)) := snd_own hN hv hd hcd
theorem x_call {f : Nat} {as : AL} (D : Dk X.K X.mg x sg ps) (Fk : FnG X.prog X.w X.K X.mg X.base (L2.CX X.prog X.w) k (ga X.K x) (fdAt X.K (ga X.K x)) ps (spE X.K (C.cal f) ps.length)) (hgd : X.A.guards = some []) (hr : Room k X.A) (tk : Takes X W) (ha : SOs X W (a :: es) (evA C as))
    (hn : as.len = ps.length := by rfl) (hg : Gl X x := by rfl) (hdb : (x == ("__debug__" : Str)) = false := by decide) (he : starEach (a :: es) X.env = (false, eval a X.env) :: starEach es X.env := by rfl) (hpl : (backTo pos (starEach es X.env)).any (·.1) = false := by rfl) :
    SE X W (.Call (.Name x p) (a :: es) [] pos) (evE C (.call f as)) := snd_call Fk hgd hr hg D.g D.F.kp D.b tk hn ha hdb he hpl
theorem x_callA {y : Str} {f : Nat} {as : AL} (D : Da X.K X.mg x y sg ps) (Fk : FnG X.prog X.w X.K X.mg X.base (L2.CX X.prog X.w) k (ga X.K x) (fdAt X.K (ga X.K x)) ps (spE X.K (C.cal f) ps.length)) (hgd : X.A.guards = some []) (hr : Room k X.A) (tk : Takes X W) (ha : SOs X W (a :: es) (evA C as))
    (hn : as.len = ps.length := by rfl) (hg : Gl X x := by rfl) (hdb : (x == ("__debug__" : Str)) = false := by decide) (he : starEach (a :: es) X.env = (false, eval a X.env) :: starEach es X.env := by rfl) (hpl : (backTo pos (starEach es X.env)).any (·.1) = false := by rfl) :
    SE X W (.Call (.Name x p) (a :: es) [] pos) (evE C (.call f as)) := snd_call Fk hgd hr hg D.g D.F.kp D.b tk hn ha hdb he hpl
theorem x_call0 {f : Nat} (D : Dk X.K X.mg x sg ps) (Fk : FnG X.prog X.w X.K X.mg X.base (L2.CX X.prog X.w) k (ga X.K x) (fdAt X.K (ga X.K x)) ps (spE X.K (C.cal f) ps.length)) (hgd : X.A.guards = some []) (hr : Room k X.A) (tk : Takes X W)
    (hn : 0 = ps.length := by rfl) (hg : Gl X x := by rfl) (hdb : (x == ("__debug__" : Str)) = false := by decide) : SE X W (.Call (.Name x p) [] [] pos) (evE C (.call f .nil)) := snd_call0 Fk hgd hr hg D.g D.F.kp D.b tk hn hdb
theorem x_callW {f : Nat} {as : AL} (D : Dk X.K X.mg x sg ps) (Fk : FnG X.prog X.w X.K X.mg X.base (L2.CX X.prog X.w) k (ga X.K x) (fdAt X.K (ga X.K x)) ps (spE X.K (C.cal f) ps.length)) (hgd : X.A.guards = some []) (hr : Room k X.A) (tk : Takes X W) (ha : SOs X W (a :: es) (evA C as))
    (hn : as.len = ps.length := by rfl) (hg : Gl X x := by rfl) (hdb : (x == ("__debug__" : Str)) = false := by decide) (he : starEach (a :: es) X.env = (false, eval a X.env) :: starEach es X.env := by rfl) (hpl : (backTo pos (starEach es X.env)).any (·.1) = false := by rfl) :
    SWv X W (.Call (.Name x p) (a :: es) [] pos) (evW C (.call f as)) := swv_call Fk hgd hr hg D.g D.F.kp D.b tk hn ha hdb he hpl
theorem x_callWA {y : Str} {f : Nat} {as : AL} (D : Da X.K X.mg x y sg ps) (Fk : FnG X.prog X.w X.K X.mg X.base (L2.CX X.prog X.w) k (ga X.K x) (fdAt X.K (ga X.K x)) ps (spE X.K (C.cal f) ps.length)) (hgd : X.A.guards = some []) (hr : Room k X.A) (tk : Takes X W) (ha : SOs X W (a :: es) (evA C as))
    (hn : as.len = ps.length := by rfl) (hg : Gl X x := by rfl) (hdb : (x == ("__debug__" : Str)) = false := by decide) (he : starEach (a :: es) X.env = (false, eval a X.env) :: starEach es X.env := by rfl) (hpl : (backTo pos (starEach es X.env)).any (·.1) = false := by rfl) :
    SWv X W (.Call (.Name x p) (a :: es) [] pos) (evW C (.call f as)) := swv_call Fk hgd hr hg D.g D.F.kp D.b tk hn ha hdb he hpl
theorem x_callW0 {f : Nat} (D : Dk X.K X.mg x sg ps) (Fk : FnG X.prog X.w X.K X.mg X.base (L2.CX X.prog X.w) k (ga X.K x) (fdAt X.K (ga X.K x)) ps (spE X.K (C.cal f) ps.length)) (hgd : X.A.guards = some []) (hr : Room k X.A) (tk : Takes X W)
    (hn : 0 = ps.length := by rfl) (hg : Gl X x := by rfl) (hdb : (x == ("__debug__" : Str)) = false := by decide) : SWv X W (.Call (.Name x p) [] [] pos) (evW C (.call f .nil)) := swv_call0 Fk hgd hr hg D.g D.F.kp D.b tk hn hdb
theorem x_meth {f : Nat} {as : AL} {o : Expr} {c m : Str} {ro : Opd} {apos : Pos} (M : Cls X.K (ga X.K c)) (hm : Meth X.K (ga X.K c) m (ma X.K (ga X.K c) m)) (D : Dm X.K c m sg ps) (Fk : FnG X.prog X.w X.K X.mg X.base (L2.CX X.prog X.w) k (ma X.K (ga X.K c) m) (fdAt X.K (ma X.K (ga X.K c) m)) ps (spE X.K (C.cal f) ps.length)) (hgd : X.A.guards = some []) (hr : Room k X.A) (tk : Takes X W)
    (ho : SO X W o (evOpd C ro)) (ha : SOs X W (a :: es) (evA C as)) (pl : Sem Bool)
    (ht : eval (.Call (.Attribute o m apos) (a :: es) [] pos) X.env = (do
      let ov ← eval o X.env
      standAt apos.atName
      let (g, first) ← holding [ov] (getMethod ov m pl)
      callWith pos g first (backTo pos (starEach (a :: es) X.env)) (backToKw pos (keywordEach [] X.env))) := by rfl)
    (hn : as.len + 1 = ps.length := by rfl) (he : starEach (a :: es) X.env = (false, eval a X.env) :: starEach es X.env := by rfl) (hpl : (backTo pos (starEach es X.env)).any (·.1) = false := by rfl) :
    SE X W (.Call (.Attribute o m apos) (a :: es) [] pos) (evE C (.meth c m f ro as)) := snd_meth ho M hm Fk hgd hr D.b tk hn ha he hpl ht
theorem x_meth0 {f : Nat} {o : Expr} {c m : Str} {ro : Opd} {apos : Pos} (M : Cls X.K (ga X.K c)) (hm : Meth X.K (ga X.K c) m (ma X.K (ga X.K c) m)) (D : Dm X.K c m sg ps) (Fk : FnG X.prog X.w X.K X.mg X.base (L2.CX X.prog X.w) k (ma X.K (ga X.K c) m) (fdAt X.K (ma X.K (ga X.K c) m)) ps (spE X.K (C.cal f) ps.length)) (hgd : X.A.guards = some []) (hr : Room k X.A) (tk : Takes X W)
    (ho : SO X W o (evOpd C ro)) (pl : Sem Bool)
    (ht : eval (.Call (.Attribute o m apos) [] [] pos) X.env = (do
      let ov ← eval o X.env
      standAt apos.atName
      let (g, first) ← holding [ov] (getMethod ov m pl)
      callWith pos g first (backTo pos (starEach [] X.env)) (backToKw pos (keywordEach [] X.env))) := by rfl)
    (hn : 1 = ps.length := by rfl) : SE X W (.Call (.Attribute o m apos) [] [] pos) (evE C (.meth c m f ro .nil)) := snd_meth0 ho M hm Fk hgd hr D.b tk hn ht
theorem x_methW {f : Nat} {as : AL} {o : Expr} {c m : Str} {ro : Opd} {apos : Pos} (M : Cls X.K (ga X.K c)) (hm : Meth X.K (ga X.K c) m (ma X.K (ga X.K c) m)) (D : Dm X.K c m sg ps) (Fk : FnG X.prog X.w X.K X.mg X.base (L2.CX X.prog X.w) k (ma X.K (ga X.K c) m) (fdAt X.K (ma X.K (ga X.K c) m)) ps (spE X.K (C.cal f) ps.length)) (hgd : X.A.guards = some []) (hr : Room k X.A) (tk : Takes X W)
    (ho : SO X W o (evOpd C ro)) (ha : SOs X W (a :: es) (evA C as)) (pl : Sem Bool)
    (ht : eval (.Call (.Attribute o m apos) (a :: es) [] pos) X.env = (do
      let ov ← eval o X.env
      standAt apos.atName
      let (g, first) ← holding [ov] (getMethod ov m pl)
      callWith pos g first (backTo pos (starEach (a :: es) X.env)) (backToKw pos (keywordEach [] X.env))) := by rfl)
    (hn : as.len + 1 = ps.length := by rfl) (he : starEach (a :: es) X.env = (false, eval a X.env) :: starEach es X.env := by rfl) (hpl : (backTo pos (starEach es X.env)).any (·.1) = false := by rfl) :
    SWv X W (.Call (.Attribute o m apos) (a :: es) [] pos) (evW C (.meth c m f ro as)) := swv_meth ho M hm Fk hgd hr D.b tk hn ha he hpl ht
theorem x_methW0 {f : Nat} {o : Expr} {c m : Str} {ro : Opd} {apos : Pos} (M : Cls X.K (ga X.K c)) (hm : Meth X.K (ga X.K c) m (ma X.K (ga X.K c) m)) (D : Dm X.K c m sg ps) (Fk : FnG X.prog X.w X.K X.mg X.base (L2.CX X.prog X.w) k (ma X.K (ga X.K c) m) (fdAt X.K (ma X.K (ga X.K c) m)) ps (spE X.K (C.cal f) ps.length)) (hgd : X.A.guards = some []) (hr : Room k X.A) (tk : Takes X W)
    (ho : SO X W o (evOpd C ro)) (pl : Sem Bool)
    (ht : eval (.Call (.Attribute o m apos) [] [] pos) X.env = (do
      let ov ← eval o X.env
      standAt apos.atName
      let (g, first) ← holding [ov] (getMethod ov m pl)
      callWith pos g first (backTo pos (starEach [] X.env)) (backToKw pos (keywordEach [] X.env))) := by rfl)
    (hn : 1 = ps.length := by rfl) : SWv X W (.Call (.Attribute o m apos) [] [] pos) (evW C (.meth c m f ro .nil)) := swv_meth0 ho M hm Fk hgd hr D.b tk hn ht
theorem x_make {f : Nat} {as : AL} (M : Mk X.K (ga X.K x) (ma X.K (ga X.K x) "__init__")) (D : Dm X.K x "__init__" sg ps) (Fk : FnG X.prog X.w X.K X.mg X.base (L2.CX X.prog X.w) k (ma X.K (ga X.K x) "__init__") (fdAt X.K (ma X.K (ga X.K x) "__init__")) ps (spE X.K (C.cal f) ps.length))
    (hgd : X.A.guards = some []) (hr : Room (k + 1) X.A) (tk : Takes X W) (hm : X.mg x = some (.ref (ga X.K x))) (ha : SOs X W (a :: es) (evA C as))
    (hn : as.len + 1 = ps.length := by rfl) (hg : Gl X x := by rfl) (hdb : (x == ("__debug__" : Str)) = false := by decide) (he : starEach (a :: es) X.env = (false, eval a X.env) :: starEach es X.env := by rfl) (hpl : (backTo pos (starEach es X.env)).any (·.1) = false := by rfl) :
    SE X W (.Call (.Name x p) (a :: es) [] pos) (evE C (.make x f as)) := snd_make M Fk hgd hr hg hm D.b tk hn ha hdb he hpl
theorem x_makeW {f : Nat} {as : AL} (M : Mk X.K (ga X.K x) (ma X.K (ga X.K x) "__init__")) (D : Dm X.K x "__init__" sg ps) (Fk : FnG X.prog X.w X.K X.mg X.base (L2.CX X.prog X.w) k (ma X.K (ga X.K x) "__init__") (fdAt X.K (ma X.K (ga X.K x) "__init__")) ps (spE X.K (C.cal f) ps.length))
    (hgd : X.A.guards = some []) (hr : Room (k + 1) X.A) (tk : Takes X W) (hm : X.mg x = some (.ref (ga X.K x))) (ha : SOs X W (a :: es) (evA C as))
    (hn : as.len + 1 = ps.length := by rfl) (hg : Gl X x := by rfl) (hdb : (x == ("__debug__" : Str)) = false := by decide) (he : starEach (a :: es) X.env = (false, eval a X.env) :: starEach es X.env := by rfl) (hpl : (backTo pos (starEach es X.env)).any (·.1) = false := by rfl) :
    SWv X W (.Call (.Name x p) (a :: es) [] pos) (evW C (.make x f as)) := swv_make M Fk hgd hr hg hm D.b tk hn ha hdb he hpl
theorem x_cons {e : E} {r : EL} (ha : SE X W a (evE C e)) (hr : SLs X W es (evL C r)) (hs : starEach (a :: es) X.env = (false, eval a X.env) :: starEach es X.env := by rfl) : SLs X W (a :: es) (evL C (.cons e r)) := snd_consL hs ha hr
theorem x_starS {e : E} {r : StL} {p0 : Pos} (ha : SE X W a (evE C e)) (hr : SLs X W es (evSt C r)) (hs : starEach (.Starred a p0 :: es) X.env = (true, eval a X.env) :: starEach es X.env := by rfl) : SLs X W (.Starred a p0 :: es) (evSt C (.star e r)) := snd_starS hs ha hr
theorem x_consS {e : E} {r : StL} (ha : SE X W a (evE C e)) (hr : SLs X W es (evSt C r)) (hs : starEach (a :: es) X.env = (false, eval a X.env) :: starEach es X.env := by rfl) : SLs X W (a :: es) (evSt C (.cons e r)) := snd_consS hs ha hr
theorem x_consO {o : Opd} {r : OL} (ha : SO X W a (evOpd C o)) (hr : SOs X W es (evO C r)) (hs : starEach (a :: es) X.env = (false, eval a X.env) :: starEach es X.env := by rfl) : SOs X W (a :: es) (evO C (.cons o r)) := snd_consO hs ha hr
theorem x_val {e : E} {r : AL} (ha : SE X W a (evE C e)) (hr : SOs X W es (evA C r)) (hs : starEach (a :: es) X.env = (false, eval a X.env) :: starEach es X.env := by rfl) : SOs X W (a :: es) (evA C (.val e r)) := snd_valA hs ha hr
theorem x_ref (i : Nat) {r : AL} (hr : SOs X W es (evA C r)) (hs : starEach (.Name x p :: es) X.env = (false, eval (.Name x p) X.env) :: starEach es X.env := by rfl) (hN : X.N[i]? = some x := by rfl) (hv : Vis X.env.scope x := by first | exact .inl rfl | exact .inr (.inl rfl) | exact .inr (.inr rfl)) (hd : (x == ("__debug__" : Str)) = false := by decide) (hcd : (x == ("__classdict__" : Str)) = false := by decide) :
    SOs X W (.Name x p :: es) (evA C (.ref i r)) := snd_refA hs hN hv hd hcd hr
theorem x_bt {o : Opc} {as : OL} {id : String} (hc : CallR X (.builtin id) (rO X.K o)) (hm : X.mg x = none) (ha : SOs X W (a :: es) (evO C as)) (hv : bootBuiltins x = some (.builtin id) := by decide +kernel) (hg : Gl X x := by rfl) (hn : x ≠ "__name__" := by decide) (hdb : (x == ("__debug__" : Str)) = false := by decide)
    (he : starEach (a :: es) X.env = (false, eval a X.env) :: starEach es X.env := by rfl) (hpl : (backTo pos (starEach es X.env)).any (·.1) = false := by rfl) : SE X W (.Call (.Name x p) (a :: es) [] pos) (evE C (.op o as)) := snd_callB hc hg hm hv hn hdb he hpl ha
theorem x_ty {o : Opc} {as : OL} {id : String} (hc : CallR X (.type id) (rO X.K o)) (hm : X.mg x = none) (ha : SOs X W (a :: es) (evO C as)) (hv : bootBuiltins x = some (.type id) := by decide +kernel) (hg : Gl X x := by rfl) (hn : x ≠ "__name__" := by decide) (hdb : (x == ("__debug__" : Str)) = false := by decide)
    (he : starEach (a :: es) X.env = (false, eval a X.env) :: starEach es X.env := by rfl) (hpl : (backTo pos (starEach es X.env)).any (·.1) = false := by rfl) : SE X W (.Call (.Name x p) (a :: es) [] pos) (evE C (.op o as)) := snd_callT hc hg hm hv hn hdb he hpl ha
theorem x_listW {as : OL} (hm : X.mg x = none) (ha : SOs X W (a :: es) (evO C as)) (hv : bootBuiltins x = some (.type "list") := by decide +kernel) (hg : Gl X x := by rfl) (hn : x ≠ "__name__" := by decide) (hdb : (x == ("__debug__" : Str)) = false := by decide)
    (he : starEach (a :: es) X.env = (false, eval a X.env) :: starEach es X.env := by rfl) (hpl : (backTo pos (starEach es X.env)).any (·.1) = false := by rfl) : SWv X W (.Call (.Name x p) (a :: es) [] pos) (evW C (.op .list as)) := swv_list hg hm hv hn hdb he hpl ha
theorem x_idx {p q : Opd} (ha : SO X W a (evOpd C p)) (hb : SO X W b (evOpd C q)) (hs : PlainIx b := by exact fun _ _ => rfl) : SE X W (.Subscript a b pos) (evE C (.op .idx (.cons p (.cons q .nil)))) := snd_idx hs ha hb
theorem x_cmp {o : Opc} {op : CmpOp} {p q : Opd} (ho : OpR X (compareOp op) (rO2 X.K o)) (ha : SO X W a (evOpd C p)) (hb : SO X W b (evOpd C q)) (hm : behindInMarks op b = false := by rfl) : SE X W (.Compare a [op] [b] pos) (evE C (.op o (.cons p (.cons q .nil)))) := snd_cmp ho hm ha hb
theorem x_cmpT {o : Opc} {op : CmpOp} {p q : Opd} (ho : OpR X (compareOp op) (rO2 X.K o)) (ha : SO X W a (evOpd C p)) (hb : SO X W b (evOpd C q)) (hm : behindInMarks op b = false := by rfl) (hc : isCmp o = true := by rfl) : ST X W (.Compare a [op] [b] pos) (evE C (.op o (.cons p (.cons q .nil)))) := snd_cmpT ho hc hm ha hb
theorem x_chain {o o' : Opc} {op op' : CmpOp} {u v z : E} (ho : OpR X (compareOp op) (rO2 X.K o)) (ho' : OpR X (compareOp op') (rO2 X.K o')) (ha : SE X W a (evE C u)) (hb : SE X W b (evE C v)) (hc : SE X W c (evE C z)) (hm : lastMarks [op, op'] [b, c] = false := by with_unfolding_all rfl) :
    SE X W (.Compare a [op, op'] [b, c] pos) (evE C (.chain u o v o' z)) := snd_chain ho ho' ha hb hc hm
theorem x_chainT {o o' : Opc} {op op' : CmpOp} {u v z : E} (ho : OpR X (compareOp op) (rO2 X.K o)) (ho' : OpR X (compareOp op') (rO2 X.K o')) (ha : SE X W a (evE C u)) (hb : SE X W b (evE C v)) (hc : SE X W c (evE C z)) (hm : lastMarks [op, op'] [b, c] = false := by with_unfolding_all rfl) (hc' : isCmp o' = true := by rfl) :
    ST X W (.Compare a [op, op'] [b, c] pos) (evE C (.chain u o v o' z)) := snd_chainT ho ho' hc' ha hb hc hm
theorem x_t {ev : Ev D} (h : SE X W a ev) (hp : plainA a = true := by rfl) : ST X W a ev := snd_truth hp h
theorem x_w {r : E} (h : SW X W a (evE C r)) : ST X W a (evE C r) := PW.pt h
theorem x_fld {q : Opd} {f : Str} (hF : FldOk X.K C) (ha : SO X W a (evOpd C q)) (hb : attributeBase a f X.env (eval a X.env) = eval a X.env := by rfl) : SE X W (.Attribute a f pos) (evE C (.fld q f)) := snd_fld hF ha hb
theorem x_mut {m : Opc'} (i : Nat) {as : EL} {name : Str} {id : String} (slot : Slot "list" name id) (hty : typeOf (.builtin id) = pure (.type "method_descriptor")) (hm : MtR X id (rMu X.K m)) (ha : SLs X W (e :: es) (evL C as)) (hN : X.N[i]? = some x := by rfl) (hv : Vis X.env.scope x := by first | exact .inl rfl | exact .inr (.inl rfl) | exact .inr (.inr rfl)) (hd : (x == ("__debug__" : Str)) = false := by decide) (hcd : (x == ("__classdict__" : Str)) = false := by decide)
    (hbase : attributeBase (.Name x p) name X.env (eval (.Name x p) X.env) = eval (.Name x p) X.env := by rfl)
    (hfew : ((backTo pos (starEach (e :: es) X.env)).all (fun x => !x.1) && (backToKw pos (keywordEach [] X.env)).all (fun x => x.1.isSome)
      && decide ((e :: es).length + ([] : List Keyword).length + (if ([] : List Keyword).isEmpty then 0 else 1) < 30)) = true := by rfl)
    (hline : (apos.endLine == pos.line) = true := by rfl) (hs : starEach (e :: es) X.env = (false, eval e X.env) :: starEach es X.env := by rfl) (hplain : (backTo pos (starEach es X.env)).any (·.1) = false := by rfl) :
    SE X W (.Call (.Attribute (.Name x p) name apos) (e :: es) [] pos) (evE C (.mut m i as)) := snd_mut slot hty hm hN hv hd hcd ha hbase hfew hline hs hplain
theorem x_mut0 {m : Opc'} (i : Nat) {name : Str} {id : String} (slot : Slot "list" name id) (hty : typeOf (.builtin id) = pure (.type "method_descriptor")) (hm : MtR X id (rMu X.K m)) (hN : X.N[i]? = some x := by rfl) (hv : Vis X.env.scope x := by first | exact .inl rfl | exact .inr (.inl rfl) | exact .inr (.inr rfl)) (hd : (x == ("__debug__" : Str)) = false := by decide) (hcd : (x == ("__classdict__" : Str)) = false := by decide)
    (hbase : attributeBase (.Name x p) name X.env (eval (.Name x p) X.env) = eval (.Name x p) X.env := by rfl) (hline : (apos.endLine == pos.line) = true := by rfl) :
    SE X W (.Call (.Attribute (.Name x p) name apos) [] [] pos) (evE C (.mut m i .nil)) := snd_mut0 slot hty hm hN hv hd hcd hbase hline
theorem x_set (i : Nat) {r : E} (hN : X.N.Nodup) (he : SE X W e (evE C r)) (hi : X.N[i]? = some x := by rfl) (hx : Loc X.env.scope x := by first | exact .inl rfl | exact .inr rfl) (hs : swapsWith e (some (.Name x p)) pos.line X.env = pure false := by rfl) (hf : X.fn x = true ∨ X.env.scope.names.lookup x = some .local := by first | exact .inl rfl | exact .inr rfl) :
    SS X W pn (.Assign [.Name x p] e pos) (evS C pn (.asg (.nm i) r)) := ss_set hN hi hx he hs hf
theorem x_own (i : Nat) {r : E} (hN : X.N.Nodup) (he : SWv X W e (evW C r)) (hi : X.N[i]? = some x := by rfl) (hx : Loc X.env.scope x := by first | exact .inl rfl | exact .inr rfl) (hs : swapsWith e (some (.Name x p)) pos.line X.env = pure false := by rfl) (hf : X.fn x = true ∨ X.env.scope.names.lookup x = some .local := by first | exact .inl rfl | exact .inr rfl) :
    SS X W pn (.Assign [.Name x p] e pos) (evS C pn (.own i r)) := ss_own hN hi hx he hs hf
theorem x_asg {t : Tg} {r : E} (he : SE X W e (evE C r)) (hg : PG X tg (gT X.K t)) (hs : swapsWithSole [tg] e pos.line X.env = pure false := by rfl) (hw : swappedStores [tg] e X.env = pure none := by rfl) (h1 : (assignEach [tg] X.env).map (·.2) = [assign tg X.env] := by rfl) :
    SS X W pn (.Assign [tg] e pos) (evS C pn (.asg t r)) := ss_asg he hg hs hw h1
theorem x_expr {r : E} (he : SE X W e (evE C r)) (hs : swapsWith e none pos.line X.env = pure false := by rfl) : SS X W pn (.Expr e pos) (evS C pn (.expr r)) := ss_expr he hs
theorem x_retO (i : Nat) (hN : X.N[i]? = some x := by rfl) (hv : Vis X.env.scope x := by first | exact .inl rfl | exact .inr (.inl rfl) | exact .inr (.inr rfl)) (hd : (x == ("__debug__" : Str)) = false := by decide) (hcd : (x == ("__classdict__" : Str)) = false := by decide) : SS X W pn (.Return (some (.Name x p)) pos) (evS C pn (.retO i)) := ss_retO hN hv hd hcd
theorem x_for {it : It'} {t : Tg} {b : SL} (hp : PassesOwn (model X.prog X.w) X.A X.env X.xe) (hi : SI' X W tg iter C it) (hg : PG X tg (gT X.K t)) (hb : SSs X W (also pn it.slot) bs (evSL C (also pn it.slot) b)) (hc : X.calm = true := by rfl) (hs : ∀ x, foldedSetIterable iter X.env x = pure x := by intro _; rfl) :
    SS X W pn (.For tg iter bs [] pos) (evS C pn (.for_ t it b)) := ss_for hp hc hi hg hb hs
theorem x_setix (i : Nat) {r ix : E} {kx : Expr} (he : SE X W e (evE C r)) (hk : SE X W kx (evE C ix)) (hN : X.N[i]? = some x := by rfl) (hv : Vis X.env.scope x := by first | exact .inl rfl | exact .inr (.inl rfl) | exact .inr (.inr rfl)) (hd : (x == ("__debug__" : Str)) = false := by decide) (hcd : (x == ("__classdict__" : Str)) = false := by decide)
    (ha : ∀ v, assign (.Subscript (.Name x p) kx p1) X.env v = (do
      let ov ← holding [v] (eval (.Name x p) X.env)
      let iv ← holding [v, ov] (eval kx X.env)
      standAt p1
      holding [v, ov, iv] (setItem ov iv v)
      release [v, ov, iv] []) := by intro _; rfl)
    (hs : swapsWithSole [.Subscript (.Name x p) kx p1] e pos.line X.env = pure false := by rfl) (hw : swappedStores [.Subscript (.Name x p) kx p1] e X.env = pure none := by rfl) (h1 : (assignEach [.Subscript (.Name x p) kx p1] X.env).map (·.2) = [assign (.Subscript (.Name x p) kx p1) X.env] := by rfl) :
    SS X W pn (.Assign [.Subscript (.Name x p) kx p1] e pos) (evS C pn (.set i ix r)) := ss_setix hN hv hd hcd he hk ha hs hw h1
theorem x_setf (i : Nat) {f : Str} {r : E} (hF : FldOk X.K C) (he : SE X W e (evE C r)) (hN : X.N[i]? = some x := by rfl) (hv : Vis X.env.scope x := by first | exact .inl rfl | exact .inr (.inl rfl) | exact .inr (.inr rfl)) (hd : (x == ("__debug__" : Str)) = false := by decide) (hcd : (x == ("__classdict__" : Str)) = false := by decide)
    (hs : swapsWith e (some (.Attribute (.Name x p) f p1)) pos.line X.env = pure false := by rfl) : SS X W pn (.Assign [.Attribute (.Name x p) f p1] e pos) (evS C pn (.setf i f r)) := ss_setf hF hN hv hd hcd he hs
theorem x_asgf (i j : Nat) {f : Str} {r : E} (hF : FldOk X.K C) (he : SE X W e (evE C r)) (hg : PG X tg (gTup X.K 2 (gCons (gName i) (gCons (gAtt X.K (tVar j) f) gNil)))) (hs : swapsWithSole [tg] e pos.line X.env = pure false := by rfl) (hw : swappedStores [tg] e X.env = pure none := by rfl) (h1 : (assignEach [tg] X.env).map (·.2) = [assign tg X.env] := by rfl) :
    SS X W pn (.Assign [tg] e pos) (evS C pn (.asgf i j f r)) := ss_asgf hF he hg hs hw h1
theorem x_ga (j : Nat) {f : Str} (hN : X.N[j]? = some x := by rfl) (hv : Vis X.env.scope x := by first | exact .inl rfl | exact .inr (.inl rfl) | exact .inr (.inr rfl)) (hd : (x == ("__debug__" : Str)) = false := by decide) (hcd : (x == ("__classdict__" : Str)) = false := by decide)
    (ha : ∀ v, assign (.Attribute (.Name x p) f pos) X.env v = (do
      let ov ← holding [v] (eval (.Name x p) X.env)
      standAt pos.atName
      holding [v, ov] (setAttr ov f v)
      release [v, ov] []) := by intro _; rfl) : PG X (.Attribute (.Name x p) f pos) (gAtt X.K (tVar j) f) := pg_attr (pe_var hN hv hd hcd) ha
theorem x_gn (i : Nat) (hN : X.N.Nodup) (hi : X.N[i]? = some x := by rfl) (hx : Loc X.env.scope x := by first | exact .inl rfl | exact .inr rfl) (hf : X.fn x = true ∨ X.env.scope.names.lookup x = some .local := by first | exact .inl rfl | exact .inr rfl) : PG X (.Name x pos) (gT X.K (.nm i)) := pg_name hN hi hx hf
theorem x_itown (i : Nat) (hN : X.N[i]? = some x := by rfl) (hv : Vis X.env.scope x := by first | exact .inl rfl | exact .inr (.inl rfl) | exact .inr (.inr rfl)) (hd : (x == ("__debug__" : Str)) = false := by decide) (hcd : (x == ("__classdict__" : Str)) = false := by decide) : SI' X W tg (.Name x pos) C (.own i) := sit_own hN hv hd hcd
end
end Ev

set_option Elab.async false
set_option linter.all false
set_option maxRecDepth 100000
set_option maxHeartbeats 4000000
namespace Ev
open PySem PySem.Spec PyProof.Rows L2 He Gw
/-! ### the law itself -/
theorem runF_len {C : Ct} {N : Nat} {b : SL} {ws outs : List Wv} {r : Wv} (h : runF C N b ws = .ok r outs) : outs.length = ws.length := by
  unfold runF at h
  split at h
  · split at h
    · rename_i q; cases h; exact (outsA_get q).1
    · cases h
  · split at h
    · rename_i q; cases h; exact (outsA_get q).1
    · cases h
  · split at h <;> cases h
  · cases h
theorem calT_len {T : Nat → Option Fd} {C : Ct} {m i : Nat} {ws outs : List Wv} {r : Wv} (h : calT T C m i ws = .ok r outs) : outs.length = ws.length := by
  cases m with
  | zero => cases h
  | succ m =>
    rw [calT] at h
    split at h
    · split at h
      · exact runF_len h
      · cases h
    · cases h
def spScr (K : PySem.W.Frag) : Sp := fun vs H Q _ => ∃ (a : Addr) (ns : List Int), vs = [.ref a] ∧ ns.length ≤ 63 ∧ SqL K H a (ns.map V.int) ∧ ∀ H', Q (.bl true) H'
theorem law_fn {P : Program} {w : World} {K : PySem.W.Frag} {mg : Str → Option Value} {base : Heap} {k : Nat} {f : Addr} {fd : FuncData} {x : Str} {T : Nat → Option Fd} {C : Ct} {m i : Nat}
    (F : FnG P w K mg base (L2.CX P w) k f fd [x] (spE K (calT T C m i) 1)) (h : ∀ ns : List Int, ns.length ≤ 63 → ∃ outs, calT T C m i [.fz (.scr ns)] = .ok (.fz (.bl true)) outs) : FnG P w K mg base CX0 k f fd [x] (spScr K) := by
  have get : ∀ vs H Q E, spScr K vs H Q E → spE K (calT T C m i) 1 vs H Q fun _ _ _ => False := fun vs H Q E ⟨a, ns, e, hl, hs, q⟩ => by
    subst e
    obtain ⟨outs, ho⟩ := h ns hl
    have none_ : ∀ b, ¬ av (fun _ => False) (fun _ => []) b := fun b z => by
      rcases z with z | ⟨_, z⟩
      · exact z
      · cases z
    refine ⟨rfl, fun _ => False, fun _ => [], [.fz (.scr ns)], rfl, ⟨rfl, fun i u e => ?_, fun _ => List.nodup_nil, fun _ _ _ z => (nomatch z), fun b z => absurd z (none_ b), fun b (z : False) => z.elim⟩, fun _ _ => rfl, ?_⟩
    · cases i with
      | zero =>
        cases e
        refine ⟨.ref a, rfl, ?_⟩
        rw [rw', rd]
        exact ⟨rfl, a, rfl, hs.imp (fun z => ⟨none_ a, z⟩) id⟩
      | succ i => cases e
    · rw [ho]
      have lo := calT_len ho
      refine ⟨lo, fun F' H' v s k => ?_⟩
      obtain ⟨v', e1, r⟩ := k.at_ 1 (.fz (.bl true)) (by rw [List.getElem?_append_right (by rw [List.length_map, lo]; exact Nat.le_refl _), List.length_map, lo]; rfl)
      cases e1
      rw [rw', rd] at r
      rw [r.2]
      exact q H'
  exact ⟨fun vs H Q E z => F.len _ _ _ _ (get _ _ _ _ z), fun A outer s H args us vs Q E hg hr e0 hb hv z => codeAny_mono (F.run A outer s H args us vs Q (fun _ _ _ => False) hg hr e0 hb hv (get _ _ _ _ z)) fun r s' z => by
    cases r with
    | error e => obtain ⟨_, _, _, _, _, _, _, _, _, _, _, _, z⟩ := z; exact z.elim
    | ok fl => cases fl <;> exact z⟩
end Ev

set_option Elab.async false
set_option linter.all false
set_option maxRecDepth 100000
set_option maxHeartbeats 4000000
namespace Ev
open PySem PySem.Spec PyProof.Rows L2 He Gw
section
variable {K : PySem.W.Frag} {M : Addr → Prop} {H : Hp}
theorem blL_rd (ds : List D) : ∀ {vs : List V} {bs : List Bool}, rdL K M H ds vs → blL ds = some bs → vs = bs.map V.bl := by
  induction ds with
  | nil => intro vs bs r e; rw [rdL] at r; cases e; exact r
  | cons d ds ih =>
    intro vs bs r e
    rw [rdL] at r
    obtain ⟨v, vs, rfl, r1, r2⟩ := r
    cases d with
    | bl b =>
      rw [blL] at e
      cases q : blL ds with
      | none => rw [q] at e; cases e
      | some bs' => rw [q] at e; cases e; rw [rd] at r1; rw [ih r2 q, r1]; rfl
    | _ => cases e
theorem itL_rd (ds : List D) : ∀ {vs : List V} {bs : List Int}, rdL K M H ds vs → itL ds = some bs → vs = bs.map V.int := by
  induction ds with
  | nil => intro vs bs r e; rw [rdL] at r; cases e; exact r
  | cons d ds ih =>
    intro vs bs r e
    rw [rdL] at r
    obtain ⟨v, vs, rfl, r1, r2⟩ := r
    cases d with
    | int b =>
      rw [itL] at e
      cases q : itL ds with
      | none => rw [q] at e; cases e
      | some bs' => rw [q] at e; cases e; rw [rd] at r1; rw [ih r2 q, r1]; rfl
    | _ => cases e
theorem srL_rd (ds : List D) : ∀ {vs : List V} {bs : List Str}, rdL K M H ds vs → srL ds = some bs → vs = bs.map V.str := by
  induction ds with
  | nil => intro vs bs r e; rw [rdL] at r; cases e; exact r
  | cons d ds ih =>
    intro vs bs r e
    rw [rdL] at r
    obtain ⟨v, vs, rfl, r1, r2⟩ := r
    cases d with
    | str b =>
      rw [srL] at e
      cases q : srL ds with
      | none => rw [q] at e; cases e
      | some bs' => rw [q] at e; cases e; rw [rd] at r1; rw [ih r2 q, r1]; rfl
    | _ => cases e
end
section
variable {X : Cx} {W : WX} {C : Ct} {pn : Nat → Bool} {a b : Expr} {es : List Expr} {pos p p1 p2 apos : Pos} {x : Str}
theorem clr1 {f : Value} {o : Opc} {rr : List V → Hp → VK → Prop} (h : CallR X f rr) (ho : ∀ ds d, opD o ds = some d → ∃ a, ds = [a]) (hr : ∀ {M : Addr → Prop} {a d : D} {v : V} {H : Hp} {Q : VK}, opD o [a] = some d → rv X.K M H a v → (∀ u H', Grow H H' → rd X.K M H' d u → Q u H') → rr [v] H Q) : CallR X f (rO X.K o) := by
  intro pins s σ H xs us Q I r hh
  obtain ⟨M, ds, d, al, rs, e, q⟩ := hh
  obtain ⟨a, rfl⟩ := ho ds d e
  obtain ⟨v, r', rfl, ra, rfl⟩ := rs
  exact h pins s σ H _ us Q I r (hr e ra q)
theorem clr_all (hc : X.calm = true) : CallR X (.builtin "all") (rO X.K .all) := clr1 (cr_all hc) (fun ds d e => by
  match ds, e with
  | [a], _ => exact ⟨a, rfl⟩) fun {M a d v H Q} e ra q => by
    replace e : (allD a).map D.bl = some d := e
    cases a with
    | lst ds =>
      replace e : ((blL ds).map fun bs => bs.all id).map D.bl = some d := e
      cases z : blL ds with
      | none => rw [z] at e; cases e
      | some bs =>
        rw [z] at e
        cases e
        obtain ⟨p, vs, rfl, hp, rr⟩ := ra
        obtain rfl := blL_rd _ rr z
        exact ⟨p, bs, rfl, SqL.of hp, q _ _ .refl rd_bl⟩
    | _ => cases e
theorem clr_any (hc : X.calm = true) : CallR X (.builtin "any") (rO X.K .any) := clr1 (cr_any hc) (fun ds d e => by
  match ds, e with
  | [a], _ => exact ⟨a, rfl⟩) fun {M a d v H Q} e ra q => by
    replace e : (anyD a).map D.bl = some d := e
    cases a with
    | lst ds =>
      replace e : ((blL ds).map fun bs => bs.any id).map D.bl = some d := e
      cases z : blL ds with
      | none => rw [z] at e; cases e
      | some bs =>
        rw [z] at e
        cases e
        obtain ⟨p, vs, rfl, hp, rr⟩ := ra
        obtain rfl := blL_rd _ rr z
        exact ⟨p, bs, rfl, SqL.of hp, q _ _ .refl rd_bl⟩
    | _ => cases e
theorem clr_sum (hc : X.calm = true) : CallR X (.builtin "sum") (rO X.K .sum) := clr1 (cr_sum hc) (fun ds d e => by
  match ds, e with
  | [a], _ => exact ⟨a, rfl⟩) fun {M a d v H Q} e ra q => by
    replace e : (sumD a).map D.int = some d := e
    cases a with
    | lst ds =>
      replace e : ((itL ds).map fun bs => bs.sum).map D.int = some d := e
      cases z : itL ds with
      | none => rw [z] at e; cases e
      | some bs =>
        rw [z] at e
        cases e
        obtain ⟨p, vs, rfl, hp, rr⟩ := ra
        obtain rfl := itL_rd _ rr z
        exact ⟨p, bs, rfl, SqL.of hp, q _ _ .refl rd_int⟩
    | _ => cases e
theorem clr_str : CallR X (.type "str") (rO X.K .str) := clr1 (call_str_int.or SkE.call_str_str) (fun ds d e => by
  match ds, e with
  | [a], _ => exact ⟨a, rfl⟩) fun {M a d v H Q} e ra q => by
    replace e : strD a = some d := e
    cases a with
    | int i =>
      replace e : (if i.natAbs.log2 < 1920 then some (D.str (toString i)) else none) = some d := e
      split at e
      · rename_i hz
        cases e
        obtain rfl := rv_int ra
        exact .inl ⟨i, rfl, hz, q _ _ .refl rd_str⟩
      · cases e
    | str z =>
      cases e
      obtain rfl := rv_str ra
      exact .inr ⟨z, rfl, q _ _ .refl rd_str⟩
    | _ => cases e
/-! ### ''.join(..) -/
theorem ev2_k {o : Opc} {d : D} {e : E} {q : Opd} {env : En} (h : evE C e env = .ok d env) : evE C (.op o (.cons (.e e) (.cons q .nil))) env = (evOpd C q env).bind fun y e2 => lift ((resO e2 [.inl d, y]).bind (opD o)) e2 := by
  rw [ev_op2]
  unfold ev2
  rw [show evOpd C (.e e) env = .ok (.inl d) env from by rw [evOpd, h]; rfl]
  rfl
theorem ev2_l {o : Opc} {d : D} {e : E} {q : Opd} {env : En} (h : ∀ env, evE C e env = .ok d env) : evE C (.op o (.cons q (.cons (.e e) .nil))) env = (evOpd C q env).bind fun y e2 => lift ((resO e2 [y, .inl d]).bind (opD o)) e2 := by
  rw [ev_op2]
  unfold ev2
  congr 1
  funext y e2
  rw [show evOpd C (.e e) e2 = .ok (.inl d) e2 from by rw [evOpd, h]; rfl]
  rfl
theorem snd_join {z : Str} {j : Nat} {q : Opd} (ha : SO X W a (evOpd C q)) (hs : starEach [a] X.env = [(false, eval a X.env)] := by rfl) (hbase : attributeBase (.Constant (.str z) j p) "join" X.env (eval (.Constant (.str z) j p) X.env) = eval (.Constant (.str z) j p) X.env := by rfl) (hline : (apos.endLine == pos.line) = true := by rfl) :
    SE X W (.Call (.Attribute (.Constant (.str z) j p) "join" apos) [a] [] pos) (evE C (.op .join (.cons (.e (.str z)) (.cons q .nil)))) := (pe_join pe_str ha hs hbase hline).imp fun σ H Q h => ⟨⟨z, rfl⟩, by
  obtain ⟨B, F, env, k, h⟩ := h
  rw [ev2_k (d := .str z) (by rw [evE])] at h
  refine ⟨B, F, env, k, pst_imp (pst_bind h) fun o e1 F1 H1 _ _ zz v hv => ?_⟩
  obtain ⟨_, k1, zz⟩ := zz
  obtain ⟨d, e, zz2⟩ := pst_lift zz
  cases qq : resO e1 [.inl (.str z), o] with
  | none => rw [qq] at e; cases e
  | some ds =>
    rw [qq] at e
    have r := res_rv (vs := [.str z, v]) k1 qq ⟨.str z, [v], rfl, by show rd _ _ _ _ _; rw [rd], v, [], rfl, hv, rfl⟩
    obtain ⟨d1, d2, rfl, r1, r2⟩ := rvL2 r
    replace e : joinD d1 d2 = some d := e
    unfold joinD at e
    have fin : ∀ {y : Str} {ys : List Str}, d1 = .str y → joinS y ys = some d → ∀ {P : Prop}, ((ys.map (·.length)).sum + ys.length * z.length ≤ 16777216 ∧ Q (.str (Txt.join z ys)) H1 → P) → P := fun {y ys} ey ej P hP => by
      subst ey
      have := rv_str r1
      cases this
      unfold joinS at ej
      split at ej
      · rename_i hz
        cases ej
        exact hP ⟨hz, zz2 F1 H1 .refl k1 _ rd_str⟩
      · cases ej
    split at e
    · rename_i y ds'
      cases q3 : srL ds' with
      | none => rw [q3] at e; cases e
      | some ys =>
        rw [q3] at e
        obtain ⟨pp, vs, rfl, hp, rr⟩ := r2
        obtain rfl := srL_rd _ rr q3
        exact fin rfl e fun hf => ⟨z, pp, ys, rfl, rfl, .inl (SqL.of hp), hf⟩
    · rename_i y ds'
      cases q3 : srL ds' with
      | none => rw [q3] at e; cases e
      | some ys =>
        rw [q3] at e
        obtain ⟨pp, vs, rfl, hp, rr⟩ := rv_tup r2
        obtain rfl := srL_rd _ rr q3
        exact fin rfl e fun hf => ⟨z, pp, ys, rfl, rfl, .inr (sqT_of hp), hf⟩
    · cases e⟩
/-! ### isinstance of an own class -/
structure KitT (K : PySem.W.Frag) (A : Addr) : Prop where
  cl : Cls K A
  ins : InsT K A
  kits : ∀ t ∈ ["NoneType", "bool", "int", "str", "tuple", "list", "dict"], PySem.W.kitOne K (.type t) (.ref A) = some false
def kitTB (K : PySem.W.Frag) (A : Addr) : Bool := ["NoneType", "bool", "int", "str", "tuple", "list", "dict"].all fun t => decide (PySem.W.kitOne K (.type t) (.ref A) = some false)
theorem kitTB_ok {K : PySem.W.Frag} {A : Addr} (h : kitTB K A = true) : ∀ t ∈ ["NoneType", "bool", "int", "str", "tuple", "list", "dict"], PySem.W.kitOne K (.type t) (.ref A) = some false := fun t ht => of_decide_eq_true (List.all_eq_true.mp h t ht)
theorem isio_ok {K : PySem.W.Frag} {M : Addr → Prop} {H : Hp} {c : Str} {d1 : D} {v : V} {r : Bool} {Q : VK} (hk : KitT K (ga K c)) (e : isioD d1 (.glo c) = some r) (ra : rv K M H d1 v) (q : Q (.bl r) H) : rIsi K [v, .ref (ga K c)] H Q := by
  have go : ∀ t : String, t ∈ ["NoneType", "bool", "int", "str", "tuple", "list", "dict"] → TyX K H v (.type t) → r = false → rIsi K [v, .ref (ga K c)] H Q := fun t ht ty er => by
    subst er
    exact ⟨v, .ref (ga K c), .type t, .ref (ga K c), false, rfl, .own _, ty, hk.kits t ht, q⟩
  cases d1 with
  | non =>
    cases e
    obtain rfl := rv_non ra
    exact go "NoneType" (by decide) (.base .non) rfl
  | bl b =>
    cases e
    obtain rfl := rv_bl ra
    exact go "bool" (by decide) (.base (.bl b)) rfl
  | int i =>
    cases e
    obtain rfl := rv_int ra
    exact go "int" (by decide) (.base (.int i)) rfl
  | str x =>
    cases e
    obtain rfl := rv_str ra
    exact go "str" (by decide) (.base (.str x)) rfl
  | tup ds =>
    cases e
    obtain ⟨p, vs, rfl, h1, r1⟩ := rv_tup ra
    refine go "tuple" (by decide) ?_ rfl
    rcases h1 with h1 | ⟨o, its, n, h1, h2, _⟩
    · exact .base (.tup h1.2)
    · exact .kTuple h1 h2
  | lst ds =>
    cases e
    obtain ⟨p, vs, rfl, h1, r1⟩ := ra
    exact go "list" (by decide) (.base (.lst h1)) rfl
  | dct ks ds =>
    cases e
    obtain ⟨p, vs, rfl, h1, r1⟩ := ra
    exact go "dict" (by decide) (.base (.dK h1)) rfl
  | ins c' ks ds =>
    replace e : (if c' = c then some true else none) = some r := e
    split at e
    · rename_i ec
      cases e
      subst ec
      have ra : rd K M H (.ins c' ks ds) v := ra
      rw [rd] at ra
      obtain ⟨p, dx, vs, rfl, h1, h2, h3⟩ := ra
      exact ⟨.ref p, .ref (ga K c'), .ref (ga K c'), .ref (ga K c'), true, rfl, .own _, .base (.ins h1.2 hk.cl hk.ins.ha hk.ins.hn hk.ins.htk hk.ins.hm), if_pos (beq_self_eq_true _), q⟩
    · cases e
  | _ => cases e
theorem snd_isio {c : Str} {q : Opd} (hk : KitT X.K (ga X.K c)) (hm : X.mg x = none) (gc : X.mg c = some (.ref (ga X.K c))) (ha : SO X W a (evOpd C q)) (hv : bootBuiltins x = some (.builtin "isinstance") := by decide +kernel) (hg : Gl X x := by rfl) (hn : x ≠ "__name__" := by decide) (hdb : (x == ("__debug__" : Str)) = false := by decide)
    (hg2 : Gl X c := by rfl) (hd2 : (c == ("__debug__" : Str)) = false := by decide) (he : starEach [a, .Name c p2] X.env = (false, eval a X.env) :: starEach [.Name c p2] X.env := by rfl) (he2 : starEach [.Name c p2] X.env = (false, eval (.Name c p2) X.env) :: starEach [] X.env := by rfl) (hpl : (backTo pos (starEach [.Name c p2] X.env)).any (·.1) = false := by rfl) :
    SE X W (.Call (.Name x p) [a, .Name c p2] [] pos) (evE C (.op .isio (.cons q (.cons (.e (.kst (.glo c))) .nil)))) :=
  (pe_callB call_isi hg hm hv (pa_cons ha (pa_cons (pe_gref gc hg2 hd2) pa_nil he2) he) hn hdb he hpl).imp fun σ H Q h => by
  obtain ⟨B, F, env, k, h⟩ := h
  rw [ev2_l (d := .glo c) (fun env => by rw [evE])] at h
  refine ⟨B, F, env, k, pst_imp (pst_bind h) fun o e1 F1 H1 _ _ zz v hv => ?_⟩
  obtain ⟨_, k1, zz⟩ := zz
  obtain ⟨d, e, zz2⟩ := pst_lift zz
  cases qq : resO e1 [o, .inl (.glo c)] with
  | none => rw [qq] at e; cases e
  | some ds =>
    rw [qq] at e
    have r := res_rv (vs := [v, .ref (ga X.K c)]) k1 qq ⟨v, [_], rfl, hv, _, [], rfl, by show rd _ _ _ _ _; rw [rd], rfl⟩
    obtain ⟨d1, d2, rfl, r1, r2⟩ := rvL2 r
    have ed2 : d2 = .glo c := by
      cases o with
      | inl d' => rw [resO, resO, resO] at qq; cases qq; rfl
      | inr i =>
        rw [resO] at qq
        cases z : view e1 i with
        | none => rw [z] at qq; cases qq
        | some d' => rw [z, resO, resO] at qq; cases qq; rfl
    subst ed2
    replace e : (isioD d1 (.glo c)).map D.bl = some d := e
    cases z : isioD d1 (.glo c) with
    | none => rw [z] at e; cases e
    | some r' =>
      rw [z] at e
      cases e
      exact isio_ok hk z r1 (zz2 F1 H1 .refl k1 _ rd_bl)
end
end Ev
namespace Ev
open PySem PySem.Spec PyProof.Rows L2 He Gw
theorem sortI_of {ns ns' : List Int} (p : ns'.Perm ns) (h : ns'.Pairwise (· ≤ ·)) : ns' = sortI ns := by
  refine List.Perm.eq_of_pairwise (le := (· ≤ ·)) (fun a b _ _ h1 h2 => Int.le_antisymm h1 h2) h ?_ (p.trans (List.mergeSort_perm ns _).symm)
  have := List.pairwise_mergeSort (le := fun a b : Int => decide (a ≤ b)) (fun a b c h1 h2 => decide_eq_true (Int.le_trans (of_decide_eq_true h1) (of_decide_eq_true h2))) (fun a b => by
    rcases Int.le_total a b with h | h
    · rw [decide_eq_true h]; rfl
    · rw [decide_eq_true h, Bool.or_true]) ns
  exact this.imp fun h => of_decide_eq_true h
theorem rdL_intsS {K : PySem.W.Frag} {M : Addr → Prop} {H : Hp} (ns : List Int) : rdL K M H (ns.map D.int) (ns.map V.int) := by
  induction ns with
  | nil => exact show rdL K M H [] [] by rw [rdL]
  | cons n ns ih => exact show rdL K M H (.int n :: ns.map D.int) (V.int n :: ns.map V.int) by rw [rdL]; exact ⟨_, _, rfl, rd_int, ih⟩
theorem clr_sorted {X : Cx} : CallR X (.builtin "sorted") (rO X.K .sorted) := by
  intro pins s σ H xs us Q I r h
  obtain ⟨M, ds, d, al, rs, e, q⟩ := h
  match ds, e with
  | [a], e =>
    obtain ⟨v, r', rfl, ra, rfl⟩ := rs
    replace e : sortedD a = some d := e
    unfold sortedD at e
    split at e
    · rename_i ds
      cases z : itL ds with
      | none => rw [z] at e; cases e
      | some ns =>
        rw [z] at e
        cases e
        obtain ⟨p, vs, rfl, hp, rr⟩ := ra
        obtain rfl := itL_rd _ rr z
        refine cr_sortedI pins s σ H _ us Q I r ⟨p, ns, rfl, SqL.of hp, fun ns' t h1 h2 ht => ?_⟩
        obtain rfl := sortI_of h1 h2
        exact q _ _ (grow_upd ht) (new_lst al ht (rdL_intsS _))
    · cases e
theorem minI_of {ns : List Int} {m : Int} (h1 : m ∈ ns) (h2 : ∀ y, y ∈ ns → m ≤ y) : ns.min? = some m := List.min?_eq_some_iff.mpr ⟨h1, h2⟩
theorem maxI_of {ns : List Int} {m : Int} (h1 : m ∈ ns) (h2 : ∀ y, y ∈ ns → y ≤ m) : ns.max? = some m := List.max?_eq_some_iff.mpr ⟨h1, h2⟩
theorem clr_min {X : Cx} (hc : X.calm = true) : CallR X (.builtin "min") (rO X.K .min) := clr1 (cr_min hc) (fun ds d e => by
  match ds, e with
  | [a], _ => exact ⟨a, rfl⟩) fun {M a d v H Q} e ra q => by
    replace e : minD a = some d := e
    cases a with
    | lst ds =>
      replace e : ((itL ds).bind fun ns => ns.min?.map D.int) = some d := e
      cases z : itL ds with
      | none => rw [z] at e; cases e
      | some bs =>
        rw [z] at e
        replace e : bs.min?.map D.int = some d := e
        obtain ⟨p, vs, rfl, hp, rr⟩ := ra
        obtain rfl := itL_rd _ rr z
        refine ⟨p, bs, rfl, SqL.of hp, ?_, fun m h1 h2 => ?_⟩
        · cases bs with
          | nil => cases e
          | cons _ _ => exact Nat.succ_pos _
        · rw [minI_of h1 h2] at e
          cases e
          exact q _ _ .refl rd_int
    | _ => cases e
theorem clr_max {X : Cx} (hc : X.calm = true) : CallR X (.builtin "max") (rO X.K .max) := clr1 (cr_max hc) (fun ds d e => by
  match ds, e with
  | [a], _ => exact ⟨a, rfl⟩) fun {M a d v H Q} e ra q => by
    replace e : maxD a = some d := e
    cases a with
    | lst ds =>
      replace e : ((itL ds).bind fun ns => ns.max?.map D.int) = some d := e
      cases z : itL ds with
      | none => rw [z] at e; cases e
      | some bs =>
        rw [z] at e
        replace e : bs.max?.map D.int = some d := e
        obtain ⟨p, vs, rfl, hp, rr⟩ := ra
        obtain rfl := itL_rd _ rr z
        refine ⟨p, bs, rfl, SqL.of hp, ?_, fun m h1 h2 => ?_⟩
        · cases bs with
          | nil => cases e
          | cons _ _ => exact Nat.succ_pos _
        · rw [maxI_of h1 h2] at e
          cases e
          exact q _ _ .refl rd_int
    | _ => cases e
theorem clr_divmod {X : Cx} : CallR X (.builtin "divmod") (rO X.K .divmod) := by
  intro pins s σ H xs us Q I r h
  obtain ⟨M, ds, d, al, rs, e, q⟩ := h
  match ds, e with
  | [a, b], e =>
    obtain ⟨v, r', rfl, ra, v2, r2, rfl, rb, rfl⟩ := rs
    obtain ⟨i, j, rfl, rfl, e2⟩ := intB_some (show intB (fun i j => if 0 < j ∧ j < 1073741824 then some (.tup [.int (i / j), .int (i % j)]) else none) a b = some d from e)
    obtain rfl := rv_int ra
    obtain rfl := rv_int rb

    split at e2
    · rename_i h
      cases e2
      refine call_divmod pins s σ H _ us Q I r ⟨i, j, rfl, h, fun p hp => q _ _ (grow_upd hp) (new_tup al hp ?_)⟩
      rw [rdL]
      exact ⟨_, _, rfl, rd_int, rdL_one rd_int⟩
    · cases e2
end Ev

set_option Elab.async false
set_option linter.all false
set_option maxRecDepth 100000
set_option maxHeartbeats 4000000
namespace Ev
open PySem PySem.Spec PyProof.Rows L2 He Gw
section
variable {X : Cx} {W : WX} {C : Ct} {pn : Nat → Bool} {pos p p1 p2 np pos' : Pos} {x n c f : Str} {i : Nat} {bs : List Stmt} {bd : SL}
theorem rt_of {K : PySem.W.Frag} {B : Addr → Prop} {F F' : Fp} {H H' : Hp} {σ σ' : L2.St} {env e1 : En} {Y : Ends} {xx : Xc} {dd : Addr} {vs : List V} {k : Option D} (h : sst K W pn B σ F H Y (evH C pn (.ret c i f k .nil) xx env)) (q : C.isa xx.c c = some true) (s : Stp F H F' H') (g : Sg pn σ σ') (kk : Ok K B F' H' σ' env) (r : rdL K (av B F') H' xx.ds vs) :
    xx.c = c ∧ i < env.length ∧ ∃ v d, (xx.ks.zip vs).lookup f = some v ∧ rd K (av B F') H' d v ∧ ∀ u H2, Grow H' H2 → rd K (av B F') H2 (xrD k d) u → Y.rt u H2 := by
  unfold evH at h
  rw [q] at h
  dsimp only at h
  split at h
  · rename_i hh
    split at h
    · rename_i d hd
      obtain ⟨v, e, ru⟩ := look_rd r hd
      exact ⟨hh.1, hh.2, v, d, e, ru, fun u H2 gr ru2 => h σ' F' H2 u [] ((Got.fz (kk.grow gr) ru2).from (s.trans (Stp.grow gr))) g⟩
    · exact h.elim
  · exact h.elim
/-- one handler with a name, which returns a field -/
theorem ss_tryx {te : Addr → Value → Option Addr → TE} {e : Expr} {k : Option D} (hI : IsaOk X.K C) (hst : X.stack = X.env :: X.outer) (hf : X.env.frame = some X.env.locals) (hN : X.N.Nodup) (hi : X.N[i]? = some n) (hln : X.env.kindOf n = some .local) (hc : Names X x (.ref (ga X.K c))) (tk : Takes X W)
    (hb : ∀ (W : WX) (pns : List (Addr × Obj)) (xe : Value → Shared → Prop), Takes (X.tr pns xe) W → PassesOwn (model X.prog X.w) X.A X.env xe → SSs (X.tr pns xe) W pn bs (evSL C pn bd))
    (he : ∀ (a : Addr) (oe : Obj) (cls : Value) (d : Option Addr) (pns : List (Addr × Obj)), Zc cls d oe → (∃ vs, oe.data = .fields vs) → PE (X.suite a ((a, oe) :: pns)) e (te a cls d))
    (hte : ∀ (a dd : Addr) (fs : List (Str × V)) (v : V) (d : D) (M : Addr → Prop) (σ : L2.St) (H : Hp) (Q : VK), (∀ b, M b → H b ≠ none) → σ[i]? = some (some (.ref a)) → H dd = some (.xd fs) → fs.lookup f = some v → rd X.K M H d v → (∀ u H2, Grow H H2 → rd X.K M H2 (xrD k d) u → Q u H2) → te a (.ref (ga X.K c)) (some dd) σ H Q) :
    SS X W pn (.Try bs [.ExceptHandler (some (.Name x np)) (some n) [.Return (some e) p1] pos'] [] [] pos) (evS C pn (.try_ bd (.ret c i f k .nil))) :=
  (ps_try_as (i := i) (tb := fun W => tS X.K W pn (evSL C pn bd)) (ts := fun a cls d => tRet (te a cls d)) (Wout := W) hst hf hN hi hln hc tk hb fun a oe cls d pns hz hd => pss_one (ps_ret (he a oe cls d pns hz hd))).imp fun Y σ H h => by
  obtain ⟨B, F, env, k1, h⟩ := h
  rw [evS] at h
  refine ⟨B, F, env, k1, ?_⟩
  cases z : evSL C pn bd env with
  | ok fl e1 =>
    rw [z] at h
    cases fl with
    | nx => exact h
    | bk => exact h
    | ct => exact h
    | rt w => exact h
  | stuck => rw [z] at h; exact h.elim
  | exc xx e1 =>
    rw [z] at h
    intro σ' F' H' cls dx s k' g xr
    obtain ⟨rfl, xr2⟩ := id xr
    cases q : C.isa xx.c c with
    | none =>
      replace h : sst X.K W pn B σ F H Y (evH C pn (.ret c i f k .nil) xx e1) := h
      unfold evH at h
      rw [q] at h
      exact h.elim
    | some r =>
      refine ⟨r, hI _ _ _ q, fun er a ha => ?_, fun er => ?_⟩
      · subst er
        rcases xr2 with ⟨rfl, hks⟩ | ⟨dd, vs, rfl, hd, hl, rr⟩
        · replace h : sst X.K W pn B σ F H Y (evH C pn (.ret c i f k .nil) xx e1) := h
          unfold evH at h
          rw [q] at h
          dsimp only at h
          split at h
          · rw [hks] at h
            exact h.elim
          · exact h.elim
        · obtain ⟨ec, hil, v, d, e2, ru, fin⟩ := rt_of (e1 := e1) (dd := dd) h q s g k' rr
          rw [ec]
          refine hte a dd _ v d (av B F') _ H' Y.rt k'.there ?_ hd e2 ru fin
          rw [List.getElem?_set_self (by rw [← k'.len]; exact hil)]
      · subst er
        replace h : sst X.K W pn B σ F H Y (evH C pn (.ret c i f k .nil) xx e1) := h
        unfold evH at h
        rw [q] at h
        replace h : sst X.K W pn B σ F H Y (evH C pn .nil xx e1) := h
        rw [evH] at h
        exact h σ' F' H' _ dx s k' g xr
theorem x_tryF {pa : Pos} (hI : IsaOk X.K C) (T : XfC X.K (ga X.K c)) (hno : NoAttr X.K (ga X.K c) f) (hst : X.stack = X.env :: X.outer) (hf : X.env.frame = some X.env.locals) (hN : X.N.Nodup) (hi : X.N[i]? = some n) (hln : X.env.kindOf n = some .local) (hc : Names X x (.ref (ga X.K c))) (tk : Takes X W)
    (hb : ∀ (W : WX) (pns : List (Addr × Obj)) (xe : Value → Shared → Prop), Takes (X.tr pns xe) W → PassesOwn (model X.prog X.w) X.A X.env xe → SSs (X.tr pns xe) W pn bs (evSL C pn bd))
    (hv : Vis X.env.scope n := by first | exact .inl rfl | exact .inr (.inl rfl) | exact .inr (.inr rfl)) (hd : (n == ("__debug__" : Str)) = false := by decide) (hcd : (n == ("__classdict__" : Str)) = false := by decide)
    (hba : ∀ a pns, attributeBase (.Name n p) f (X.suite a pns).env (eval (.Name n p) (X.suite a pns).env) = eval (.Name n p) (X.suite a pns).env := by exact fun _ _ => rfl) :
    SS X W pn (.Try bs [.ExceptHandler (some (.Name x np)) (some n) [.Return (some (.Attribute (.Name n p) f pa)) p1] pos'] [] [] pos) (evS C pn (.try_ bd (.ret c i f none .nil))) :=
  ss_tryx (te := fun a cls d => tXf a cls d (ga X.K c) f (tVar i)) hI hst hf hN hi hln hc tk hb (fun a oe cls d pns hz hfd => pe_xf T hno hz hfd (pe_var hi hv hd hcd) (hba a ((a, oe) :: pns))) fun a dd fs v d M σ H Q al hσ hd hl hr q =>
    ⟨_, hσ, rfl, rfl, dd, fs, v, rfl, hd, hl, q v H .refl hr⟩
theorem x_tryP {pa : Pos} {d1 : D} {v1 : V} {ec : Expr} {nt : Nat} {pt : Pos} (hI : IsaOk X.K C) (T : XfC X.K (ga X.K c)) (hno : NoAttr X.K (ga X.K c) f) (hst : X.stack = X.env :: X.outer) (hf : X.env.frame = some X.env.locals) (hN : X.N.Nodup) (hi : X.N[i]? = some n) (hln : X.env.kindOf n = some .local) (hc : Names X x (.ref (ga X.K c))) (tk : Takes X W)
    (hk : ∀ a pns, PE (X.suite a pns) ec (tC v1)) (hr1 : ∀ M H, rd X.K M H d1 v1)
    (hb : ∀ (W : WX) (pns : List (Addr × Obj)) (xe : Value → Shared → Prop), Takes (X.tr pns xe) W → PassesOwn (model X.prog X.w) X.A X.env xe → SSs (X.tr pns xe) W pn bs (evSL C pn bd))
    (hv : Vis X.env.scope n := by first | exact .inl rfl | exact .inr (.inl rfl) | exact .inr (.inr rfl)) (hd : (n == ("__debug__" : Str)) = false := by decide) (hcd : (n == ("__classdict__" : Str)) = false := by decide)
    (hba : ∀ a pns, attributeBase (.Name n p) f (X.suite a pns).env (eval (.Name n p) (X.suite a pns).env) = eval (.Name n p) (X.suite a pns).env := by exact fun _ _ => rfl)
    (hs1 : ∀ env, starEach [ec, .Attribute (.Name n p) f pa] env = (false, eval ec env) :: starEach [.Attribute (.Name n p) f pa] env := by exact fun _ => rfl) (hs2 : ∀ env, starEach [.Attribute (.Name n p) f pa] env = (false, eval (.Attribute (.Name n p) f pa) env) :: starEach [] env := by exact fun _ => rfl) :
    SS X W pn (.Try bs [.ExceptHandler (some (.Name x np)) (some n) [.Return (some (.Tuple [ec, .Attribute (.Name n p) f pa] nt pt)) p1] pos'] [] [] pos) (evS C pn (.try_ bd (.ret c i f (some d1) .nil))) :=
  ss_tryx hI hst hf hN hi hln hc tk hb (fun a oe cls d pns hz hfd => pe_tup (pa_cons (hk a _) (pa_cons (pe_xf T hno hz hfd (pe_var hi hv hd hcd) (hba a ((a, oe) :: pns))) pa_nil (hs2 _)) (hs1 _))) fun a dd fs v d M σ H Q al hσ hd hl hr q => by
  refine ⟨_, hσ, rfl, rfl, dd, fs, v, rfl, hd, hl, ?_⟩
  refine ⟨?_, fun p hp => q _ _ (grow_upd hp) (new_tup al hp ?_)⟩
  · exact sz_b rfl
  · rw [rdL]
    exact ⟨v1, _, rfl, hr1 _ _, rdL_one hr⟩
end
end Ev

set_option Elab.async false
set_option linter.all false
set_option maxRecDepth 100000
set_option maxHeartbeats 4000000
namespace Ev
open PySem PySem.Spec PyProof.Rows L2 He Gw
theorem merge_app : ∀ (more acc : List (L2.Key × V)), ((acc ++ more).map (·.1)).Nodup → mergeK acc more = acc ++ more
  | [], acc, _ => by rw [List.append_nil]; rfl
  | p :: r, acc, h => by
    have hp : (acc.any fun kv => decide (kv.1 = p.1)) = false := by
      rw [List.any_eq_false]
      intro q hq z
      have z := of_decide_eq_true z
      rw [List.map_append, List.nodup_append] at h
      exact h.2.2 q.1 (List.mem_map_of_mem hq) p.1 (by rw [List.map_cons]; exact List.mem_cons_self) z
    have e : L2.putK acc p.1 p.2 = acc ++ [p] := by
      unfold L2.putK
      rw [hp, if_neg Bool.false_ne_true]
    show mergeK (L2.putK acc p.1 p.2) r = _
    rw [e, merge_app r (acc ++ [p]) (by rw [List.append_assoc]; exact h), List.append_assoc]
    rfl
def trsOf (K : PySem.W.Frag) (W : WX) (C : Ct) : List L2.Key → EL → List (TE × TE)
  | k :: ks, .cons e es => (tC (kV k), tE K W (evE C e)) :: trsOf K W C ks es
  | _, _ => []
section
variable {X : Cx} {W : WX} {C : Ct} {pos : Pos}
theorem pairs_of {K : PySem.W.Frag} {B : Addr → Prop} {σ : L2.St} {p : Addr} : ∀ (ks : List L2.Key) (es : EL) (env : En) (F : Fp) (H : Hp) (Q : List (V × V) → Hp → Prop), ks.length = es.len → Ok K (fun a => B a ∨ a = p) F H σ env → H p = some (.dK []) →
    (match evL C es env with
      | .ok ds e1 => ∀ F' H' vs, Stp F H F' H' → Ok K (fun a => B a ∨ a = p) F' H' σ e1 → H' p = some (.dK []) → rdL K (av (fun a => B a ∨ a = p) F') H' ds vs → Q ((ks.map kV).zip vs) H'
      | .exc x e1 => ∀ F' H' cls dx, Stp F H F' H' → Ok K B F' H' σ e1 → XR K (av B F') H' x cls dx → W cls dx σ H'
      | .stuck => False) → tPairs (trsOf K W C ks es) σ H Q
  | [], .nil, env, F, H, Q, _, k, hd, h => by
    rw [evL] at h
    exact h F H [] .refl k hd (by rw [rdL])
  | [], .cons _ _, _, _, _, _, l, _, _, _ => by simp [EL.len] at l
  | _ :: _, .nil, _, _, _, _, l, _, _, _ => by simp [EL.len] at l
  | kk :: ks, .cons e es, env, F, H, Q, l, k, hd, h => by
    rw [evL] at h
    show tE K W (evE C e) σ H _
    refine ⟨_, F, env, k, ?_⟩
    cases z : evE C e env with
    | stuck => rw [z] at h; exact h.elim
    | exc x e1 =>
      rw [z] at h
      exact fun F' H' cls dx s' k' xr => h F' H' cls dx s' (k'.less fun a => .inl) (xr.less fun a q => q.imp .inl id)
    | ok d e1 =>
      rw [z] at h
      intro F1 H1 s1 k1 v hv
      have hd1 : H1 p = some (.dK []) := s1.keep p _ (k.sep p (.inr rfl)) hd
      refine pairs_of ks es e1 F1 H1 _ (by simpa [EL.len] using l) k1 hd1 ?_
      dsimp only [R.bind] at h
      cases z2 : evL C es e1 with
      | stuck => rw [z2] at h; exact h.elim
      | exc x e2 => rw [z2] at h; exact fun F' H' cls dx s' k' xr => h F' H' cls dx (s1.trans s') k' xr
      | ok ds e2 =>
        rw [z2] at h
        exact fun F' H' vs s' k' hd' r => h F' H' (v :: vs) (s1.trans s') k' hd' (by rw [rdL]; exact ⟨v, vs, rfl, s'.rd hv, r⟩)
theorem snd_dlt {ks : List L2.Key} {es : EL} {keys : List (Option Expr)} {values : List Expr} (hl : ks.length = es.len) (h : PPs X pos keys values (trsOf X.K W C ks es)) (hall : keys.all (·.isSome) = true) (hk : keys.length = values.length) (h0 : keys ≠ []) (h15 : keys.length ≤ 15) (hn : ks.Nodup) (hlt : ks.length ≤ 15) :
    SE X W (.Dict keys values pos) (evE C (.dlt ks es)) := (pe_disp h hall hk h0 h15).imp fun σ H Q h => by
  obtain ⟨B, F, env, k, h⟩ := h
  rw [evE] at h
  intro p hp
  have kp : Ok X.K (fun a => B a ∨ a = p) F (upd H p (.dK [])) σ env := by
    have kg := k.grow (grow_upd (o := .dK []) hp)
    refine ⟨k.len, fun i w e => ?_, k.nd, k.dj, fun a h => ?_, fun a h z => ?_⟩
    · obtain ⟨v, e1, r⟩ := k.at_ i w e
      exact ⟨v, e1, rw_stay ⟨fun a o _ e => grow_upd hp a o e, fun a h => by
        rcases h with (h | h) | h
        · exact .inl (.inl h)
        · exact .inr (by rw [h]; exact hp)
        · exact .inl (.inr h)⟩ w v (F i) (fun a ha => upd_ne fun z => k.there a (.inr ⟨i, ha⟩) (by rw [z]; exact hp)) r⟩
    · rcases h with (h | h) | h
      · exact kg.there a (.inl h)
      · rw [h, upd_same]; exact fun z => nomatch z
      · exact kg.there a (.inr h)
    · rcases h with h | h
      · exact k.sep a h z
      · rw [h] at z; exact k.there p (.inr z) hp
  refine pairs_of ks es env F _ _ hl kp upd_same ?_
  cases z : evL C es env with
  | stuck => rw [z] at h; exact h.elim
  | exc x e1 => rw [z] at h; exact fun F' H' cls dx s' k' xr => h F' H' cls dx ((Stp.upd hp).trans s') k' xr
  | ok ds e1 =>
    rw [z] at h
    intro F' H' vs s' k' hd r
    dsimp only [R.bind] at h
    split at h
    · rename_i hq
      have lv : ks.length = vs.length := by rw [hq, rdL_len r]
      refine ⟨hd, ks.zip vs, ?_, ?_, ?_⟩
      · rw [List.zip_map_left]
        rfl
      · rw [List.length_zip]; omega
      · rw [merge_app (ks.zip vs) [] (by rw [List.nil_append, List.map_fst_zip (by omega)]; exact hn), List.nil_append]
        have other : ∀ a, a ≠ p → upd H' p (.dK (ks.zip vs)) a = H' a := fun a n => upd_ne n
        have kq := k'.poke (p := p) (.inr rfl) other (by rw [upd_same]; exact fun z => nomatch z)
        have sq : Stp F H F' (upd H' p (.dK (ks.zip vs))) := by
          have s2 := (Stp.upd (F := F) (o := .dK []) hp).trans s'
          exact ⟨fun a o n e => by rw [other a (ne_of_none e hp)]; exact s2.keep a o n e, s2.new⟩
        refine h F' _ sq (kq.less fun a => .inl) (.ref p) ?_
        rw [rd]
        refine ⟨p, vs, rfl, ⟨fun q => ?_, upd_same⟩, lv, rdL_less (fun a q => q.imp .inl id) (rdL_poke (.inr rfl) other r)⟩
        rcases q with q | q
        · exact k.there p (.inl q) hp
        · exact k'.sep p (.inr rfl) q
    · exact h.elim
theorem snd_dnil : SE X W (.Dict [] [] pos) (evE C (.dlt [] .nil)) := pe_dnewK.imp fun σ H Q h => by
  obtain ⟨B, F, env, k, h⟩ := h
  rw [evE, evL] at h
  intro p hp
  replace h : pst X.K W B σ F H (fun d _ F' H' => ∀ v, rd X.K (av B F') H' d v → Q v H') (.ok (.dct [] []) env) := h
  refine h F _ (Stp.upd hp) (k.grow (grow_upd hp)) (.ref p) ?_
  rw [rd]
  exact ⟨p, [], rfl, ⟨fun q => k.there p q hp, upd_same⟩, rfl, by rw [rdL]⟩
/-! ### a new list of one's own: xs + ys, xs * n -/
theorem two_W {o : Opc} {p q : Opd} {σ : L2.St} {H : Hp} {Q : VK} {rr : R2} (hev : ∀ env, evW C (.op o (.cons p (.cons q .nil))) env = (evE C (.op o (.cons p (.cons q .nil))) env).bind fun d e => lift (thaw d) e)
    (hr : ∀ {B : Addr → Prop} {F F2 : Fp} {H H2 : Hp} {e2 : En} {d1 d2 : D} {x y : V}, Ok X.K B F2 H2 σ e2 → rv X.K (av B F2) H2 d1 x → rv X.K (av B F2) H2 d2 y → pstW X.K W B σ F2 H2 Q (lift ((opD o [d1, d2]).bind thaw) e2) → rr x y H2 Q) (h : tW X.K W (evW C (.op o (.cons p (.cons q .nil)))) σ H Q) :
    tOd X.K W (evOpd C p) σ H fun x H1 => tOd X.K W (evOpd C q) σ H1 fun y H2 => rr x y H2 Q := by
  obtain ⟨B, F, env, k, h⟩ := h
  rw [hev, ev_op2] at h
  unfold ev2 at h
  simp only [R.bind_assoc] at h
  refine ⟨B, F, env, k, pst_imp (pstW_bind h) fun x e1 F1 H1 _ _ z v hv => ?_⟩
  obtain ⟨_, k1, z⟩ := z
  refine ⟨B, F1, e1, k1, pst_imp (pstW_bind z) fun y e2 F2 H2 s2 _ z2 u hu => ?_⟩
  obtain ⟨_, k2, z2⟩ := z2
  cases qq : resO e2 [x, y] with
  | none => rw [qq] at z2; exact z2.elim
  | some ds =>
    rw [qq] at z2
    have r := res_rv (vs := [v, u]) k2 qq ⟨v, [u], rfl, ov_stp s2 hv, u, [], rfl, hu, rfl⟩
    obtain ⟨d1, d2, rfl, r1, r2⟩ := rvL2 r
    refine hr (H := H) (F := F) k2 r1 r2 ?_
    cases q3 : opD o [d1, d2] with
    | none => rw [show (some [d1, d2]).bind (opD o) = opD o [d1, d2] from rfl, q3] at z2; exact z2.elim
    | some d => rw [show (some [d1, d2]).bind (opD o) = opD o [d1, d2] from rfl, q3] at z2; exact z2
theorem swv_add {a b : Expr} {p q : Opd} (ha : SO X W a (evOpd C p)) (hb : SO X W b (evOpd C q)) : SWv X W (.BinOp a .Add b pos) (evW C (.op .add (.cons p (.cons q .nil)))) := (pe_op op_cat ha hb).imp fun σ H Q h => two_W (fun env => by rw [evW]) (fun {B F F2 H H2 e2 d1 d2 x y} k r1 r2 z => by
  obtain ⟨w, e, z⟩ : ∃ w, (addD d1 d2).bind thaw = some w ∧ pstW X.K W B σ F2 H2 Q (.ok w e2) := by
    cases q : (addD d1 d2).bind thaw with
    | none =>
      replace z : pstW X.K W B σ F2 H2 Q (lift ((addD d1 d2).bind thaw) e2) := z
      rw [q] at z
      exact z.elim
    | some w =>
      replace z : pstW X.K W B σ F2 H2 Q (lift ((addD d1 d2).bind thaw) e2) := z
      rw [q] at z
      exact ⟨w, rfl, z⟩
  unfold addD at e
  split at e
  · cases e
  · split at e <;> cases e
  · split at e <;> cases e
  · rename_i xs ys
    split at e
    · rename_i hz
      cases e
      obtain ⟨l, vs, rfl, h1, rr1⟩ := r1
      obtain ⟨l2, us, rfl, h2, rr2⟩ := r2
      exact ⟨l, l2, vs, us, rfl, rfl, h1, h2, by rw [← rdL_len rr1, ← rdL_len rr2]; exact hz, fun t ht => z F2 _ _ _ (Got.list k ht (rdL_app rr1 rr2))⟩
    · cases e
  · cases e) h
theorem swv_mul {a b : Expr} {p q : Opd} (ha : SO X W a (evOpd C p)) (hb : SO X W b (evOpd C q)) : SWv X W (.BinOp a .Mult b pos) (evW C (.op .mul (.cons p (.cons q .nil)))) := (pe_op op_rep ha hb).imp fun σ H Q h => two_W (fun env => by rw [evW]) (fun {B F F2 H H2 e2 d1 d2 x y} k r1 r2 z => by
  obtain ⟨w, e, z⟩ : ∃ w, (mulD d1 d2).bind thaw = some w ∧ pstW X.K W B σ F2 H2 Q (.ok w e2) := by
    cases q : (mulD d1 d2).bind thaw with
    | none =>
      replace z : pstW X.K W B σ F2 H2 Q (lift ((mulD d1 d2).bind thaw) e2) := z
      rw [q] at z
      exact z.elim
    | some w =>
      replace z : pstW X.K W B σ F2 H2 Q (lift ((mulD d1 d2).bind thaw) e2) := z
      rw [q] at z
      exact ⟨w, rfl, z⟩
  unfold mulD at e
  split at e
  · split at e <;> cases e
  · rename_i xs kk
    split at e
    · rename_i hz
      cases e
      obtain ⟨l, vs, rfl, h1, rr1⟩ := r1
      obtain rfl := rv_int r2
      refine ⟨l, kk, vs, rfl, rfl, h1, hz.1, hz.2.1, by rw [← rdL_len rr1]; exact hz.2.2, fun t ht => z F2 _ _ _ (Got.list k ht ?_)⟩
      generalize kk.toNat = n
      induction n with
      | zero => exact show rdL X.K _ _ [] [] by rw [rdL]
      | succ n ih => exact rdL_app rr1 ih
    · cases e
  · split at e <;> cases e
  · cases e) h
end
end Ev

set_option Elab.async false
set_option linter.all false
set_option maxRecDepth 100000
set_option maxHeartbeats 4000000
namespace Ev
open PySem PySem.Spec PyProof.Rows L2 He Gw
theorem keyD_rd {K : PySem.W.Frag} {M : Addr → Prop} {H : Hp} {d : D} {v : V} {k : L2.Key} (e : keyD d = some k) (r : rv K M H d v) : v = kV k := by
  cases d with
  | int i => cases e; exact rv_int r
  | str x => cases e; exact rv_str r
  | _ => cases e
theorem val_rd {K : PySem.W.Frag} {M : Addr → Prop} {H : Hp} {k : L2.Key} : ∀ {ks : List L2.Key} {ds : List D} {vs : List V}, ks.length = vs.length → rdL K M H ds vs → (valD ks ds k).isSome = (valV (ks.zip vs) k).isSome ∧ ∀ d, valD ks ds k = some d → ∃ v, valV (ks.zip vs) k = some v ∧ rd K M H d v
  | [], _, _, _, _ => ⟨rfl, fun d e => by cases e⟩
  | _ :: _, [], _, l, r => by rw [rdL] at r; subst r; simp at l
  | kk :: ks, d :: ds, _, l, r => by
    rw [rdL] at r
    obtain ⟨v, vs, rfl, r1, r2⟩ := r
    have ih := val_rd (k := k) (ks := ks) (by simpa using l) r2
    unfold valD valV at ih ⊢
    rw [List.zip_cons_cons, List.zip_cons_cons, List.find?_cons, List.find?_cons]
    by_cases e : kk = k
    · simp only [e, decide_true]
      exact ⟨rfl, fun d' z => by cases z; exact ⟨v, rfl, r1⟩⟩
    · simp only [e, decide_false]
      exact ih
section
variable {X : Cx} {W : WX} {C : Ct} {a b : Expr} {pos : Pos} {p q : Opd}
theorem two_E {o : Opc} {σ : L2.St} {H : Hp} {Q : VK} (h : tE X.K W (evE C (.op o (.cons p (.cons q .nil)))) σ H Q) : tOd X.K W (evOpd C p) σ H fun x H1 => tOd X.K W (evOpd C q) σ H1 fun y H2 => rO X.K o [x, y] H2 Q := by
  rw [ev_op2] at h
  exact two_of h
theorem x_dget (hu : X.A.units + 64 < cLine) (ha : SO X W a (evOpd C p)) (hb : SO X W b (evOpd C q)) (hs : NoSl b := by exact fun _ _ => rfl) : SE X W (.Subscript a b pos) (evE C (.op .dget (.cons p (.cons q .nil)))) := (pe_dget (by omega) ha hb hs).imp fun σ H Q h => by
  obtain ⟨B, F, env, k, h⟩ := two_E h
  refine ⟨B, F, env, k, pst_imp h fun x e1 F1 H1 s1 k1 z v hv => ?_⟩
  obtain ⟨B2, F2, env2, k2, h2⟩ := z v hv
  refine ⟨B2, F2, env2, k2, pst_imp h2 fun y e2 F3 H3 s3 k3 z u hu => ?_⟩
  obtain ⟨M, ds, d, al, r, e, q⟩ := z u hu
  obtain ⟨d1, d2, rfl, r1, r2⟩ := rvL2 r
  replace e : dgetD d1 d2 = some d := e
  unfold dgetD at e
  split at e
  · rename_i ks ds
    cases q2 : keyD d2 with
    | none => rw [q2] at e; cases e
    | some kk =>
      rw [q2] at e
      obtain rfl := keyD_rd q2 r2
      obtain ⟨l, vs, rfl, hl, ll, rr⟩ := r1
      obtain ⟨v', e', rv'⟩ := (val_rd ll rr).2 d e
      exact ⟨l, v', rfl, .inl ⟨_, kk, .inl hl, rfl, e'.symm⟩, q v' _ .refl rv'⟩
  · cases e
theorem din_of {K : PySem.W.Frag} {M : Addr → Prop} {H : Hp} {d1 d2 : D} {x y : V} {r : Bool} (e : dinD d1 d2 = some r) (r1 : rv K M H d1 x) (r2 : rv K M H d2 y) : ∃ a o, y = .ref a ∧ DGet H a x o ∧ r = o.isSome := by
  unfold dinD at e
  split at e
  · rename_i ks ds
    cases q2 : keyD d1 with
    | none => rw [q2] at e; cases e
    | some kk =>
      rw [q2] at e
      cases e
      obtain rfl := keyD_rd q2 r1
      obtain ⟨l, vs, rfl, hl, ll, rr⟩ := r2
      exact ⟨l, _, rfl, .inl ⟨_, kk, .inl hl, rfl, rfl⟩, (val_rd ll rr).1⟩
  · cases e
theorem din_in {o : Opc} {f : Bool → Bool} {σ : L2.St} {H : Hp} {Q : VK} (ho : ∀ d1 d2, opD o [d1, d2] = (dinD d1 d2).map fun r => .bl (f r)) (h : tE X.K W (evE C (.op o (.cons p (.cons q .nil)))) σ H Q) :
    tOd X.K W (evOpd C p) σ H fun y H1 => tOd X.K W (evOpd C q) σ H1 fun x H2 => ∃ a o, x = .ref a ∧ DGet H2 a y o ∧ Q (.bl (f o.isSome)) H2 := by
  obtain ⟨B, F, env, k, h⟩ := two_E h
  refine ⟨B, F, env, k, pst_imp h fun x e1 F1 H1 s1 k1 z v hv => ?_⟩
  obtain ⟨B2, F2, env2, k2, h2⟩ := z v hv
  refine ⟨B2, F2, env2, k2, pst_imp h2 fun y e2 F3 H3 s3 k3 z u hu => ?_⟩
  obtain ⟨M, ds, d, al, r, e, q⟩ := z u hu
  obtain ⟨d1, d2, rfl, r1, r2⟩ := rvL2 r
  rw [ho] at e
  cases q2 : dinD d1 d2 with
  | none => rw [q2] at e; cases e
  | some r =>
    rw [q2] at e
    cases e
    obtain ⟨a, oo, rfl, g, rfl⟩ := din_of q2 r1 r2
    exact ⟨a, oo, rfl, g, q _ _ .refl rd_bl⟩
theorem x_din (hu : X.A.units + 64 < cLine) (ha : SO X W a (evOpd C p)) (hb : SO X W b (evOpd C q)) (hm : behindInMarks .In b = false := by rfl) : SE X W (.Compare a [.In] [b] pos) (evE C (.op .din (.cons p (.cons q .nil)))) := (pe_cmp (pc_din (by omega) ha hb) hm).imp fun σ H Q h => din_in (f := fun b => b) (fun _ _ => rfl) h
theorem x_dnotin (hu : X.A.units + 64 < cLine) (ha : SO X W a (evOpd C p)) (hb : SO X W b (evOpd C q)) (hm : behindInMarks .NotIn b = false := by rfl) : SE X W (.Compare a [.NotIn] [b] pos) (evE C (.op .dnotin (.cons p (.cons q .nil)))) := (pe_cmp (pc_dnotin (by omega) ha hb) hm).imp fun σ H Q h => din_in (f := fun b => !b) (fun _ _ => rfl) h
theorem din_bl {o : Opc} {f : Bool → Bool} (ho : ∀ ds d, opD o ds = some d → ∃ d1 d2, ds = [d1, d2]) (ho2 : ∀ d1 d2, opD o [d1, d2] = (dinD d1 d2).map fun r => .bl (f r)) {env e : En} {d : D} (z : evE C (.op o (.cons p (.cons q .nil))) env = .ok d e) : ∃ b, d = .bl b := by
  rw [evE] at z
  obtain ⟨os, e1, _, z⟩ := bind_ok z
  obtain ⟨z, _⟩ := lift_ok z
  cases w : resO e1 os with
  | none => rw [w] at z; cases z
  | some ds =>
    rw [w] at z
    obtain ⟨d1, d2, rfl⟩ := ho ds d z
    rw [show (some [d1, d2]).bind (opD o) = opD o [d1, d2] from rfl, ho2] at z
    cases q2 : dinD d1 d2 with
    | none => rw [q2] at z; cases z
    | some r => rw [q2] at z; cases z; exact ⟨_, rfl⟩
theorem x_dinT (hu : X.A.units + 64 < cLine) (ha : SO X W a (evOpd C p)) (hb : SO X W b (evOpd C q)) (hm : behindInMarks .In b = false := by rfl) : ST X W (.Compare a [.In] [b] pos) (evE C (.op .din (.cons p (.cons q .nil)))) := (pt_cmp (pc_din (by omega) ha hb) hm).imp fun σ H Q h =>
  din_in (f := fun b => b) (fun _ _ => rfl) (tt_tb (fun env d e z => din_bl (f := fun b => b) (fun ds d z => by
    match ds, z with
    | [d1, d2], _ => exact ⟨d1, d2, rfl⟩) (fun _ _ => rfl) z) h)
theorem x_dnotinT (hu : X.A.units + 64 < cLine) (ha : SO X W a (evOpd C p)) (hb : SO X W b (evOpd C q)) (hm : behindInMarks .NotIn b = false := by rfl) : ST X W (.Compare a [.NotIn] [b] pos) (evE C (.op .dnotin (.cons p (.cons q .nil)))) := (pt_cmp (pc_dnotin (by omega) ha hb) hm).imp fun σ H Q h =>
  din_in (f := fun b => !b) (fun _ _ => rfl) (tt_tb (fun env d e z => din_bl (f := fun b => !b) (fun ds d z => by
    match ds, z with
    | [d1, d2], _ => exact ⟨d1, d2, rfl⟩) (fun _ _ => rfl) z) h)
end
end Ev

set_option Elab.async false
set_option linter.all false
set_option maxRecDepth 100000
set_option maxHeartbeats 4000000
namespace Ev
open PySem PySem.Spec PyProof.Rows L2 He Gw
theorem prL_rd {K : PySem.W.Frag} {M : Addr → Prop} {H : Hp} (ds : List D) : ∀ {vs : List V} {ks : List L2.Key} {es : List D}, rdL K M H ds vs → prL ds = some (ks, es) →
    ∃ (ps : List Addr) (us : List V), vs = ps.map V.ref ∧ Paired (fun p (kv : L2.Key × V) => SqT K H p [kV kv.1, kv.2]) ps (ks.zip us) ∧ ks.length = us.length ∧ rdL K M H es us := by
  induction ds with
  | nil =>
    intro vs ks es r e
    rw [rdL] at r
    cases e
    exact ⟨[], [], r, .nil, rfl, by rw [rdL]⟩
  | cons d ds ih =>
    intro vs ks es r e
    rw [rdL] at r
    obtain ⟨v, vs, rfl, r1, r2⟩ := r
    unfold prL at e
    split at e
    · cases ‹_ :: _ = []›
    · rename_i k d' ds' heq
      cases heq
      split at e
      · rename_i kk ks' es' hk hp
        cases e
        obtain ⟨ps, us, rfl, pp, l, rr⟩ := ih r2 hp
        rw [rd] at r1
        obtain ⟨p, ws, rfl, h1, h2⟩ := r1
        obtain ⟨x, y, rfl, hx, hy⟩ := rdL2 h2
        obtain rfl := keyD_rd hk (rv_of hx)
        refine ⟨p :: ps, y :: us, rfl, .cons (sqT_of h1) pp, by simp [l], by rw [rdL]; exact ⟨y, us, rfl, hy, rr⟩⟩
      · cases e
    · cases e
section
variable {X : Cx}
theorem clr_dict (hc : X.calm = true) : CallR X (.type "dict") (rO X.K .dict) := by
  intro pins s σ H xs us Q I r h
  obtain ⟨M, ds, d, al, rs, e, q⟩ := h
  match ds, e with
  | [a], e =>
    obtain ⟨v, r', rfl, ra, rfl⟩ := rs
    replace e : dictD a = some d := e
    cases a with
    | dct ks es =>
      cases e
      obtain ⟨p, vs, rfl, hp, l, rr⟩ := ra
      refine call_dictD pins s σ H _ us Q I r ⟨p, _, rfl, .inl hp, fun t ht => q _ _ (grow_upd ht) ?_⟩
      rw [rd]
      exact ⟨t, vs, rfl, ⟨fun z => al t z ht, upd_same⟩, l, rdL_grow (grow_upd ht) rr⟩
    | lst es =>
      replace e : (match prL es with
        | some (ks, es) => if ks.Nodup then some (D.dct ks es) else none
        | none => none) = some d := e
      cases q2 : prL es with
      | none => rw [q2] at e; cases e
      | some kk =>
        obtain ⟨ks, es'⟩ := kk
        rw [q2] at e
        dsimp only at e
        split at e
        · rename_i hn
          cases e
          obtain ⟨p, vs, rfl, hp, rr⟩ := ra
          obtain ⟨ps, ws, rfl, pp, l, r3⟩ := prL_rd es rr q2
          refine call_dictP hc pins s σ H _ us Q I r ⟨p, ps, ks.zip ws, rfl, SqL.of hp, pp, fun t ht => ?_⟩
          rw [merge_app (ks.zip ws) [] (by rw [List.nil_append, List.map_fst_zip (by omega)]; exact hn), List.nil_append]
          refine q _ _ (grow_upd ht) ?_
          rw [rd]
          exact ⟨t, ws, rfl, ⟨fun z => al t z ht, upd_same⟩, l, rdL_grow (grow_upd ht) r3⟩
        · cases e
    | _ => cases e
end
end Ev

set_option Elab.async false
set_option linter.all false
set_option maxRecDepth 100000
set_option maxHeartbeats 4000000
namespace Ev
open PySem PySem.Spec PyProof.Rows L2 He Gw
theorem prL_cons {d : D} {ds : List D} {ks : List L2.Key} {es : List D} (h : prL (d :: ds) = some (ks, es)) : ∀ {k v : D}, d = .tup [k, v] → ∃ kq, keyD k = some kq ∧ ∃ rest res, ks = kq :: rest ∧ es = v :: res ∧ prL ds = some (rest, res) := by
  intro k v e
  subst e
  replace h : (match keyD k, prL ds with
    | some k, some (ks, es) => some (k :: ks, v :: es)
    | _, _ => none) = some (ks, es) := h
  cases q : keyD k with
  | none => rw [q] at h; cases h
  | some kq =>
    cases q2 : prL ds with
    | none => rw [q, q2] at h; cases h
    | some kk =>
      obtain ⟨rest, res⟩ := kk
      rw [q, q2] at h
      cases h
      exact ⟨kq, rfl, rest, res, rfl, rfl, rfl⟩
theorem dictD_of {rs : List D} {ks : List L2.Key} {es : List D} (h : prL rs = some (ks, es)) : dictD (.lst rs) = if ks.Nodup then some (.dct ks es) else none := by
  show (match prL rs with
    | some (ks, es) => if ks.Nodup then some (D.dct ks es) else none
    | none => none) = _
  rw [h]
theorem dictD_no {rs : List D} (h : prL rs = none) : dictD (.lst rs) = none := by
  show (match prL rs with
    | some (ks, es) => if ks.Nodup then some (D.dct ks es) else none
    | none => none) = _
  rw [h]
theorem prL_shape {d : D} {ds : List D} {ks : List L2.Key} {es : List D} (h : prL (d :: ds) = some (ks, es)) : ∃ k v, d = .tup [k, v] := by
  unfold prL at h
  split at h
  · cases ‹_ :: _ = []›
  · rename_i k' d' ds' heq
    cases heq
    exact ⟨k', d', rfl⟩
  · cases h
theorem prL_mk {k v : D} {ds : List D} {kq : L2.Key} {ks : List L2.Key} {es : List D} (h1 : keyD k = some kq) (h2 : prL ds = some (ks, es)) : prL (.tup [k, v] :: ds) = some (kq :: ks, v :: es) := by
  show (match keyD k, prL ds with
    | some k, some (ks, es) => some (k :: ks, v :: es)
    | _, _ => none) = _
  rw [h1, h2]
theorem prL_app (xs : List D) : ∀ (ys : List D) {ks : List L2.Key} {es : List D}, prL (xs ++ ys) = some (ks, es) → ∃ k1 e1 k2 e2, prL xs = some (k1, e1) ∧ prL ys = some (k2, e2) ∧ ks = k1 ++ k2 ∧ es = e1 ++ e2 := by
  induction xs with
  | nil => intro ys ks es h; exact ⟨[], [], ks, es, rfl, h, rfl, rfl⟩
  | cons d xs ih =>
    intro ys ks es h
    obtain ⟨k, v, rfl⟩ := prL_shape (ds := xs ++ ys) h
    obtain ⟨kq, hk, rest, rs, rfl, rfl, h2⟩ := prL_cons (ds := xs ++ ys) h rfl
    obtain ⟨k1, e1, k2, e2, h3, h4, rfl, rfl⟩ := ih ys h2
    exact ⟨kq :: k1, v :: e1, k2, e2, prL_mk hk h3, h4, rfl, rfl⟩
theorem prL_snoc {xs : List D} {ks : List L2.Key} {es : List D} {k v : D} {kq : L2.Key} : prL xs = some (ks, es) → keyD k = some kq → prL (xs ++ [.tup [k, v]]) = some (ks ++ [kq], es ++ [v]) := by
  induction xs generalizing ks es with
  | nil => intro h hk; cases h; exact prL_mk hk rfl
  | cons d xs ih =>
    intro h hk
    obtain ⟨k', v', rfl⟩ := prL_shape h
    obtain ⟨kq', hk', rest, rs, rfl, rfl, h2⟩ := prL_cons h rfl
    exact prL_mk hk' (ih h2 hk)
section
variable {X : Cx} {W : WX} {C : Ct} {tg elt kelt iter : Expr} {ifs : List Expr} {scope : Scope} {own : List (Str × Nat)} {pos : Pos} {it : It'} {t : Tg} {c : OE} {kx e : E}
def dcTurn (C : Ct) (t : Tg) (c : OE) (k e : E) (d : D) (env : En) : R (Option D) := match bindT (fun _ => false) env t d with
  | some env2 => (evOE C c env2).bind fun b env3 => if b = true then (evE C k env3).bind fun x env4 => (evE C e env4).bind fun y env5 => .ok (some (.tup [x, y])) (wipeE env5 t.slots) else .ok none (wipeE env3 t.slots)
  | none => .stuck
theorem evE_dc {env : En} : evE C (.dc it t c kx e) env = (evIt C it env).bind fun ds env1 => if ds.length ≤ sizeLine then
      (noexc (turns (dcTurn C t c kx e) ds (wipeE env1 t.slots))).bind fun rs env5 => match unblk it env env5 with
          | some env6 => lift (dictD (.lst rs)) env6
          | none => .stuck
      else .stuck := by
  rw [evE]
  unfold dcTurn
  congr 1
def dcP (K : PySem.W.Frag) (W : WX) (B : Addr → Prop) (σ : L2.St) (F : Fp) (H : Hp) (Q : VK) : R D → Prop
  | .ok d env' => ∀ F' H' p vs ks es, d = .dct ks es → Stp F H F' H' → (inF F p ∨ H p = none) → ¬ B p → Ok K (fun a => B a ∨ a = p) F' H' σ env' → H' p = some (.dK (ks.zip vs)) → ks.length = vs.length → rdL K (av (fun a => B a ∨ a = p) F') H' es vs → Q (.ref p) H'
  | .exc x env' => ∀ F' H' cls dx, Stp F H F' H' → Ok K B F' H' σ env' → XR K (av B F') H' x cls dx → W cls dx σ H'
  | .stuck => False
theorem noexc_dc {α : Type} {K : PySem.W.Frag} {B : Addr → Prop} {σ : L2.St} {F : Fp} {H : Hp} {Q : VK} {r : R α} {f : α → En → R D} (h : dcP K W B σ F H Q ((noexc r).bind f)) : ∃ a e, r = .ok a e ∧ dcP K W B σ F H Q (f a e) := by
  cases r with
  | ok a e => exact ⟨a, e, rfl, h⟩
  | exc x e => exact h.elim
  | stuck => exact h.elim
theorem dc_imp (hbo : ∀ i, it.slot = some i → i ∉ t.slots) {σ : L2.St} {H : Hp} {Q : VK} (h : ∃ B F env, Ok X.K B F H σ env ∧ dcP X.K W B σ F H Q (evE C (.dc it t c kx e) env)) :
    tDc (tI X.K W it (evIt C it)) (gT X.K t) (tB' X.K WN (evOE C c)) (tE X.K WN (evE C kx)) (tE X.K WN (evE C e)) t.slots σ H Q := by
  obtain ⟨B, F, env, k, h⟩ := h
  rw [evE_dc] at h
  unfold tDc
  have hev := fun ds env1 (z : evIt C it env = .ok ds env1) (i : Nat) (hs : it.slot = some i) => evIt_len z hs
  cases zi : evIt C it env with
  | exc x e1 => rw [zi] at h; exact ⟨B, F, env, k, by rw [zi]; exact h⟩
  | stuck => rw [zi] at h; exact h.elim
  | ok ds env1 =>
    rw [zi] at h
    refine ⟨B, F, env, k, ?_⟩
    rw [zi]
    intro F0 H0 s0 k0 J rdy dA hD
    replace h : dcP X.K W B σ F H Q (if ds.length ≤ sizeLine then (noexc (turns (dcTurn C t c kx e) ds (wipeE env1 t.slots))).bind fun rs env5 => match unblk it env env5 with
          | some env6 => lift (dictD (.lst rs)) env6
          | none => .stuck
      else .stuck) := h
    split at h
    · rename_i hz
      obtain ⟨res, envE, hE, h⟩ := noexc_dc h
      obtain ⟨B1, F1, G, en⟩ := enter k0 rdy
      -- the turns
      let B2 : Addr → Prop := fun a => B1 a ∨ a = dA
      have k1 : Ok X.K B2 F1 (upd H0 dA (.dK [])) (wipe σ t.slots) (wipeE env1 t.slots) := by
        have k1 := (en.ok.grow (grow_upd (o := .dK []) hD)).wipe t.slots
        refine ⟨k1.len, fun i w q => ?_, k1.nd, k1.dj, fun a q => ?_, fun a q z => ?_⟩
        · obtain ⟨v, e1, r⟩ := en.ok.wipe t.slots |>.at_ i w q
          refine ⟨v, e1, rw_stay ⟨fun a o n e => grow_upd hD a o e, fun a h => ?_⟩ w v (F1 i) (fun a ha => ?_) r⟩
          · rcases h with (h | h) | h
            · exact .inl (.inl h)
            · exact .inr (by rw [h]; exact hD)
            · exact .inl (.inr h)
          · rw [upd_ne (fun z => en.ok.there a (.inr ⟨i, ha⟩) (by rw [z]; exact hD))]
        · rcases q with (q | q) | q
          · exact k1.there a (.inl q)
          · rw [q, upd_same]; exact fun z => nomatch z
          · exact k1.there a (.inr q)
        · rcases q with q | q
          · exact en.ok.sep a q z
          · rw [q] at z; exact en.ok.there dA (.inr z) hD
      -- no key comes twice
      have hnd : ∃ fks fes, prL res = some (fks, fes) ∧ fks.Nodup := by
        cases zu : unblk it env envE with
        | none => rw [zu] at h; exact h.elim
        | some env6 =>
          rw [zu] at h
          cases q : prL res with
          | none => rw [dictD_no q] at h; exact h.elim
          | some kk =>
            obtain ⟨fks, fes⟩ := kk
            by_cases hn : fks.Nodup
            · exact ⟨fks, fes, rfl, hn⟩
            · rw [dictD_of q, if_neg hn] at h; exact h.elim
      obtain ⟨fks, fes, hpr, hnd⟩ := hnd
      refine ⟨fun i m H => i ≤ ds.length ∧ m = ds.length - i ∧ ∃ (F' : Fp) (env' : En) (aks : List L2.Key) (acc r0 rs : List Ev.D) (va : List V), Stp F1 H0 F' H ∧ Ok X.K B2 F' H (wipe σ t.slots) env' ∧ H dA = some (.dK (aks.zip va)) ∧ aks.length = va.length ∧ rdL X.K (av B2 F') H acc va ∧ prL r0 = some (aks, acc) ∧ aks.length ≤ i ∧
        turns (dcTurn C t c kx e) (ds.drop i) env' = .ok rs envE ∧ res = r0 ++ rs, ⟨ds.length, Nat.zero_le _, rfl, F1, _, [], [], [], res, [], Stp.upd hD, k1, upd_same, rfl, by rw [rdL], rfl, Nat.le_refl _, hE, rfl⟩, ?_⟩
      rintro i m H' ⟨hil, rfl, F', env', aks, acc, r0, rs, va, st, kk, hDv, hlk, hacc, hpr0, hal, htr, hres⟩
      have goT : Go B1 F1 H0 B2 F' H' := ⟨st, fun a q => by
        rcases q with (q | q) | q
        · exact .inl (.inl q)
        · exact .inr (by rw [q]; exact hD)
        · exact (st.new a q).imp (fun z => .inr z) id⟩
      have g2 : G B2 F' H' := en.walk.stay _ _ _ _ _ _ goT en.g
      by_cases hlt : i < ds.length
      · refine .inr ⟨en.walk.go _ _ _ i g2 hlt, _, fun H'' nx => ⟨ds.length - (i + 1), by omega, nx⟩, fun x H'' y => ?_⟩
        obtain ⟨gr, d, hd, rx⟩ := en.walk.yld _ _ _ i x H'' g2 kk.there hlt y
        rw [show ds.drop i = d :: ds.drop (i + 1) from by rw [List.drop_eq_getElem_cons hlt]; congr 1; rw [List.getElem?_eq_getElem hlt] at hd; exact Option.some.inj hd] at htr
        obtain ⟨o, env2, rs1, h1, h2, h3⟩ := turns_cons htr
        have kk2 := kk.grow gr
        unfold dcTurn at h1
        split at h1
        · rename_i envB hb
          obtain ⟨b, env3, hb3, h1⟩ := bind_ok h1
          have hDv2 : H'' dA = some (.dK (aks.zip va)) := gr _ _ hDv
          have hacc2 : rdL X.K (av B2 F') H'' acc va := rdL_grow gr hacc
          have nD : ∀ {F : Fp} {H : Hp} {σ : L2.St} {env : En}, Ok X.K B2 F H σ env → ¬ inF F dA := fun k z => k.sep dA (.inr rfl) z
          refine gT_ok kk2 rx hb fun σ2 F2 f => ⟨?_, B2, F2, envB, f.ok, ?_⟩
          · rw [wipe_eq (σ := wipe σ t.slots) f.len f.other]
            exact wipe_eq (wipe_length _ _) fun j hj => by rw [wipe_get, if_neg hj]
          · rw [hb3]
            intro F3 H3 s3 k3
            have w3 : wipe σ2 t.slots = wipe σ t.slots := by
              rw [wipe_eq (σ := wipe σ t.slots) f.len f.other]
              exact wipe_eq (wipe_length _ _) fun j hj => by rw [wipe_get, if_neg hj]
            have hD3 : H3 dA = some (.dK (aks.zip va)) := s3.keep dA _ (nD f.ok) hDv2
            have acc3 : rdL X.K (av B2 F3) H3 acc va := s3.rdL (rdL_less f.less hacc2)
            have stG : Stp F' H' F' H'' := Stp.grow gr
            have st3 : Stp F1 H0 F3 H3 := st.trans (stG.trans (f.stp.trans s3))
            cases b with
            | false =>
              rw [if_neg Bool.false_ne_true] at h1
              refine iteF' ?_
              cases h1
              refine ⟨by omega, rfl, F3, _, aks, acc, r0, rs1, va, st3, ?_, hD3, hlk, acc3, hpr0, by omega, h2, by rw [hres, h3]⟩
              have q := k3.wipe t.slots
              rw [w3] at q
              exact q
            | true =>
              rw [if_pos rfl] at h1
              refine iteT' ?_
              obtain ⟨rk, env4, h4, h1⟩ := bind_ok h1
              obtain ⟨r, env5, h5, h1⟩ := bind_ok h1
              cases h1
              refine ⟨B2, F3, env3, k3, ?_⟩
              rw [h4]
              intro F4 H4 s4 k4 yk hyk
              refine ⟨B2, F4, env4, k4, ?_⟩
              rw [h5]
              intro F5 H5 s5 k5 y hy
              have hD5 : H5 dA = some (.dK (aks.zip va)) := s5.keep dA _ (nD k4) (s4.keep dA _ (nD k3) hD3)
              have acc5 : rdL X.K (av B2 F5) H5 acc va := s5.rdL (s4.rdL acc3)
              -- the key
              obtain ⟨k1', e1', k2', e2', hp1, hp2, hk12, he12⟩ := prL_app r0 rs (by rw [← hres]; exact hpr)
              rw [hpr0] at hp1
              cases hp1
              rw [h3] at hp2
              obtain ⟨kq, hkq, rest, rs', hrest, _, _⟩ := prL_cons hp2 rfl
              have fresh : kq ∉ aks := fun z => by
                rw [hk12, hrest, List.nodup_append] at hnd
                exact hnd.2.2 kq z kq List.mem_cons_self rfl
              obtain rfl := keyD_rd hkq (rv_of hyk)
              have put : L2.putK (aks.zip va) kq y = (aks ++ [kq]).zip (va ++ [y]) := by
                unfold L2.putK
                rw [if_neg, List.zip_append hlk]
                · rfl
                · intro z
                  rw [List.any_eq_true] at z
                  obtain ⟨q, hq, z⟩ := z
                  have z := of_decide_eq_true z
                  exact fresh (by rw [← z]; exact (List.of_mem_zip hq).1)
              have other : ∀ a, a ≠ dA → upd H5 dA (.dK (L2.putK (aks.zip va) kq y)) a = H5 a := fun a n => upd_ne n
              refine ⟨aks.zip va, kq, rfl, hD5, by rw [List.length_zip]; omega, by omega, rfl, F5, _, aks ++ [kq], acc ++ [r], r0 ++ [.tup [rk, r]], rs1, va ++ [y], ⟨fun a o n e => ?_, ((st3.trans s4).trans s5).new⟩, ?_, by rw [upd_same, put], by simp [hlk], rdL_poke (.inr rfl) other (rdL_app acc5 (rdL_one hy)), prL_snoc hpr0 hkq, by rw [List.length_append]; show aks.length + 1 ≤ i + 1; omega, h2, by rw [hres, h3, List.append_assoc]; rfl⟩
              · rw [other a (ne_of_none e hD)]
                exact ((st3.trans s4).trans s5).keep a o n e
              · have q := (k5.poke (.inr rfl) other (by rw [upd_same]; exact fun z => nomatch z)).wipe t.slots
                rw [w3] at q
                exact q
        · cases h1
      · have hi : i = ds.length := by omega
        subst hi
        rw [List.drop_length] at htr
        cases htr
        refine .inl ⟨en.walk.stop _ _ _ g2, ?_⟩
        rw [List.append_nil] at hres
        subst hres
        -- the slots come back
        have kf : Ok X.K B2 F' H' σ envE := by
          refine ⟨?_, fun j w q => ?_, kk.nd, kk.dj, kk.there, kk.sep⟩
          · rw [kk.len, wipe_length]
          · obtain ⟨v, e1, r⟩ := kk.at_ j w q
            rw [wipe_get] at e1
            split at e1
            · split at e1 <;> cases e1
            · exact ⟨v, e1, r⟩
        cases zu : unblk it env envE with
        | none => rw [zu] at h; exact h.elim
        | some env6 =>
          rw [zu] at h
          have hsl : ∀ i, it.slot = some i → σ[i]? = σ[i]? ∧ (envE[i]? = some none ∨ envE[i]? = none) := fun i hs => ⟨rfl, by
            cases it with
            | own j =>
              cases hs
              unfold unblk at zu
              dsimp only at zu
              split at zu
              · rename_i q; exact .inl q
              · cases zu
            | _ => cases hs⟩
          obtain ⟨F3, s3, l3, b3⟩ := en.back (fun a => a = dA) σ F' H' envE (fun a e z => by rw [e] at z; exact en.ok.there dA z hD) st kf g2 hsl
          have k6 : Ok X.K (fun a => B a ∨ a = dA) F3 H' σ env6 := b3 env6 (by
            cases hs : it.slot with
            | none =>
              left
              cases it with
              | own j => cases hs
              | _ => cases zu; rfl
            | some i =>
              right
              obtain ⟨w, q1, q2, _⟩ := evIt_len zi hs
              cases it with
              | own j =>
                cases hs
                unfold unblk at zu
                dsimp only at zu
                split at zu
                · cases zu
                  rw [q1, q2]
                  exact ⟨i, rfl, rfl⟩
                · cases zu
              | _ => cases hs)
          rw [hpr0] at hpr
          cases hpr
          rw [dictD_of hpr0, if_pos hnd] at h
          exact h F3 H' dA _ _ _ rfl (s0.trans s3) (s0.from_ (.inr hD)) (fun q => k0.there dA (.inl q) hD) k6 hDv hlk (rdL_less l3 hacc)
    · exact h.elim
theorem snd_dc (hc : X.calm = true) (hN : X.N.Nodup) (hi : SI' X W tg iter C it) (ok : BlkOk X.N X.env.scope scope own) (ho : own.map (·.2) = t.slots) (hbo : ∀ i, it.slot = some i → i ∉ t.slots)
    (hg : ∀ (s : Shared) (H : Hp) (A : Addr) (cl : List (Str × Addr)) (fp : List Addr), PG (X.blk s H scope (compEnvC scope cl A X.env) fp) tg (gT X.K t))
    (ht : ∀ (s : Shared) (H : Hp) (A : Addr) (cl : List (Str × Addr)) (fp : List Addr), PTs (X.blk s H scope (compEnvC scope cl A X.env) fp) ifs (tB' X.K WN (evOE C c)))
    (hk : ∀ (s : Shared) (H : Hp) (A : Addr) (cl : List (Str × Addr)) (fp : List Addr), PE (X.blk s H scope (compEnvC scope cl A X.env) fp) kelt (tE X.K WN (evE C kx)))
    (he : ∀ (s : Shared) (H : Hp) (A : Addr) (cl : List (Str × Addr)) (fp : List Addr), PE (X.blk s H scope (compEnvC scope cl A X.env) fp) elt (tE X.K WN (evE C e)))
    (hs : ∀ x, foldedSetIterable iter X.env x = pure x) : SE X W (.DictComp kelt elt [⟨tg, iter, ifs, 0⟩] scope pos) (evE C (.dc it t c kx e)) := by
  have q := pe_dc (pos := pos) hc hN hi ok hg ht hk he hs
  rw [ho] at q
  refine q.imp fun σ H Q h => dc_imp hbo ?_
  obtain ⟨B, F, env, k, h⟩ := h
  refine ⟨B, F, env, k, ?_⟩
  cases z : evE C (.dc it t c kx e) env with
  | ok d e1 =>
    rw [z] at h
    intro F' H' p vs ks es hd s fr nb k' hp hl r
    subst hd
    refine h F' H' s (k'.less fun a => .inl) (.ref p) ?_
    rw [rd]
    refine ⟨p, vs, rfl, ⟨fun q => ?_, hp⟩, hl, rdL_less (fun a q => q.imp .inl id) r⟩
    rcases q with q | q
    · exact nb q
    · exact k'.sep p (.inr rfl) q
  | exc x e1 => rw [z] at h; exact h
  | stuck => rw [z] at h; exact h.elim
end
end Ev

set_option Elab.async false
set_option linter.all false
set_option maxRecDepth 100000
set_option maxHeartbeats 4000000
namespace Ev
open PySem PySem.Spec PyProof.Rows L2 He Gw
theorem op_ownEqG {X : Cx} {n : Nat} {A f : Addr} {fd : FuncData} {ps : List Str} {sp : Sp} (F : FnG X.prog X.w X.K X.mg X.base (L2.CX X.prog X.w) n f fd ps sp) (hgd : X.A.guards = some []) (hr : Room n X.A)
    (hs : PySem.W.findIn X.K (.ref A) "__eq__" = some (some (.ref f))) (hf : PySem.W.isFn X.K (.ref f) = true) (hb : Binds X.K fd ps []) : OpR X (compareOp .Eq) (rOwnEq A sp) := by
  intro pins s σ H x y v u Q I rx ry d
  obtain ⟨a, b, dx, dy, fs, gs, rfl, rfl, ha, hb', hsp⟩ := d
  cases rx
  cases ry
  obtain ⟨mA, J, _⟩ := ins_get I.hok ha
  obtain ⟨mB, J', _⟩ := ins_get I.hok hb'
  obtain ⟨od, J, _⟩ := J.look
  obtain ⟨od', J', _⟩ := J'.look
  obtain ⟨m, hF⟩ := I.fr
  show wpAny (model X.prog X.w) X.A (richCompare .Eq (.ref a) (.ref b)) (EP X pins σ Q) X.xe s
  refine PySem.W.cmp_K (op := .Eq) (tb := .ref A) hr.units0 hF I.ok.mod.kin J J'.type (by simp [PySem.W.notFirst]) hs hf ?_
  have hl := F.len _ _ _ _ hsp
  have r2 : Vals [V.ref a, V.ref b] [Value.ref a, Value.ref b] := .cons rfl (.cons rfl .nil)
  refine wpAny_call (codeAny_mono (F.run X.A X.stack s H ⟨[.ref a, .ref b], []⟩ [.ref a, .ref b] [.ref a, .ref b] _ E0 hgd hr I.env0 (by
    have := hb s [.ref a, .ref b] I.kIn (by simpa using hl)
    simpa using this) r2 hsp) fun r s' hq => ?_)
  cases r with
  | error e => obtain ⟨_, _, _, _, _, _, _, _, _, _, _, _, z⟩ := hq; exact z.elim
  | ok fl =>
    cases fl with
    | ret w =>
      obtain ⟨z, H', I', rz, r, ez, q⟩ := I.after hq
      subst ez
      cases (show w = Value.bool r from rz)
      exact ⟨.bl r, H', I', rfl, q⟩
    | next => exact False.elim hq
    | brk => exact False.elim hq
    | cont => exact False.elim hq
theorem insC_rd {K : PySem.W.Frag} {M : Addr → Prop} {H : Hp} {c : Str} {d : D} {v : V} (e : insC c d = true) (r : rd K M H d v) : ∃ a dx fs, v = .ref a ∧ H a = some (.ins (ga K c) dx fs) := by
  cases d with
  | ins c' ks ds =>
    replace e : decide (c' = c) = true := e
    have e := of_decide_eq_true e
    subst e
    rw [rd] at r
    obtain ⟨a, dx, vs, rfl, h1, _⟩ := r
    exact ⟨a, dx, _, rfl, h1.2⟩
  | _ => cases e
section
variable {X : Cx} {W : WX} {C : Ct} {a b : Expr} {pos : Pos} {u v : E} {c : Str} {fn n : Nat} {f g : Addr} {fd : FuncData} {ps : List Str}
theorem _root_.L2.PE.or {X : Cx} {e : Expr} {t t' : TE} (h : PE X e t) (h' : PE X e t') : PE X e fun σ H Q => t σ H Q ∨ t' σ H Q := ⟨fun pins s σ H Q I q => q.elim (h.run pins s σ H Q I) (h'.run pins s σ H Q I)⟩
theorem _root_.L2.PT.or {X : Cx} {e : Expr} {t t' : TT} (h : PT X e t) (h' : PT X e t') : PT X e fun σ H Q => t σ H Q ∨ t' σ H Q := ⟨fun pins s σ H Q I q => q.elim (h.run pins s σ H Q I) (h'.run pins s σ H Q I)⟩
theorem eqc_of {σ : L2.St} {H : Hp} {Q : VK} (h : tE X.K W (evE C (.eqc c fn u v)) σ H Q) : (tE X.K W (evE C u) σ H fun x H1 => tE X.K W (evE C v) σ H1 fun y H2 => rO X.K .eq [x, y] H2 Q) ∨ tE X.K W (evE C u) σ H fun x H1 => tE X.K W (evE C v) σ H1 fun y H2 => rOwnEq (ga X.K c) (spE X.K (C.cal fn) 2) x y H2 Q := by
  obtain ⟨B, F, env, k, h⟩ := h
  rw [evE] at h
  cases zu : evE C u env with
  | stuck => rw [zu] at h; exact h.elim
  | exc x e1 => rw [zu] at h; exact .inl ⟨B, F, env, k, by rw [zu]; exact h⟩
  | ok d1 e1 =>
    rw [zu] at h
    cases zv : evE C v e1 with
    | stuck => rw [R.bind, zv] at h; exact h.elim
    | exc x e2 =>
      rw [R.bind, zv] at h
      left
      refine ⟨B, F, env, k, ?_⟩
      rw [zu]
      intro F1 H1 s1 k1 v1 hv1
      refine ⟨B, F1, e1, k1, ?_⟩
      rw [zv]
      exact fun F' H' cls dx s' k' xr => h F' H' cls dx (s1.trans s') k' xr
    | ok d2 e2 =>
      rw [R.bind, zv] at h
      replace h : pst X.K W B σ F H (fun d _ F' H' => ∀ v, rd X.K (av B F') H' d v → Q v H') (match eqD d1 d2 with
        | some r => .ok (.bl r) e2
        | none => if insC c d1 = true ∧ insC c d2 = true then (noexc (callR C fn [.inl d1, .inl d2] e2)).bind fun w env3 => lift (blR w) env3 else .stuck) := h
      cases qe : eqD d1 d2 with
      | some r =>
        rw [qe] at h
        left
        refine ⟨B, F, env, k, ?_⟩
        rw [zu]
        intro F1 H1 s1 k1 v1 hv1
        refine ⟨B, F1, e1, k1, ?_⟩
        rw [zv]
        intro F2 H2 s2 k2 v2 hv2
        exact rO_two k2.there (s2.rd hv1) hv2 (show (eqD d1 d2).map D.bl = some (.bl r) from by rw [qe]; rfl) fun w H' g ru => h F2 H' ((s1.trans s2).trans (Stp.grow g)) (k2.grow g) w ru
      | none =>
        rw [qe] at h
        right
        refine ⟨B, F, env, k, ?_⟩
        rw [zu]
        intro F1 H1 s1 k1 v1 hv1
        refine ⟨B, F1, e1, k1, ?_⟩
        rw [zv]
        intro F2 H2 s2 k2 v2 hv2
        have z := pst_from (s1.trans s2) h
        dsimp only at z
        split at z
        · rename_i hc
          have hv1 := s2.rd hv1
          obtain ⟨p1, x1, f1, rfl, i1⟩ := insC_rd hc.1 hv1
          obtain ⟨p2, x2, f2, rfl, i2⟩ := insC_rd hc.2 hv2
          refine ⟨p1, p2, x1, x2, f1, f2, rfl, rfl, i1, i2, ?_⟩
          obtain ⟨w, e3, hcr, z⟩ := noexc_ok z
          obtain ⟨d, hd, z⟩ := pst_lift z
          refine call_of (W := WN) (P := fun r env' F' H' => r = w ∧ env' = e3 ∧ Stp F2 H2 F' H' ∧ Ok X.K B F' H' σ env') (os := [.inl d1, .inl d2]) k2 ⟨_, [_], rfl, hv1, _, [], rfl, hv2, rfl⟩ rfl ?_ fun r env' F' H' Fr v s k' hp _ _ _ hm => ?_
          · rw [hcr]
            exact fun F' H' s k' => ⟨rfl, rfl, s, k'⟩
          · obtain ⟨rfl, rfl, s', k3⟩ := hp
            unfold blR at hd
            split at hd
            · rename_i bb
              cases hd
              obtain ⟨M, _, hr⟩ := hm
              rw [rw', rd] at hr
              exact ⟨bb, hr.2, z F' H' s' k3 _ rd_bl⟩
            · cases hd
        · exact z.elim
/-- own == of two instances of one class -/
theorem x_eqc (T : ClsT X.K (ga X.K c) f g) (F : FnG X.prog X.w X.K X.mg X.base (L2.CX X.prog X.w) n g fd ps (spE X.K (C.cal fn) 2)) (hgd : X.A.guards = some []) (hr : Room n X.A) (hb : Binds X.K fd ps []) (ha : SE X W a (evE C u)) (hbb : SE X W b (evE C v)) (hm : behindInMarks .Eq b = false := by rfl) :
    SE X W (.Compare a [.Eq] [b] pos) (evE C (.eqc c fn u v)) := ((pe_cmpR (opr_eq hr.u64) ha hbb hm).or (pe_cmpR (op_ownEqG F hgd hr T.eq T.eqf hb) ha hbb hm)).imp fun σ H Q h => eqc_of h
theorem eqc_bl {env e : En} {d : D} (z : evE C (.eqc c fn u v) env = .ok d e) : ∃ b, d = .bl b := by
  rw [evE] at z
  obtain ⟨x1, e1, _, z⟩ := bind_ok z
  obtain ⟨y1, e2, _, z⟩ := bind_ok z
  split at z
  · cases z; exact ⟨_, rfl⟩
  · split at z
    · obtain ⟨w1, e3, _, z⟩ := bind_ok z
      obtain ⟨z, _⟩ := lift_ok z
      unfold blR at z
      split at z
      · cases z; exact ⟨_, rfl⟩
      · cases z
    · cases z
theorem x_eqcT (T : ClsT X.K (ga X.K c) f g) (F : FnG X.prog X.w X.K X.mg X.base (L2.CX X.prog X.w) n g fd ps (spE X.K (C.cal fn) 2)) (hgd : X.A.guards = some []) (hr : Room n X.A) (hb : Binds X.K fd ps []) (ha : SE X W a (evE C u)) (hbb : SE X W b (evE C v)) (hm : behindInMarks .Eq b = false := by rfl) :
    ST X W (.Compare a [.Eq] [b] pos) (evE C (.eqc c fn u v)) := ((pt_cmpR (opr_eq hr.u64) ha hbb hm).or (pt_cmpR (op_ownEqG F hgd hr T.eq T.eqf hb) ha hbb hm)).imp fun σ H Q h => eqc_of (tt_tb (fun env d e z => eqc_bl z) h)
end
end Ev

set_option Elab.async false
set_option linter.all false
set_option maxRecDepth 100000
set_option maxHeartbeats 4000000
namespace Ev
open PySem PySem.Spec PyProof.Rows L2 He Gw
/-! ### what is wanted ahead: the meaning read backwards -/
abbrev XP := Xc → En → Prop
def post {α : Type} (r : R α) (Q : α → En → Prop) (X : XP) : Prop := match r with
  | .ok a e => Q a e
  | .exc x e => X x e
  | .stuck => False
theorem post_bind {α β : Type} {r : R α} {f : α → En → R β} {Q : β → En → Prop} {X : XP} : post (r.bind f) Q X = post r (fun a e => post (f a e) Q X) X := by cases r <;> rfl
theorem post_imp {α : Type} {r : R α} {Q Q' : α → En → Prop} {X X' : XP} (h : post r Q X) (q : ∀ a e, Q a e → Q' a e) (x : ∀ a e, X a e → X' a e) : post r Q' X' := by
  cases r with
  | ok a e => exact q a e h
  | exc a e => exact x a e h
  | stuck => exact h
theorem post_noexc {α : Type} {r : R α} {Q : α → En → Prop} {X : XP} : post (noexc r) Q X = post r Q (fun _ _ => False) := by cases r <;> rfl
structure Post {α : Type} (r : R α) (Q : α → En → Prop) (X : XP) : Prop where
  h : post r Q X
theorem Post_eq {α : Type} {r : R α} {Q : α → En → Prop} {X : XP} : Post r Q X = post r Q X := propext ⟨fun h => h.h, fun h => ⟨h⟩⟩
def ex {α : Type} (o : Option α) (k : α → Prop) : Prop := match o with
  | some a => k a
  | none => False
theorem post_lift {α : Type} {o : Option α} {env : En} {Q : α → En → Prop} {X : XP} : post (lift o env) Q X = ex o fun a => Q a env := by cases o <;> rfl
theorem ex_bind {α β : Type} {o : Option α} {f : α → Option β} {k : β → Prop} : ex (o.bind f) k = ex o fun a => ex (f a) k := by cases o <;> rfl
theorem ex_imp {α : Type} {o : Option α} {k k' : α → Prop} (h : ex o k) (q : ∀ a, k a → k' a) : ex o k' := by
  cases o with
  | none => exact h
  | some a => exact q a h
/-- a thing that is told -/
structure Ex {α : Type} (o : Option α) (k : α → Prop) : Prop where
  h : ex o k
theorem Ex_eq {α : Type} {o : Option α} {k : α → Prop} : Ex o k = ex o k := propext ⟨fun h => h.h, fun h => ⟨h⟩⟩
theorem ex_some {α : Type} {o : Option α} {k : α → Prop} {a : α} (e : o = some a) (h : k a) : Ex o k := by rw [Ex_eq, e]; exact h
/-- a condition of the model's -/
structure Nd (p k : Prop) : Prop where
  p : p
  k : k
theorem nd {p k : Prop} (h : p) (q : k) : Nd p k := ⟨h, q⟩
theorem Nd_eq {p k : Prop} : Nd p k = (p ∧ k) := propext ⟨fun h => ⟨h.p, h.k⟩, fun h => ⟨h.1, h.2⟩⟩
/-- a branch -/
structure Br (t : Bool) (A B : Prop) : Prop where
  a : t = true → A
  b : t = false → B
theorem br {t : Bool} {A B : Prop} (a : t = true → A) (b : t = false → B) : Br t A B := ⟨a, b⟩
theorem br_t {t : Bool} {A B : Prop} (e : t = true) (a : A) : Br t A B := br (fun _ => a) fun z => by rw [e] at z; cases z
theorem br_f {t : Bool} {A B : Prop} (e : t = false) (b : B) : Br t A B := br (fun z => by rw [e] at z; cases z) fun _ => b
theorem Br_eq {t : Bool} {A B : Prop} : Br t A B = if t = true then A else B := by
  cases t
  · exact propext ⟨fun h => h.b rfl, fun h => ⟨fun z => (by cases z), fun _ => h⟩⟩
  · exact propext ⟨fun h => h.a rfl, fun h => ⟨fun _ => h, fun z => (by cases z)⟩⟩
/-- an operation -/
def opW : Opc → List D → (D → Prop) → Prop
  | .add, [.int i, .int j], k => k (.int (i + j))
  | .add, [.tup xs, .tup ys], k => Nd (xs.length + ys.length ≤ sizeLine) (k (.tup (xs ++ ys)))
  | .add, [.lst xs, .lst ys], k => Nd (xs.length + ys.length ≤ sizeLine) (k (.lst (xs ++ ys)))
  | .sub, [.int i, .int j], k => k (.int (i - j))
  | .mul, [.int i, .int j], k => Nd (mulOk i j = true) (k (.int (i * j)))
  | .mul, [.tup xs, .int n], k => Nd (1 ≤ n ∧ n ≤ 1000 ∧ xs.length ≤ 1000) (k (.tup (List.replicate n.toNat xs).flatten))
  | .fdiv, [.int i, .int j], k => Nd (0 < j ∧ j < 2 ^ 66) (k (.int (i / j)))
  | .mod, [.int i, .int j], k => Nd (0 < j) (k (.int (i % j)))
  | .eq, [.int i, .int j], k => k (.bl (decide (i = j)))
  | .ne, [.int i, .int j], k => k (.bl (!decide (i = j)))
  | .lt, [.int i, .int j], k => k (.bl (decide (i < j)))
  | .le, [.int i, .int j], k => k (.bl (decide (i ≤ j)))
  | .gt, [.int i, .int j], k => k (.bl (decide (j < i)))
  | .ge, [.int i, .int j], k => k (.bl (decide (j ≤ i)))
  | .len, [.lst ds], k => k (.int ds.length)
  | .len, [.tup ds], k => k (.int ds.length)
  | .int, [.int i], k => k (.int i)
  | .tuple, [.lst ds], k => k (.tup ds)
  | .tuple, [.tup ds], k => k (.tup ds)
  | o, ds, k => Ex (opD o ds) k
theorem eqD_int (i j : Int) : eqD (.int i) (.int j) = some (decide (i = j)) := by
  show some (PyData.eqv (.int i) (.int j)) = _
  rw [show PyData.eqv (.int i) (.int j) = (i == j) from by simp [PyData.eqv]]
  rw [Bool.eq_iff_iff.mpr (by simp : (i == j) = true ↔ decide (i = j) = true)]
theorem opW_ok {o : Opc} {ds : List D} {k : D → Prop} (h : opW o ds k) : ex (opD o ds) k := by
  unfold opW at h
  split at h
  · exact h
  · rw [Nd_eq] at h
    simp only [opD, addD, if_pos h.1]
    exact h.2
  · rw [Nd_eq] at h
    simp only [opD, addD, if_pos h.1]
    exact h.2
  · exact h
  · rw [Nd_eq] at h
    simp only [opD, mulD, if_pos h.1]
    exact h.2
  · rw [Nd_eq] at h
    simp only [opD, mulD, if_pos h.1]
    exact h.2
  · rw [Nd_eq] at h
    simp only [opD, intB, if_pos h.1]
    exact h.2
  · rw [Nd_eq] at h
    simp only [opD, intB, if_pos h.1]
    exact h.2
  · simp only [opD, eqD_int]
    exact h
  · simp only [opD, eqD_int]
    exact h
  · exact h
  · exact h
  · exact h
  · exact h
  · exact h
  · exact h
  · exact h
  · exact h
  · exact h
  · rw [Ex_eq] at h
    exact h
/-- the truth of a thing -/
def tr : D → (Bool → Prop) → Prop
  | .bl b, k => k b
  | .int i, k => k (!decide (i = 0))
  | d, k => Ex (truD d) k
theorem tr_ok {d : D} {k : Bool → Prop} (h : tr d k) : ex (truD d) k := by
  unfold tr at h
  split at h
  · exact h
  · rename_i i
    show k (i != 0)
    rw [show (i != 0) = !decide (i = 0) from rfl]
    exact h
  · rw [Ex_eq] at h
    exact h
structure Tu (C : Ct) (t : Tg) (c : OE) (e : E) (ds : List D) (env : En) (Q : List D → En → Prop) : Prop where
  h : post (turns (fun d env => match bindT (fun _ => false) env t d with
        | some env2 => (evOE C c env2).bind fun b env3 => if b = true then (evE C e env3).bind fun r env4 => .ok (some r) (wipeE env4 t.slots) else .ok none (wipeE env3 t.slots)
        | none => .stuck) ds env) Q (fun _ _ => False)
structure Td (C : Ct) (t : Tg) (c : OE) (k e : E) (ds : List D) (env : En) (Q : List D → En → Prop) : Prop where
  h : post (turns (fun d env => match bindT (fun _ => false) env t d with
        | some env2 => (evOE C c env2).bind fun b env3 => if b = true then (evE C k env3).bind fun x env4 => (evE C e env4).bind fun y env5 => .ok (some (.tup [x, y])) (wipeE env5 t.slots) else .ok none (wipeE env3 t.slots)
        | none => .stuck) ds env) Q (fun _ _ => False)
def flF : D → D
  | .bl _ => .bl false
  | d => d
def flT : D → D
  | .bl _ => .bl true
  | d => d
mutual
def wE (C : Ct) (X : XP) : E → En → (D → En → Prop) → Prop
  | .int i, env, Q => Q (.int i) env
  | .bl b, env, Q => Q (.bl b) env
  | .non, env, Q => Q .non env
  | .str x, env, Q => Q (.str x) env
  | .tru i, env, Q => ex ((getW env i).bind truW) fun d => Q d env
  | .ix2 i a k, env, Q => match getW env i with
    | some _ => wE C X a env fun x env1 => Ex ((getW env1 i).bind (ix2W k x)) fun d => Q d env1
    | none => False
  | .var i, env, Q => match getW env i with
    | some (.fz d) => Q d env
    | _ => False
  | .frz i, env, Q => match getW env i with
    | some (.fz d) => Q d env
    | some w => ex (frz w) fun d => Q d (env.set i (some (.fz d)))
    | none => False
  | .kst d, env, Q => Q d env
  | .op o as, env, Q => wO C X as env fun os env1 => ex (resO env1 os) fun ds => opW o ds fun d => Q d env1
  | .slc a lo hi, env, Q => wOpd C X a env fun x env1 => wPt C X lo env1 fun l env2 => wPt C X hi env2 fun h env3 => ex (resO env3 [x]) fun ds => ex ds[0]? fun d0 => Ex (slcD l h d0) fun d => Q d env3
  | .chain a o b o' c, env, Q => wE C X a env fun x env1 => wE C X b env1 fun y env2 => opW o [x, y] fun t => match t with
    | .bl t => Br t (wE C X c env2 fun z env3 => opW o' [y, z] fun d => Q d env3) (Q (.bl false) env2)
    | _ => False
  | .not a, env, Q => wE C X a env fun d env1 => tr d fun b => Q (.bl (!b)) env1
  | .and a b, env, Q => wE C X a env fun d env1 => tr d fun t => Br t (wE C X b env1 Q) (Q (flF d) env1)
  | .or a b, env, Q => wE C X a env fun d env1 => tr d fun t => Br t (Q (flT d) env1) (wE C X b env1 Q)
  | .one a, env, Q => wE C X a env Q
  | .ite c a b, env, Q => wE C X c env fun d env1 => tr d fun t => Br t (wE C X a env1 Q) (wE C X b env1 Q)
  | .tup es, env, Q => wL C X es env fun ds env1 => Nd (ds.length ≤ sizeLine) (Q (.tup ds) env1)
  | .lst es, env, Q => wL C X es env fun ds env1 => Nd (ds.length ≤ sizeLine) (Q (.lst ds) env1)
  | .disp t es, env, Q => wSt C X es env fun ds env1 => Nd (ds.length ≤ sizeLine) (Q (match t with | true => .tup ds | false => .lst ds) env1)
  | .call f as, env, Q => wA C X as env fun os env1 => Post (callR C f os env1) (fun w env2 => ex (frz w) fun d => Q d env2) X
  | .make c f as, env, Q => wA C X as env fun os env1 => Post (makeR C c f os env1) (fun w env2 => ex (frz w) fun d => Q d env2) X
  | .meth c m f r as, env, Q => wOpd C X r env fun o env1 => Nd (isO c m env1 o = true) (wA C X as env1 fun os env2 => Post (callR C f (o :: os) env2) (fun w env3 => ex (frz w) fun d => Q d env3) X)
  | .mut m i as, env, Q => match getW env i with
    | some (.ol _) => wL C X as env fun ds env1 => match getW env1 i with
      | some (.ol xs) => Ex (mutD m xs ds) fun r => Q r.1 (env1.set i (some (.ol r.2)))
      | _ => False
    | _ => False
  | .fld a f, env, Q => wOpd C X a env fun x env1 => Ex (fldR C f env1 x) fun d => Q d env1
  | .eqc c f a b, env, Q => wE C X a env fun x env1 => wE C X b env1 fun y env2 => Post (match eqD x y with
    | some r => .ok (.bl r) env2
    | none => if insC c x = true ∧ insC c y = true then (noexc (callR C f [.inl x, .inl y] env2)).bind fun w env3 => lift (blR w) env3 else .stuck) Q X
  | .dlt ks es, env, Q => wL C X es env fun ds env1 => Nd (ks.length = ds.length) (Q (.dct ks ds) env1)
  | .lc it t c e, env, Q => wIt C X it env fun ds env1 => Nd (ds.length ≤ sizeLine) (Tu C t c e ds (wipeE env1 t.slots) fun rs env5 => ex (unblk it env env5) fun env6 => Q (.lst rs) env6)
  | .dc it t c k e, env, Q => wIt C X it env fun ds env1 => Nd (ds.length ≤ sizeLine) (Td C t c k e ds (wipeE env1 t.slots) fun rs env5 => ex (unblk it env env5) fun env6 => Ex (dictD (.lst rs)) fun d => Q d env6)
def wOE (C : Ct) (X : XP) : OE → En → (Bool → En → Prop) → Prop
  | .no, env, Q => Q true env
  | .yes e, env, Q => wE C X e env fun d env1 => tr d fun t => Q t env1
def wPt (C : Ct) (X : XP) : OE → En → (Option Int → En → Prop) → Prop
  | .no, env, Q => Q none env
  | .yes e, env, Q => wE C X e env fun d env1 => match d with
    | .int i => Q (some i) env1
    | _ => False
def wIt (C : Ct) (X : XP) : It' → En → (List D → En → Prop) → Prop
  | .seq a, env, Q => wE C X a env fun d env1 => Ex (items d) fun ds => Q ds env1
  | .rng as, env, Q => wL C X as env fun ds env1 => Ex (rngI ds) fun ds => Q ds env1
  | .zip as, env, Q => wL C X as env fun ds env1 => Ex (zipI ds) fun ds => Q ds env1
  | .enum as, env, Q => wL C X as env fun ds env1 => Ex (enumI ds) fun ds => Q ds env1
  | .own i, env, Q => match getW env i with
    | some (.ol ds) => Q ds (env.set i none)
    | _ => False
def wL (C : Ct) (X : XP) : EL → En → (List D → En → Prop) → Prop
  | .nil, env, Q => Q [] env
  | .cons e es, env, Q => wE C X e env fun d env1 => wL C X es env1 fun ds env2 => Q (d :: ds) env2
def wSt (C : Ct) (X : XP) : StL → En → (List D → En → Prop) → Prop
  | .nil, env, Q => Q [] env
  | .cons e es, env, Q => wE C X e env fun d env1 => wSt C X es env1 fun ds env2 => Q (d :: ds) env2
  | .star e es, env, Q => wE C X e env fun d env1 => Ex (seqI d) fun xs => wSt C X es env1 fun ds env2 => Q (xs ++ ds) env2
def wOpd (C : Ct) (X : XP) : Opd → En → (Ov → En → Prop) → Prop
  | .e e, env, Q => wE C X e env fun d env1 => Q (.inl d) env1
  | .own i, env, Q => match getW env i with
    | some _ => Q (.inr i) env
    | none => False
def wO (C : Ct) (X : XP) : OL → En → (List Ov → En → Prop) → Prop
  | .nil, env, Q => Q [] env
  | .cons o os, env, Q => wOpd C X o env fun d env1 => wO C X os env1 fun ds env2 => Q (d :: ds) env2
def wA (C : Ct) (X : XP) : AL → En → (List Ov → En → Prop) → Prop
  | .nil, env, Q => Q [] env
  | .val e as, env, Q => wE C X e env fun d env1 => wA C X as env1 fun ds env2 => Q (.inl d :: ds) env2
  | .ref i as, env, Q => match getW env i with
    | some _ => wA C X as env fun ds env2 => Q (.inr i :: ds) env2
    | none => False
end
mutual
theorem wE_ok {C : Ct} {X : XP} : ∀ (e : E) (env : En) (Q : D → En → Prop), wE C X e env Q → post (evE C e env) Q X
  | .int i, env, Q, h => h
  | .bl b, env, Q, h => h
  | .non, env, Q, h => h
  | .str x, env, Q, h => h
  | .tru i, env, Q, h => by
    rw [wE] at h
    rw [evE, post_lift]
    exact h
  | .ix2 i a k, env, Q, h => by
    rw [wE] at h
    rw [evE]
    split at h
    · rename_i e
      try rw [e]
      try dsimp only
      rw [post_bind]
      refine post_imp (wE_ok a env _ h) (fun x env1 h => ?_) fun _ _ z => z
      rw [Ex_eq] at h
      rw [post_lift]
      exact h
    · exact h.elim
  | .var i, env, Q, h => by
    rw [wE] at h
    rw [evE]
    split at h
    · rename_i e; (try rw [e]); exact h
    · exact h.elim
  | .frz i, env, Q, h => by
    rw [wE] at h
    rw [evE]
    split at h
    · rename_i e; (try rw [e]); exact h
    · rename_i w hw e
      try rw [e]
      revert h
      cases z : frz w with
      | none => exact fun h => h.elim
      | some d =>
        intro h
        cases w with
        | fz d' => exact absurd rfl (hw d')
        | ol _ => simp only [z]; exact h
        | od _ _ => simp only [z]; exact h
        | oi _ _ _ => simp only [z]; exact h
        | ow _ => simp only [z]; exact h
    · exact h.elim
  | .kst d, env, Q, h => h
  | .op o as, env, Q, h => by
    rw [wE] at h
    rw [evE, post_bind]
    refine post_imp (wO_ok as env _ h) (fun os env1 h => ?_) fun _ _ z => z
    rw [post_lift, ex_bind]
    exact ex_imp h fun ds h => opW_ok h
  | .slc a lo hi, env, Q, h => by
    rw [wE] at h
    rw [evE, post_bind]
    refine post_imp (wOpd_ok a env _ h) (fun x env1 h => ?_) fun _ _ z => z
    rw [post_bind]
    refine post_imp (wPt_ok lo env1 _ h) (fun l env2 h => ?_) fun _ _ z => z
    rw [post_bind]
    refine post_imp (wPt_ok hi env2 _ h) (fun u env3 h => ?_) fun _ _ z => z
    rw [post_lift, ex_bind]
    refine ex_imp h fun ds h => ?_
    rw [ex_bind]
    refine ex_imp h fun d h => ?_
    rw [Ex_eq] at h
    exact h
  | .chain a o b o' c, env, Q, h => by
    rw [wE] at h
    rw [evE, post_bind]
    refine post_imp (wE_ok a env _ h) (fun x env1 h => ?_) fun _ _ z => z
    rw [post_bind]
    refine post_imp (wE_ok b env1 _ h) (fun y env2 h => ?_) fun _ _ z => z
    replace h := opW_ok h
    cases z : opD o [x, y] with
    | none => rw [z] at h; exact h.elim
    | some t =>
      rw [z] at h
      clear z
      cases t with
      | bl t =>
        replace h : Br t (wE C X c env2 fun z env3 => opW o' [y, z] fun d => Q d env3) (Q (.bl false) env2) := h
        rw [Br_eq] at h
        cases t with
        | true =>
          rw [if_pos rfl] at h
          dsimp only
          rw [post_bind]
          refine post_imp (wE_ok c env2 _ h) (fun z env3 h => ?_) fun _ _ z => z
          rw [post_lift]
          exact opW_ok h
        | false =>
          rw [if_neg Bool.false_ne_true] at h
          exact h
      | _ => exact h.elim
  | .not a, env, Q, h => by
    rw [wE] at h
    rw [evE, post_bind]
    refine post_imp (wE_ok a env _ h) (fun d env1 h => ?_) fun _ _ z => z
    rw [post_lift]
    replace h := tr_ok h
    revert h
    cases truD d with
    | none => exact fun h => h.elim
    | some b => exact fun h => h
  | .and a b, env, Q, h => by
    rw [wE] at h
    rw [evE, post_bind]
    refine post_imp (wE_ok a env _ h) (fun d env1 h => ?_) fun _ _ z => z
    replace h := tr_ok h
    cases z : truD d with
    | none => rw [z] at h; exact h.elim
    | some t =>
      rw [z] at h
      replace h : Br t (wE C X b env1 Q) (Q (flF d) env1) := h
      rw [Br_eq] at h
      cases t with
      | true => exact wE_ok b env1 _ (by rw [if_pos rfl] at h; exact h)
      | false =>
        rw [if_neg Bool.false_ne_true] at h
        cases d with
        | bl b => cases z; exact h
        | _ => exact h
  | .or a b, env, Q, h => by
    rw [wE] at h
    rw [evE, post_bind]
    refine post_imp (wE_ok a env _ h) (fun d env1 h => ?_) fun _ _ z => z
    replace h := tr_ok h
    cases z : truD d with
    | none => rw [z] at h; exact h.elim
    | some t =>
      rw [z] at h
      replace h : Br t (Q (flT d) env1) (wE C X b env1 Q) := h
      rw [Br_eq] at h
      cases t with
      | true =>
        rw [if_pos rfl] at h
        cases d with
        | bl b => cases z; exact h
        | _ => exact h
      | false => exact wE_ok b env1 _ (by rw [if_neg Bool.false_ne_true] at h; exact h)
  | .one a, env, Q, h => by
    rw [wE] at h
    rw [evE]
    exact wE_ok a env Q h
  | .ite c a b, env, Q, h => by
    rw [wE] at h
    rw [evE, post_bind]
    refine post_imp (wE_ok c env _ h) (fun d env1 h => ?_) fun _ _ z => z
    replace h := tr_ok h
    cases z : truD d with
    | none => rw [z] at h; exact h.elim
    | some t =>
      rw [z] at h
      replace h : Br t (wE C X a env1 Q) (wE C X b env1 Q) := h
      rw [Br_eq] at h
      cases t with
      | true => exact wE_ok a env1 _ (by rw [if_pos rfl] at h; exact h)
      | false => exact wE_ok b env1 _ (by rw [if_neg Bool.false_ne_true] at h; exact h)
  | .tup es, env, Q, h => by
    rw [wE] at h
    rw [evE, post_bind]
    refine post_imp (wL_ok es env _ h) (fun ds env1 h => ?_) fun _ _ z => z
    rw [Nd_eq] at h
    rw [if_pos h.1]
    exact h.2
  | .lst es, env, Q, h => by
    rw [wE] at h
    rw [evE, post_bind]
    refine post_imp (wL_ok es env _ h) (fun ds env1 h => ?_) fun _ _ z => z
    rw [Nd_eq] at h
    rw [if_pos h.1]
    exact h.2
  | .disp t es, env, Q, h => by
    rw [wE] at h
    rw [evE, post_bind]
    refine post_imp (wSt_ok es env _ h) (fun ds env1 h => ?_) fun _ _ z => z
    rw [Nd_eq] at h
    rw [if_pos h.1]
    cases t with
    | true => exact h.2
    | false => exact h.2
  | .call f as, env, Q, h => by
    rw [wE] at h
    rw [evE, post_bind]
    refine post_imp (wA_ok as env _ h) (fun os env1 h => ?_) fun _ _ z => z
    rw [Post_eq] at h
    rw [post_bind]
    refine post_imp h (fun w env2 h => ?_) fun _ _ z => z
    rw [post_lift]
    exact h
  | .make c f as, env, Q, h => by
    rw [wE] at h
    rw [evE, post_bind]
    refine post_imp (wA_ok as env _ h) (fun os env1 h => ?_) fun _ _ z => z
    rw [Post_eq] at h
    rw [post_bind]
    refine post_imp h (fun w env2 h => ?_) fun _ _ z => z
    rw [post_lift]
    exact h
  | .meth c m f r as, env, Q, h => by
    rw [wE] at h
    rw [evE, post_bind]
    refine post_imp (wOpd_ok r env _ h) (fun o env1 h => ?_) fun _ _ z => z
    rw [Nd_eq] at h
    rw [if_pos h.1, post_bind]
    refine post_imp (wA_ok as env1 _ h.2) (fun os env2 h => ?_) fun _ _ z => z
    rw [Post_eq] at h
    rw [post_bind]
    refine post_imp h (fun w env3 h => ?_) fun _ _ z => z
    rw [post_lift]
    exact h
  | .mut m i as, env, Q, h => by
    rw [wE] at h
    rw [evE]
    split at h
    · rename_i e
      try rw [e]
      try dsimp only
      rw [post_bind]
      refine post_imp (wL_ok as env _ h) (fun ds env1 h => ?_) fun _ _ z => z
      split at h
      · rename_i xs e1
        try rw [e1]
        try dsimp only
        rw [post_bind, post_lift]
        rw [Ex_eq] at h
        exact h
      · exact h.elim
    · exact h.elim
  | .fld a f, env, Q, h => by
    rw [wE] at h
    rw [evE, post_bind]
    refine post_imp (wOpd_ok a env _ h) (fun x env1 h => ?_) fun _ _ z => z
    rw [post_lift]
    rw [Ex_eq] at h
    exact h
  | .eqc c f a b, env, Q, h => by
    rw [wE] at h
    rw [evE, post_bind]
    refine post_imp (wE_ok a env _ h) (fun x env1 h => ?_) fun _ _ z => z
    rw [post_bind]
    refine post_imp (wE_ok b env1 _ h) (fun y env2 h => ?_) fun _ _ z => z
    rw [Post_eq] at h
    exact h
  | .dlt ks es, env, Q, h => by
    rw [wE] at h
    rw [evE, post_bind]
    refine post_imp (wL_ok es env _ h) (fun ds env1 h => ?_) fun _ _ z => z
    rw [Nd_eq] at h
    rw [if_pos h.1]
    exact h.2
  | .lc it t c e, env, Q, h => by
    rw [wE] at h
    rw [evE, post_bind]
    refine post_imp (wIt_ok it env _ h) (fun ds env1 h => ?_) fun _ _ z => z
    rw [Nd_eq] at h
    rw [if_pos h.1, post_bind, post_noexc]
    replace h := h.2.h
    refine post_imp h (fun rs env5 h => ?_) fun _ _ z => z.elim
    revert h
    cases unblk it env env5 with
    | none => exact fun h => h
    | some env6 => exact fun h => h
  | .dc it t c k e, env, Q, h => by
    rw [wE] at h
    rw [evE, post_bind]
    refine post_imp (wIt_ok it env _ h) (fun ds env1 h => ?_) fun _ _ z => z
    rw [Nd_eq] at h
    rw [if_pos h.1, post_bind, post_noexc]
    replace h := h.2.h
    refine post_imp h (fun rs env5 h => ?_) fun _ _ z => z.elim
    revert h
    cases unblk it env env5 with
    | none => exact fun h => h
    | some env6 =>
      intro h
      dsimp only
      rw [post_lift]
      replace h : Ex (dictD (.lst rs)) fun d => Q d env6 := h
      rw [Ex_eq] at h
      exact h
theorem wOE_ok {C : Ct} {X : XP} : ∀ (e : OE) (env : En) (Q : Bool → En → Prop), wOE C X e env Q → post (evOE C e env) Q X
  | .no, env, Q, h => h
  | .yes e, env, Q, h => by
    rw [wOE] at h
    rw [evOE, post_bind]
    refine post_imp (wE_ok e env _ h) (fun d env1 h => ?_) fun _ _ z => z
    rw [post_lift]
    exact tr_ok h
theorem wPt_ok {C : Ct} {X : XP} : ∀ (e : OE) (env : En) (Q : Option Int → En → Prop), wPt C X e env Q → post (evPt C e env) Q X
  | .no, env, Q, h => h
  | .yes e, env, Q, h => by
    rw [wPt] at h
    rw [evPt, post_bind]
    refine post_imp (wE_ok e env _ h) (fun d env1 h => ?_) fun _ _ z => z
    cases d with
    | int i => exact h
    | _ => exact h.elim
theorem wIt_ok {C : Ct} {X : XP} : ∀ (e : It') (env : En) (Q : List D → En → Prop), wIt C X e env Q → post (evIt C e env) Q X
  | .seq a, env, Q, h => by
    rw [wIt] at h
    rw [evIt, post_bind]
    refine post_imp (wE_ok a env _ h) (fun d env1 h => ?_) fun _ _ z => z
    rw [post_lift]
    rw [Ex_eq] at h
    exact h
  | .rng as, env, Q, h => by
    rw [wIt] at h
    rw [evIt, post_bind]
    refine post_imp (wL_ok as env _ h) (fun d env1 h => ?_) fun _ _ z => z
    rw [post_lift]
    rw [Ex_eq] at h
    exact h
  | .zip as, env, Q, h => by
    rw [wIt] at h
    rw [evIt, post_bind]
    refine post_imp (wL_ok as env _ h) (fun d env1 h => ?_) fun _ _ z => z
    rw [post_lift]
    rw [Ex_eq] at h
    exact h
  | .enum as, env, Q, h => by
    rw [wIt] at h
    rw [evIt, post_bind]
    refine post_imp (wL_ok as env _ h) (fun d env1 h => ?_) fun _ _ z => z
    rw [post_lift]
    rw [Ex_eq] at h
    exact h
  | .own i, env, Q, h => by
    rw [wIt] at h
    rw [evIt]
    split at h
    · rename_i e; (try rw [e]); exact h
    · exact h.elim
theorem wL_ok {C : Ct} {X : XP} : ∀ (e : EL) (env : En) (Q : List D → En → Prop), wL C X e env Q → post (evL C e env) Q X
  | .nil, env, Q, h => h
  | .cons e es, env, Q, h => by
    rw [wL] at h
    rw [evL, post_bind]
    refine post_imp (wE_ok e env _ h) (fun d env1 h => ?_) fun _ _ z => z
    rw [post_bind]
    exact post_imp (wL_ok es env1 _ h) (fun ds env2 h => h) fun _ _ z => z
theorem wSt_ok {C : Ct} {X : XP} : ∀ (e : StL) (env : En) (Q : List D → En → Prop), wSt C X e env Q → post (evSt C e env) Q X
  | .nil, env, Q, h => h
  | .cons e es, env, Q, h => by
    rw [wSt] at h
    rw [evSt, post_bind]
    refine post_imp (wE_ok e env _ h) (fun d env1 h => ?_) fun _ _ z => z
    rw [post_bind]
    exact post_imp (wSt_ok es env1 _ h) (fun ds env2 h => h) fun _ _ z => z
  | .star e es, env, Q, h => by
    rw [wSt] at h
    rw [evSt, post_bind]
    refine post_imp (wE_ok e env _ h) (fun d env1 h => ?_) fun _ _ z => z
    rw [post_bind, post_lift]
    rw [Ex_eq] at h
    refine ex_imp h fun xs h => ?_
    rw [post_bind]
    exact post_imp (wSt_ok es env1 _ h) (fun ds env2 h => h) fun _ _ z => z
theorem wOpd_ok {C : Ct} {X : XP} : ∀ (e : Opd) (env : En) (Q : Ov → En → Prop), wOpd C X e env Q → post (evOpd C e env) Q X
  | .e e, env, Q, h => by
    rw [wOpd] at h
    rw [evOpd, post_bind]
    exact post_imp (wE_ok e env _ h) (fun d env1 h => h) fun _ _ z => z
  | .own i, env, Q, h => by
    rw [wOpd] at h
    rw [evOpd]
    split at h
    · rename_i e; (try rw [e]); exact h
    · exact h.elim
theorem wO_ok {C : Ct} {X : XP} : ∀ (e : OL) (env : En) (Q : List Ov → En → Prop), wO C X e env Q → post (evO C e env) Q X
  | .nil, env, Q, h => h
  | .cons o os, env, Q, h => by
    rw [wO] at h
    rw [evO, post_bind]
    refine post_imp (wOpd_ok o env _ h) (fun d env1 h => ?_) fun _ _ z => z
    rw [post_bind]
    exact post_imp (wO_ok os env1 _ h) (fun ds env2 h => h) fun _ _ z => z
theorem wA_ok {C : Ct} {X : XP} : ∀ (e : AL) (env : En) (Q : List Ov → En → Prop), wA C X e env Q → post (evA C e env) Q X
  | .nil, env, Q, h => h
  | .val e as, env, Q, h => by
    rw [wA] at h
    rw [evA, post_bind]
    refine post_imp (wE_ok e env _ h) (fun d env1 h => ?_) fun _ _ z => z
    rw [post_bind]
    exact post_imp (wA_ok as env1 _ h) (fun ds env2 h => h) fun _ _ z => z
  | .ref i as, env, Q, h => by
    rw [wA] at h
    rw [evA]
    split at h
    · rename_i e
      try rw [e]
      try dsimp only
      rw [post_bind]
      exact post_imp (wA_ok as env _ h) (fun ds env2 h => h) fun _ _ z => z
    · exact h.elim
end
end Ev

set_option Elab.async false
set_option linter.all false
set_option maxRecDepth 100000
set_option maxHeartbeats 4000000
namespace Ev
open PySem PySem.Spec PyProof.Rows L2 He Gw
/-- what an expression tells as an object of one's own -/
def wW (C : Ct) (X : XP) : E → En → (Wv → En → Prop) → Prop
  | .lst es, env, Q => wL C X es env fun ds env1 => Nd (ds.length ≤ sizeLine) (Q (.ol ds) env1)
  | .disp false es, env, Q => wSt C X es env fun ds env1 => Nd (ds.length ≤ sizeLine) (Q (.ol ds) env1)
  | .call f as, env, Q => wA C X as env fun os env1 => Post (callR C f os env1) Q X
  | .make c f as, env, Q => wA C X as env fun os env1 => Post (makeR C c f os env1) Q X
  | .meth c m f r as, env, Q => wOpd C X r env fun o env1 => Nd (isO c m env1 o = true) (wA C X as env1 fun os env2 => Post (callR C f (o :: os) env2) Q X)
  | .lc it t c e, env, Q => wE C X (.lc it t c e) env fun d env1 => match d with
    | .lst ds => Q (.ol ds) env1
    | _ => False
  | .op .list as, env, Q => wE C X (.op .list as) env fun d env1 => match d with
    | .lst ds => Q (.ol ds) env1
    | _ => False
  | .op .add as, env, Q => wE C X (.op .add as) env fun d env1 => match d with
    | .lst ds => Q (.ol ds) env1
    | _ => False
  | .op .mul as, env, Q => wE C X (.op .mul as) env fun d env1 => match d with
    | .lst ds => Q (.ol ds) env1
    | _ => False
  | _, _, _ => False
theorem post_thaw {d : D} {env : En} {Q : Wv → En → Prop} {X : XP} (h : match d with
    | .lst ds => Q (.ol ds) env
    | _ => False) : post (lift (thaw d) env) Q X := by
  cases d with
  | lst ds => exact h
  | _ => exact h.elim
theorem wW_ok {C : Ct} {X : XP} (e : E) (env : En) (Q : Wv → En → Prop) (h : wW C X e env Q) : post (evW C e env) Q X := by
  unfold wW at h
  split at h
  · rw [evW, post_bind]
    refine post_imp (wL_ok _ env _ h) (fun ds env1 h => ?_) fun _ _ z => z
    rw [Nd_eq] at h
    rw [if_pos h.1]
    exact h.2
  · rw [evW, post_bind]
    refine post_imp (wSt_ok _ env _ h) (fun ds env1 h => ?_) fun _ _ z => z
    rw [Nd_eq] at h
    rw [if_pos h.1]
    exact h.2
  · rw [evW, post_bind]
    refine post_imp (wA_ok _ env _ h) (fun os env1 h => ?_) fun _ _ z => z
    rw [Post_eq] at h
    exact h
  · rw [evW, post_bind]
    refine post_imp (wA_ok _ env _ h) (fun os env1 h => ?_) fun _ _ z => z
    rw [Post_eq] at h
    exact h
  · rw [evW, post_bind]
    refine post_imp (wOpd_ok _ env _ h) (fun o env1 h => ?_) fun _ _ z => z
    rw [Nd_eq] at h
    rw [if_pos h.1, post_bind]
    refine post_imp (wA_ok _ env1 _ h.2) (fun os env2 h => ?_) fun _ _ z => z
    rw [Post_eq] at h
    exact h
  · rw [evW, post_bind]
    exact post_imp (wE_ok _ env _ h) (fun d env1 h => post_thaw h) fun _ _ z => z
  · rw [evW, post_bind]
    exact post_imp (wE_ok _ env _ h) (fun d env1 h => post_thaw h) fun _ _ z => z
  · rw [evW, post_bind]
    exact post_imp (wE_ok _ env _ h) (fun d env1 h => post_thaw h) fun _ _ z => z
  · rw [evW, post_bind]
    exact post_imp (wE_ok _ env _ h) (fun d env1 h => post_thaw h) fun _ _ z => z
  · exact h.elim
structure Fo' (C : Ct) (X : XP) (pn : Nat → Bool) (t : Tg) (it : It') (b : SL) (env0 : En) (ds : List D) (env : En) (Q : Fl → En → Prop) : Prop where
  h : post (forR (fun d env => match bindT (also pn it.slot) env t d with
      | some env2 => evSL C (also pn it.slot) b env2
      | none => .stuck) ds env) (fun fl env1 => match fl with
        | .nx => ex (unblk it env0 env1) fun env2 => Q .nx env2
        | r => Q r env1) X
structure Wh (C : Ct) (X : XP) (pn : Nat → Bool) (c : E) (b : SL) (n : Nat) (env : En) (Q : Fl → En → Prop) : Prop where
  h : post (whileR (evE C c) (evSL C pn b) n env) Q X
mutual
def wS (C : Ct) (X : XP) (pn : Nat → Bool) : S → En → (Fl → En → Prop) → Prop
  | .asg t e, env, Q => wE C X e env fun d env1 => ex (bindT pn env1 t d) fun env2 => Q .nx env2
  | .own i e, env, Q => wW C X e env fun w env1 => ex (bind1 pn env1 i w) fun env2 => Q .nx env2
  | .expr e, env, Q => wE C X e env fun _ env1 => Q .nx env1
  | .ret e, env, Q => wE C X e env fun d env1 => Q (.rt (.fz d)) env1
  | .retW e, env, Q => wW C X e env fun w env1 => Q (.rt w) env1
  | .retO i, env, Q => match getW env i with
    | some w => if pn i = true then False else Q (.rt w) (env.set i none)
    | none => False
  | .retN, env, Q => Q (.rt (.fz .non)) env
  | .if_ c a b, env, Q => wE C X c env fun d env1 => tr d fun t => Br t (wSL C X pn a env1 Q) (wSL C X pn b env1 Q)
  | .for_ t it b, env, Q => wIt C X it env fun ds env1 => Fo' C X pn t it b env ds env1 Q
  | .while_ c b, env, Q => Wh C X pn c b C.fuel env Q
  | .brk, env, Q => Q .bk env
  | .cont, env, Q => Q .ct env
  | .pass, env, Q => Q .nx env
  | .doc, env, Q => Q .nx env
  | .raise c ks as, env, Q => wL C X as env fun ds env1 => Nd (ks.length = ds.length) (X ⟨c, ks, ds⟩ env1)
  | .try_ b hs, env, Q => wSL C (fun x env1 => wH C X pn hs x env1 Q) pn b env Q
  | .set i ix e, env, Q => wE C X e env fun d env1 => match getW env1 i with
    | some _ => wE C X ix env1 fun k env2 => match getW env2 i with
      | some w => Ex (setD w k d) fun w2 => Q .nx (env2.set i (some w2))
      | none => False
    | none => False
  | .app2 i e, env, Q => match (getW env i).bind owL with
    | some _ => wW C X e env fun w env1 => Ex ((getW env1 i).bind (app2W w)) fun w2 => Q .nx (env1.set i (some w2))
    | none => False
  | .set2 i a k e, env, Q => wE C X e env fun d env1 => match getW env1 i with
    | some _ => wE C X a env1 fun x env2 => Ex ((getW env2 i).bind (set2W k x d)) fun w2 => Q .nx (env2.set i (some w2))
    | none => False
  | .asgf i j f e, env, Q => wE C X e env fun d env1 => match d with
    | .tup [d1, d2] => ex (bind1 pn env1 i (.fz d1)) fun env2 => match getW env2 j with
      | some w => Nd (fokW C f w = true) (Ex (setF f d2 w) fun w2 => Q .nx (env2.set j (some w2)))
      | none => False
    | _ => False
  | .setf i f e, env, Q => wE C X e env fun d env1 => match getW env1 i with
    | some w => Nd (fokW C f w = true) (Ex (setF f d w) fun w2 => Q .nx (env1.set i (some w2)))
    | none => False
def wSL (C : Ct) (X : XP) (pn : Nat → Bool) : SL → En → (Fl → En → Prop) → Prop
  | .nil, env, Q => Q .nx env
  | .cons s ss, env, Q => wS C X pn s env fun fl env1 => match fl with
    | .nx => wSL C X pn ss env1 Q
    | r => Q r env1
def wH (C : Ct) (X : XP) (pn : Nat → Bool) : HL → Xc → En → (Fl → En → Prop) → Prop
  | .nil, x, env, Q => X x env
  | .cons c n b hs, x, env, Q => Ex (C.isa x.c c) fun t => Br t (match n with
      | none => wSL C (fun _ _ => False) pn b env Q
      | some i => False) (wH C X pn hs x env Q)
  | .ret c i f k hs, x, env, Q => Ex (C.isa x.c c) fun t => Br t (Nd (x.c = c ∧ i < env.length) (Ex (lookF x.ks x.ds f) fun d => Q (.rt (.fz (xrD k d))) env)) (wH C X pn hs x env Q)
end
mutual
theorem wS_ok {C : Ct} {pn : Nat → Bool} : ∀ (s : S) {X : XP} (env : En) (Q : Fl → En → Prop), wS C X pn s env Q → post (evS C pn s env) Q X
  | .asg t e, X, env, Q, h => by
    rw [wS] at h
    rw [evS, post_bind]
    refine post_imp (wE_ok e env _ h) (fun d env1 h => ?_) fun _ _ z => z
    rw [post_bind, post_lift]
    exact h
  | .own i e, X, env, Q, h => by
    rw [wS] at h
    rw [evS, post_bind]
    refine post_imp (wW_ok e env _ h) (fun d env1 h => ?_) fun _ _ z => z
    rw [post_bind, post_lift]
    exact h
  | .expr e, X, env, Q, h => by
    rw [wS] at h
    rw [evS, post_bind]
    exact post_imp (wE_ok e env _ h) (fun d env1 h => h) fun _ _ z => z
  | .ret e, X, env, Q, h => by
    rw [wS] at h
    rw [evS, post_bind]
    exact post_imp (wE_ok e env _ h) (fun d env1 h => h) fun _ _ z => z
  | .retW e, X, env, Q, h => by
    rw [wS] at h
    rw [evS, post_bind]
    exact post_imp (wW_ok e env _ h) (fun d env1 h => h) fun _ _ z => z
  | .retO i, X, env, Q, h => by
    rw [wS] at h
    rw [evS]
    split at h
    · rename_i e
      try rw [e]
      try dsimp only
      split at h
      · exact h.elim
      · rename_i e1
        try rw [if_neg e1]
        exact h
    · exact h.elim
  | .retN, X, env, Q, h => h
  | .if_ c a b, X, env, Q, h => by
    rw [wS] at h
    rw [evS, post_bind]
    refine post_imp (wE_ok c env _ h) (fun d env1 h => ?_) fun _ _ z => z
    replace h := tr_ok h
    cases z : truD d with
    | none => rw [z] at h; exact h.elim
    | some t =>
      rw [z] at h
      replace h : Br t (wSL C X pn a env1 Q) (wSL C X pn b env1 Q) := h
      rw [Br_eq] at h
      cases t with
      | true => exact wSL_ok a env1 _ (by rw [if_pos rfl] at h; exact h)
      | false => exact wSL_ok b env1 _ (by rw [if_neg Bool.false_ne_true] at h; exact h)
  | .for_ t it b, X, env, Q, h => by
    rw [wS] at h
    rw [evS, post_bind]
    refine post_imp (wIt_ok it env _ h) (fun ds env1 h => ?_) fun _ _ z => z
    replace h := h.h
    generalize forR _ ds env1 = r at h ⊢
    cases r with
    | stuck => exact h
    | exc x e => exact h
    | ok fl e =>
      cases fl with
      | nx =>
        replace h : ex (unblk it env e) fun env2 => Q .nx env2 := h
        show post (match unblk it env e with
          | some env2 => R.ok Fl.nx env2
          | none => R.stuck) Q X
        cases z : unblk it env e with
        | none => rw [z] at h; exact h
        | some env2 => rw [z] at h; exact h
      | _ => exact h
  | .while_ c b, X, env, Q, h => by
    rw [wS] at h
    rw [evS]
    replace h := h.h
    exact h
  | .brk, X, env, Q, h => h
  | .cont, X, env, Q, h => h
  | .pass, X, env, Q, h => h
  | .doc, X, env, Q, h => h
  | .raise c ks as, X, env, Q, h => by
    rw [wS] at h
    rw [evS, post_bind]
    refine post_imp (wL_ok as env _ h) (fun ds env1 h => ?_) fun _ _ z => z
    rw [Nd_eq] at h
    rw [if_pos h.1]
    exact h.2
  | .try_ b hs, X, env, Q, h => by
    rw [wS] at h
    rw [evS]
    have p := wSL_ok b env _ h
    revert p
    cases evSL C pn b env with
    | ok fl e => exact fun h => h
    | stuck => exact fun h => h
    | exc x e => exact fun h => wH_ok hs x e Q h
  | .set i ix e, X, env, Q, h => by
    rw [wS] at h
    rw [evS, post_bind]
    refine post_imp (wE_ok e env _ h) (fun d env1 h => ?_) fun _ _ z => z
    split at h
    · rename_i e1
      try rw [e1]
      try dsimp only
      rw [post_bind]
      refine post_imp (wE_ok ix env1 _ h) (fun k env2 h => ?_) fun _ _ z => z
      split at h
      · rename_i e2
        try rw [e2]
        try dsimp only
        rw [post_bind, post_lift]
        rw [Ex_eq] at h
        exact h
      · exact h.elim
    · exact h.elim
  | .app2 i e, X, env, Q, h => by
    rw [wS] at h
    rw [evS]
    split at h
    · rename_i e1
      try rw [e1]
      try dsimp only
      rw [post_bind]
      refine post_imp (wW_ok e env _ h) (fun w env1 h => ?_) fun _ _ z => z
      rw [post_bind, post_lift]
      rw [Ex_eq] at h
      exact h
    · exact h.elim
  | .set2 i a k e, X, env, Q, h => by
    rw [wS] at h
    rw [evS, post_bind]
    refine post_imp (wE_ok e env _ h) (fun d env1 h => ?_) fun _ _ z => z
    split at h
    · rename_i e1
      try rw [e1]
      try dsimp only
      rw [post_bind]
      refine post_imp (wE_ok a env1 _ h) (fun x env2 h => ?_) fun _ _ z => z
      rw [post_bind, post_lift]
      rw [Ex_eq] at h
      exact h
    · exact h.elim
  | .asgf i j f e, X, env, Q, h => by
    rw [wS] at h
    rw [evS, post_bind]
    refine post_imp (wE_ok e env _ h) (fun d env1 h => ?_) fun _ _ z => z
    split at h
    · try dsimp only
      rw [post_bind, post_lift]
      refine ex_imp h fun env2 h => ?_
      split at h
      · rename_i e1
        try rw [e1]
        try dsimp only
        rw [Nd_eq] at h
        rw [if_pos h.1, post_bind, post_lift]
        replace h := h.2
        rw [Ex_eq] at h
        exact h
      · exact h.elim
    · exact h.elim
  | .setf i f e, X, env, Q, h => by
    rw [wS] at h
    rw [evS, post_bind]
    refine post_imp (wE_ok e env _ h) (fun d env1 h => ?_) fun _ _ z => z
    split at h
    · rename_i e1
      try rw [e1]
      try dsimp only
      rw [Nd_eq] at h
      rw [if_pos h.1, post_bind, post_lift]
      replace h := h.2
      rw [Ex_eq] at h
      exact h
    · exact h.elim
theorem wSL_ok {C : Ct} {pn : Nat → Bool} : ∀ (s : SL) {X : XP} (env : En) (Q : Fl → En → Prop), wSL C X pn s env Q → post (evSL C pn s env) Q X
  | .nil, X, env, Q, h => h
  | .cons s ss, X, env, Q, h => by
    rw [wSL] at h
    rw [evSL, post_bind]
    refine post_imp (wS_ok s env _ h) (fun fl env1 h => ?_) fun _ _ z => z
    cases fl with
    | nx => exact wSL_ok ss env1 Q h
    | _ => exact h
theorem wH_ok {C : Ct} {pn : Nat → Bool} : ∀ (s : HL) {X : XP} (x : Xc) (env : En) (Q : Fl → En → Prop), wH C X pn s x env Q → post (evH C pn s x env) Q X
  | .nil, X, x, env, Q, h => h
  | .cons c none b hs, X, x, env, Q, h => by
    rw [wH, Ex_eq] at h
    rw [evH]
    cases z : C.isa x.c c with
    | none => rw [z] at h; exact h
    | some t =>
      rw [z] at h
      replace h : Br t (wSL C (fun _ _ => False) pn b env Q) (wH C X pn hs x env Q) := h
      rw [Br_eq] at h
      cases t with
      | false => exact wH_ok hs x env Q (by rw [if_neg Bool.false_ne_true] at h; exact h)
      | true =>
        rw [if_pos rfl] at h
        dsimp only
        rw [post_noexc]
        exact wSL_ok b env Q h
  | .cons c (some i) b hs, X, x, env, Q, h => by
    rw [wH, Ex_eq] at h
    rw [evH]
    cases z : C.isa x.c c with
    | none => rw [z] at h; exact h
    | some t =>
      rw [z] at h
      replace h : Br t False (wH C X pn hs x env Q) := h
      rw [Br_eq] at h
      cases t with
      | false => exact wH_ok hs x env Q (by rw [if_neg Bool.false_ne_true] at h; exact h)
      | true => rw [if_pos rfl] at h; exact h.elim
  | .ret c i f k hs, X, x, env, Q, h => by
    rw [wH, Ex_eq] at h
    rw [evH]
    cases z : C.isa x.c c with
    | none => rw [z] at h; exact h
    | some t =>
      rw [z] at h
      replace h : Br t (Nd (x.c = c ∧ i < env.length) (Ex (lookF x.ks x.ds f) fun d => Q (.rt (.fz (xrD k d))) env)) (wH C X pn hs x env Q) := h
      rw [Br_eq] at h
      cases t with
      | false => exact wH_ok hs x env Q (by rw [if_neg Bool.false_ne_true] at h; exact h)
      | true =>
        rw [if_pos rfl, Nd_eq] at h
        dsimp only
        rw [if_pos h.1]
        replace h := h.2
        rw [Ex_eq] at h
        cases z : lookF x.ks x.ds f with
        | none => rw [z] at h; exact h
        | some d => rw [z] at h; exact h
end
/-! ### calls -/
structure Calls (C : Ct) (f : Nat) (ws : List Wv) (Q : Wv → List Wv → Prop) (X : Xc → List Wv → Prop) : Prop where
  h : match C.cal f ws with
    | .ok r outs => outs.length = ws.length ∧ Q r outs
    | .exc x outs => outs.length = ws.length ∧ X x outs
    | .stuck => False
theorem Calls.imp {C : Ct} {f : Nat} {ws : List Wv} {Q Q' : Wv → List Wv → Prop} {X X' : Xc → List Wv → Prop} (h : Calls C f ws Q X) (q : ∀ r o, Q r o → Q' r o) (x : ∀ r o, X r o → X' r o) : Calls C f ws Q' X' := by
  replace h := h.h
  refine ⟨?_⟩
  split at h
  · exact ⟨h.1, q _ _ h.2⟩
  · exact ⟨h.1, x _ _ h.2⟩
  · exact h
theorem post_call {C : Ct} {f : Nat} {os : List Ov} {env : En} {ws : List Wv} {Q : Wv → En → Prop} {X : XP} (hn : (slots os).Nodup) (ha : Ev.resA env os = some ws)
    (h : Calls C f ws (fun r outs => Q r (putA env os outs)) (fun x outs => X x (putA env os outs))) : Post (callR C f os env) Q X := by
  rw [Post_eq]
  unfold callR
  rw [if_pos hn, ha]
  dsimp only
  replace h := h.h
  cases z : C.cal f ws with
  | ok r outs => rw [z] at h; dsimp only; rw [if_pos h.1]; exact h.2
  | exc r outs => rw [z] at h; dsimp only; rw [if_pos h.1]; exact h.2
  | stuck => rw [z] at h; exact h.elim
theorem post_make {C : Ct} {c : Str} {f : Nat} {os : List Ov} {env : En} {ws : List Wv} {Q : Wv → En → Prop} {X : XP} (hn : (slots os).Nodup) (ha : Ev.resA env os = some ws)
    (h : Calls C f (.oi c [] [] :: ws) (fun r outs => r = .fz .non ∧ ∃ w us, outs = w :: us ∧ Q w (putA env os us)) (fun x outs => ∃ w us, outs = w :: us ∧ X x (putA env os us))) : Post (makeR C c f os env) Q X := by
  rw [Post_eq]
  unfold makeR
  rw [if_pos hn, ha]
  dsimp only
  replace h := h.h
  cases z : C.cal f (.oi c [] [] :: ws) with
  | ok r outs =>
    rw [z] at h
    obtain ⟨l, rfl, w, us, rfl, h⟩ := h
    dsimp only
    rw [if_pos (by simpa using l)]
    exact h
  | exc r outs =>
    rw [z] at h
    obtain ⟨l, w, us, rfl, h⟩ := h
    dsimp only
    rw [if_pos (by simpa using l)]
    exact h
  | stuck => rw [z] at h; exact h.elim
/-- what a def's end tells -/
def fin' (ws : List Wv) (Q : Wv → List Wv → Prop) : Fl → En → Prop
  | .nx, e => ex (outsA e 0 ws) fun os => Q (.fz .non) os
  | .rt w, e => ex (outsA e 0 ws) fun os => Q w os
  | _, _ => False
theorem calls_of {T : Nat → Option Fd} {C : Ct} {k f nps n : Nat} {b : SL} {ws : List Wv} {Q : Wv → List Wv → Prop} {X : Xc → List Wv → Prop} (e : T f = some ⟨nps, n, b⟩) (l : ws.length = nps)
    (h : wSL (ctx T C k) (fun x e => ex (outsA e 0 ws) fun os => X x os) (pnOf ws) b (ws.map some ++ List.replicate (n - ws.length) none) (fin' ws Q)) : Calls (ctx T C (k + 1)) f ws Q X := by
  have p := wSL_ok b _ _ h
  refine ⟨?_⟩
  show match calT T C (k + 1) f ws with
    | .ok r outs => outs.length = ws.length ∧ Q r outs
    | .exc x outs => outs.length = ws.length ∧ X x outs
    | .stuck => False
  rw [calT, e]
  dsimp only
  rw [if_pos l]
  unfold runF
  generalize evSL _ _ b _ = r at p ⊢
  cases r with
  | stuck => exact p.elim
  | exc x e =>
    replace p : ex (outsA e 0 ws) fun os => X x os := p
    dsimp only
    cases z : outsA e 0 ws with
    | none => rw [z] at p; exact p.elim
    | some os => rw [z] at p; exact ⟨(outsA_get z).1, p⟩
  | ok fl e =>
    cases fl with
    | bk => exact p.elim
    | ct => exact p.elim
    | nx =>
      replace p : ex (outsA e 0 ws) fun os => Q (.fz .non) os := p
      dsimp only
      cases z : outsA e 0 ws with
      | none => rw [z] at p; exact p.elim
      | some os => rw [z] at p; exact ⟨(outsA_get z).1, p⟩
    | rt w =>
      replace p : ex (outsA e 0 ws) fun os => Q w os := p
      dsimp only
      cases z : outsA e 0 ws with
      | none => rw [z] at p; exact p.elim
      | some os => rw [z] at p; exact ⟨(outsA_get z).1, p⟩
theorem law_of {T : Nat → Option Fd} {C : Ct} {k f : Nat} {ws : List Wv} {r : Wv} (h : Calls (ctx T C k) f ws (fun x _ => x = r) (fun _ _ => False)) : ∃ outs, calT T C k f ws = .ok r outs := by
  replace h := h.h
  cases z : (ctx T C k).cal f ws with
  | ok x outs =>
    rw [z] at h
    obtain ⟨_, rfl⟩ := h
    exact ⟨outs, z⟩
  | exc x outs => rw [z] at h; exact h.2.elim
  | stuck => rw [z] at h; exact h.elim
/-! ### loops -/
/-- turn by turn: I holds of how many turns are done -/
theorem for_inv {C : Ct} {X : XP} {pn : Nat → Bool} {t : Tg} {it : It'} {b : SL} {env0 env : En} {ds : List D} {Q : Fl → En → Prop} (I : Nat → En → Prop) (h0 : I 0 env)
    (hs : ∀ (k : Nat) d e, ds[k]? = some d → I k e → ex (bindT (also pn it.slot) e t d) fun e2 => wSL C X (also pn it.slot) b e2 fun fl e3 => match fl with
      | .nx => I (k + 1) e3
      | .ct => I (k + 1) e3
      | .bk => ex (unblk it env0 e3) fun e4 => Q .nx e4
      | .rt w => Q (.rt w) e3)
    (hq : ∀ e, I ds.length e → ex (unblk it env0 e) fun e2 => Q .nx e2) : Fo' C X pn t it b env0 ds env Q := by
  refine ⟨?_⟩
  have key : ∀ (xs : List D) (k : Nat) (e : En), k ≤ ds.length → ds.drop k = xs → I k e → post (forR (fun d env => match bindT (also pn it.slot) env t d with
      | some env2 => evSL C (also pn it.slot) b env2
      | none => .stuck) xs e) (fun fl env1 => match fl with
        | .nx => ex (unblk it env0 env1) fun env2 => Q .nx env2
        | r => Q r env1) X := by
    intro xs
    induction xs with
    | nil =>
      intro k e hk hd hi
      have l := congrArg List.length hd
      rw [List.length_drop, List.length_nil] at l
      rw [show k = ds.length by omega] at hi
      exact hq e hi
    | cons x xs ih =>
      intro k e hk hd hi
      have l := congrArg List.length hd
      rw [List.length_drop, List.length_cons] at l
      have hx : ds[k]? = some x := by
        have := congrArg List.head? hd
        rw [List.head?_drop] at this
        exact this
      have hd' : ds.drop (k + 1) = xs := by rw [← List.drop_drop, hd] <;> rfl
      have h := hs k x e hx hi
      rw [forR, post_bind]
      cases z : bindT (also pn it.slot) e t x with
      | none => rw [z] at h; exact h.elim
      | some e2 =>
        rw [z] at h
        refine post_imp (wSL_ok b e2 _ h) (fun fl e3 h => ?_) fun _ _ z => z
        cases fl with
        | nx => exact ih (k + 1) e3 (by omega) hd' h
        | ct => exact ih (k + 1) e3 (by omega) hd' h
        | bk => exact h
        | rt w => exact h
  exact key ds 0 env (Nat.zero_le _) (by simp) h0
/-- a loop over what is there, turn by turn -/
theorem for_nil {C : Ct} {X : XP} {pn : Nat → Bool} {t : Tg} {it : It'} {b : SL} {env0 env : En} {Q : Fl → En → Prop} (h : ex (unblk it env0 env) fun e2 => Q .nx e2) : Fo' C X pn t it b env0 [] env Q := by
  refine ⟨?_⟩
  exact h
theorem for_cons {C : Ct} {X : XP} {pn : Nat → Bool} {t : Tg} {it : It'} {b : SL} {env0 env : En} {d : D} {ds : List D} {Q : Fl → En → Prop}
    (h : ex (bindT (also pn it.slot) env t d) fun e2 => wSL C X (also pn it.slot) b e2 fun fl e3 => match fl with
      | .nx => Fo' C X pn t it b env0 ds e3 Q
      | .ct => Fo' C X pn t it b env0 ds e3 Q
      | .bk => ex (unblk it env0 e3) fun e4 => Q .nx e4
      | .rt w => Q (.rt w) e3) : Fo' C X pn t it b env0 (d :: ds) env Q := by
  refine ⟨?_⟩
  rw [forR, post_bind]
  cases z : bindT (also pn it.slot) env t d with
  | none => rw [z] at h; exact h.elim
  | some e2 =>
    rw [z] at h
    refine post_imp (wSL_ok b e2 _ h) (fun fl e3 h => ?_) fun _ _ z => z
    cases fl with
    | nx => exact h.h
    | ct => exact h.h
    | bk => exact h
    | rt w => exact h
/-- while: I holds with a measure that falls -/
theorem while_inv {C : Ct} {X : XP} {pn : Nat → Bool} {c : E} {b : SL} {n : Nat} {env : En} {Q : Fl → En → Prop} (I : Nat → En → Prop) (k : Nat) (hk : k < n) (h0 : I k env)
    (hs : ∀ k e, I k e → wE C X c e fun d e1 => tr d fun t => Br t (wSL C X pn b e1 fun fl e2 => match fl with
      | .nx => ∃ j, j < k ∧ I j e2
      | .ct => ∃ j, j < k ∧ I j e2
      | .bk => Q .nx e2
      | .rt w => Q (.rt w) e2) (Q .nx e1)) : Wh C X pn c b n env Q := by
  refine ⟨?_⟩
  induction k using Nat.strongRecOn generalizing n env with
  | _ k ih =>
    cases n with
    | zero => omega
    | succ n =>
      rw [whileR, post_bind]
      refine post_imp (wE_ok c env _ (hs k env h0)) (fun d e1 h => ?_) fun _ _ z => z
      replace h := tr_ok h
      cases z : truD d with
      | none => rw [z] at h; exact h.elim
      | some t =>
        rw [z] at h
        dsimp only [ex] at h
        rw [Br_eq] at h
        cases t with
        | false => rw [if_neg Bool.false_ne_true] at h; exact h
        | true =>
          rw [if_pos rfl] at h
          dsimp only
          rw [post_bind]
          refine post_imp (wSL_ok b e1 _ h) (fun fl e2 h => ?_) fun _ _ z => z
          cases fl with
          | nx => obtain ⟨j, hj, h⟩ := h; exact ih j hj (by omega) h
          | ct => obtain ⟨j, hj, h⟩ := h; exact ih j hj (by omega) h
          | bk => exact h
          | rt w => exact h
/-- a comprehension, turn by turn: what is made so far -/
theorem tu_inv {C : Ct} {t : Tg} {c : OE} {e : E} {ds : List D} {env : En} {Q : List D → En → Prop} (I : Nat → List D → En → Prop) (h0 : I 0 [] env)
    (hs : ∀ (k : Nat) d rs e1, ds[k]? = some d → I k rs e1 → ex (bindT (fun _ => false) e1 t d) fun e2 => wOE C (fun _ _ => False) c e2 fun b e3 => Br b (wE C (fun _ _ => False) e e3 fun r e4 => I (k + 1) (rs ++ [r]) (wipeE e4 t.slots)) (I (k + 1) rs (wipeE e3 t.slots)))
    (hq : ∀ rs e, I ds.length rs e → Q rs e) : Tu C t c e ds env Q := by
  refine ⟨?_⟩
  have key : ∀ (xs : List D) (k : Nat) (rs : List D) (e1 : En), k ≤ ds.length → ds.drop k = xs → I k rs e1 → post (turns (fun d env => match bindT (fun _ => false) env t d with
        | some env2 => (evOE C c env2).bind fun b env3 => if b = true then (evE C e env3).bind fun r env4 => .ok (some r) (wipeE env4 t.slots) else .ok none (wipeE env3 t.slots)
        | none => .stuck) xs e1) (fun r e => Q (rs ++ r) e) (fun _ _ => False) := by
    intro xs
    induction xs with
    | nil =>
      intro k rs e1 hk hd hi
      have l := congrArg List.length hd
      rw [List.length_drop, List.length_nil] at l
      rw [show k = ds.length by omega] at hi
      show Q (rs ++ []) e1
      rw [List.append_nil]
      exact hq rs e1 hi
    | cons x xs ih =>
      intro k rs e1 hk hd hi
      have l := congrArg List.length hd
      rw [List.length_drop, List.length_cons] at l
      have hx : ds[k]? = some x := by
        have := congrArg List.head? hd
        rw [List.head?_drop] at this
        exact this
      have hd' : ds.drop (k + 1) = xs := by rw [← List.drop_drop, hd] <;> rfl
      have h := hs k x rs e1 hx hi
      rw [turns, post_bind]
      cases z : bindT (fun _ => false) e1 t x with
      | none => rw [z] at h; exact h.elim
      | some e2 =>
        rw [z] at h
        dsimp only
        rw [post_bind]
        refine post_imp (wOE_ok c e2 _ h) (fun b e3 h => ?_) fun _ _ z => z
        rw [Br_eq] at h
        cases b with
        | true =>
          rw [if_pos rfl] at h ⊢
          rw [post_bind]
          refine post_imp (wE_ok e e3 _ h) (fun r e4 h => ?_) fun _ _ z => z
          have g := ih (k + 1) (rs ++ [r]) _ (by omega) hd' h
          show post (R.bind _ _) _ _
          rw [post_bind]
          refine post_imp g (fun rr ee h => ?_) fun _ _ z => z
          show Q (rs ++ (r :: rr)) ee
          rw [List.append_cons]
          exact h
        | false =>
          rw [if_neg Bool.false_ne_true] at h ⊢
          have g := ih (k + 1) rs _ (by omega) hd' h
          show post (R.bind _ _) _ _
          rw [post_bind]
          exact post_imp g (fun rr ee h => h) fun _ _ z => z
  have := key ds 0 [] env (Nat.zero_le _) (by simp) h0
  exact post_imp this (fun r e h => h) fun _ _ z => z
end Ev

set_option Elab.async false
set_option linter.all false
set_option maxRecDepth 100000
set_option maxHeartbeats 4000000
namespace Ev
open PySem PySem.Spec PyProof.Rows L2 He Gw
section
variable {X : Cx} {W : WX} {C : Ct} {pn : Nat → Bool}
theorem R_assoc {α β γ : Type} {r : R α} {f : α → En → R β} {g : β → En → R γ} : (r.bind f).bind g = r.bind fun a e => (f a e).bind g := by cases r <;> rfl
theorem ss_par (i j : Nat) {p q : E} {x y : Str} {a b : Expr} {px py pt : Pos} {kt k2 pt2} {pos : Pos} (hN : X.N.Nodup) (ha : SLs X W [a, b] (evL C (.cons p (.cons q .nil))))
    (hw : swappedStores [.Tuple [.Name x px, .Name y py] kt pt] (.Tuple [a, b] k2 pt2) X.env = pure (some [x, y]) := by rfl)
    (hi : X.N[i]? = some x := by rfl) (hj : X.N[j]? = some y := by rfl) (hij : i ≠ j := by decide)
    (hx : X.env.scope.names.lookup x = some .local := by rfl) (hy : X.env.scope.names.lookup y = some .local := by rfl) (hc : X.calm = true := by rfl)
    (hs : swapsWithSole [.Tuple [.Name x px, .Name y py] kt pt] (.Tuple [a, b] k2 pt2) pos.line X.env = pure false := by rfl) :
    SS X W pn (.Assign [.Tuple [.Name x px, .Name y py] kt pt] (.Tuple [a, b] k2 pt2) pos) (evS C pn (.asg (.tup [i, j]) (.tup (.cons p (.cons q .nil))))) := (ps_par hc hN hi hj hij hx hy ha hw hs).imp fun Y σ H h => by
  obtain ⟨B, F, env, k, h⟩ := h
  rw [evS, evE, R_assoc] at h
  refine ⟨B, F, env, k, pst_imp (sst_bindE h) fun ds e1 F1 H1 _ _ z vs hvs => ?_⟩
  obtain ⟨_, k1, z⟩ := z
  split at z
  · obtain ⟨e2, hb, z⟩ := sst_lift z
    obtain ⟨l, g⟩ := gL_ok (Q := fun σ2 H2 => Y.nx σ2 H2) [i, j] F1 σ e1 e2 ds vs k1 hvs hb fun σ2 F2 f => z σ2 F2 H1 f.stp f.ok f.pins
    obtain ⟨v, vs', rfl, w, vs'', rfl, rfl, q⟩ := g
    exact ⟨v, w, rfl, q⟩
  · exact z.elim
end
end Ev

set_option Elab.async false
set_option linter.all false
set_option maxRecDepth 100000
set_option maxHeartbeats 4000000
namespace Ev
open PySem PySem.Spec PyProof.Rows L2 He Gw
theorem mulOk_r {i j : Int} (h : -(2 ^ 64) < j ∧ j < 2 ^ 64) : mulOk i j = true := by
  unfold mulOk
  rw [decide_eq_true h.1, decide_eq_true h.2]
  simp
theorem mulOk_l {i j : Int} (h : -(2 ^ 64) < i ∧ i < 2 ^ 64) : mulOk i j = true := by
  unfold mulOk
  rw [decide_eq_true h.1, decide_eq_true h.2]
  simp
theorem sizeLine_le {n : Nat} (h : n ≤ 1000000) : n ≤ sizeLine := Nat.le_trans h (by rw [sizeLine_eq]; decide)
/-- a test that is told: true, false -/
theorem br_b {p : Prop} [Decidable p] {A B : Prop} (a : p → A) (b : ¬ p → B) : Br (decide p) A B := br (fun h => a (of_decide_eq_true h)) fun h => b (of_decide_eq_false h)
theorem br_n {p : Prop} [Decidable p] {A B : Prop} (a : ¬ p → A) (b : p → B) : Br (!decide p) A B := br (fun h => a (of_decide_eq_false (by simpa using h))) fun h => b (by simpa using h)
/-! ### hands -/
theorem idx_ints {cells : List Int} {i : Int} (h0 : 0 ≤ i) (h1 : i < ((cells.map D.int).length : Int)) : ∃ x, opD .idx [.lst (cells.map .int), .int i] = some (.int x) := by
  obtain ⟨j, rfl⟩ := Int.eq_ofNat_of_zero_le h0
  have hj : j < cells.length := by simpa using h1
  exact ⟨cells[j], atI_nat (by rw [List.getElem?_map, List.getElem?_eq_getElem hj] <;> rfl)⟩
end Ev

set_option Elab.async false
set_option linter.all false
set_option maxRecDepth 100000
set_option maxHeartbeats 400000
namespace Ev
open PySem PySem.Spec PyProof.Rows L2 He Gw
/-- a def that tells one thing and changes nothing -/
def Ret (C : Ct) (f : Nat) (ws : List Wv) (r : Wv) : Prop := Calls C f ws (fun x o => x = r ∧ o = ws) fun _ _ => False
theorem call_ret {C : Ct} {f : Nat} {os : List Ov} {env : En} {ws : List Wv} {r : Wv} {Q : Wv → En → Prop} {X : XP} (h : Ret C f ws r) (hn : (slots os).Nodup) (ha : Ev.resA env os = some ws) (q : Q r (putA env os ws)) : Post (callR C f os env) Q X :=
  post_call hn ha (Calls.imp h (fun x o ⟨e1, e2⟩ => by rw [e1, e2]; exact q) fun _ _ z => z.elim)
theorem call_by {C : Ct} {f : Nat} {os : List Ov} {env : En} {ws : List Wv} {R : Wv → List Wv → Prop} {Q : Wv → En → Prop} {X : XP} (h : Calls C f ws R fun _ _ => False) (hn : (slots os).Nodup) (ha : Ev.resA env os = some ws) (q : ∀ r o, R r o → Q r (putA env os o)) : Post (callR C f os env) Q X :=
  post_call hn ha (Calls.imp h q fun _ _ z => z.elim)
theorem nd1 {i : Nat} : ([i] : List Nat).Nodup := List.nodup_cons.mpr ⟨fun h => (by cases h), List.nodup_nil⟩
theorem toPL_ints (xs : List Int) : toPL (xs.map D.int) = some (xs.map PyData.int) := by
  induction xs with
  | nil => rfl
  | cons x xs ih => rw [List.map_cons, toPL, ih]; rfl
theorem canLay_ints (xs : List Int) : PyData.canLayAll0 (xs.map PyData.int) = true := by
  induction xs with
  | nil => rw [List.map_nil, PyData.canLayAll0]
  | cons x xs ih => rw [List.map_cons, PyData.canLayAll0, PyData.canLay0, ih]; rfl
theorem depth_ints (xs : List Int) : PyData.depthAll (xs.map PyData.int) = 0 := by
  induction xs with
  | nil => rw [List.map_nil, PyData.depthAll]
  | cons x xs ih => rw [List.map_cons, PyData.depthAll, PyData.depth, ih]; rfl
theorem eqv_int (i j : Int) : PyData.eqv (.int i) (.int j) = decide (i = j) := by
  rw [show PyData.eqv (.int i) (.int j) = (i == j) from by simp [PyData.eqv]]
  rw [Bool.eq_iff_iff.mpr (by simp : (i == j) = true ↔ decide (i = j) = true)]
theorem eqv_ints : ∀ xs ys : List Int, PyData.eqvAll (xs.map PyData.int) (ys.map PyData.int) = decide (xs = ys)
  | [], [] => by rw [List.map_nil, PyData.eqvAll]; rfl
  | [], y :: ys => by rw [List.map_nil, List.map_cons, PyData.eqvAll]; rfl
  | x :: xs, [] => by rw [List.map_nil, List.map_cons, PyData.eqvAll]; rfl
  | x :: xs, y :: ys => by
    rw [List.map_cons, List.map_cons, PyData.eqvAll, eqv_int, eqv_ints xs ys]
    by_cases h1 : x = y <;> by_cases h2 : xs = ys <;> simp [h1, h2]
theorem shaped_ints (xs : List Int) : SeqAt.shaped (.tuple (xs.map PyData.int)) = true := by
  unfold SeqAt.shaped
  rw [PyData.canLay0, canLay_ints, PyData.depth, depth_ints]
  rfl
theorem eqD_rows (xs ys : List Int) : eqD (.tup (xs.map .int)) (.tup (ys.map .int)) = some (decide (xs = ys)) := by
  unfold eqD
  rw [toP, toP, toPL_ints, toPL_ints]
  show (if SeqAt.shaped (.tuple (xs.map PyData.int)) = true ∧ SeqAt.shaped (.tuple (ys.map PyData.int)) = true then some (PyData.eqv (.tuple (xs.map .int)) (.tuple (ys.map .int))) else none) = _
  rw [if_pos ⟨shaped_ints xs, shaped_ints ys⟩, PyData.eqv, eqv_ints]
theorem eqD_rown (xs : List Int) : eqD (.tup (xs.map .int)) .non = some false := by
  unfold eqD
  rw [toP, toP, toPL_ints]
  show (if SeqAt.shaped (.tuple (xs.map PyData.int)) = true ∧ SeqAt.shaped .none = true then some (PyData.eqv (.tuple (xs.map .int)) .none) else none) = _
  rw [if_pos ⟨shaped_ints xs, by unfold SeqAt.shaped; rw [PyData.canLay0, PyData.depth]; rfl⟩, PyData.eqv]
theorem eqD_nrow (xs : List Int) : eqD .non (.tup (xs.map .int)) = some false := by
  unfold eqD
  rw [toP, toP, toPL_ints]
  show (if SeqAt.shaped .none = true ∧ SeqAt.shaped (.tuple (xs.map PyData.int)) = true then some (PyData.eqv .none (.tuple (xs.map .int))) else none) = _
  rw [if_pos ⟨by unfold SeqAt.shaped; rw [PyData.canLay0, PyData.depth]; rfl, shaped_ints xs⟩, PyData.eqv]
theorem o_eq_rows (xs ys : List Int) : opD .eq [.tup (xs.map .int), .tup (ys.map .int)] = some (.bl (decide (xs = ys))) := by
  show (eqD _ _).map D.bl = _
  rw [eqD_rows]
  rfl
theorem o_ne_rows (xs ys : List Int) : opD .ne [.tup (xs.map .int), .tup (ys.map .int)] = some (.bl (!decide (xs = ys))) := by
  show (eqD _ _).map (fun r => D.bl (!r)) = _
  rw [eqD_rows]
  rfl
theorem o_ne_rown (xs : List Int) : opD .ne [.tup (xs.map .int), .non] = some (.bl true) := by
  show (eqD _ _).map (fun r => D.bl (!r)) = _
  rw [eqD_rown]
  rfl
theorem o_ne_nrow (xs : List Int) : opD .ne [.non, .tup (xs.map .int)] = some (.bl true) := by
  show (eqD _ _).map (fun r => D.bl (!r)) = _
  rw [eqD_nrow]
  rfl
theorem cutL_map {α β : Type} (f : α → β) (xs : List α) (lo hi : Option Int) : cutL (xs.map f) lo hi = (cutL xs lo hi).map f := by
  unfold cutL
  rw [List.length_map, List.map_take, List.map_drop]
theorem s_rows (xs : List Int) (lo hi : Option Int) : slcD lo hi (.tup (xs.map .int)) = some (.tup ((cutL xs lo hi).map .int)) := by
  show some (D.tup (cutL _ _ _)) = _
  rw [cutL_map]
theorem cut_upto {α : Type} (xs : List α) {n : Int} (h : 0 ≤ n) : cutL xs none (some n) = xs.take n.toNat := by
  unfold cutL HT.sIx
  dsimp only
  rw [if_neg (by omega), List.drop_zero, Nat.sub_zero]
  rcases Nat.le_total n.toNat xs.length with h | h
  · rw [Nat.min_eq_left h]
  · rw [Nat.min_eq_right h, List.take_length, List.take_of_length_le h]
theorem cut_from {α : Type} (xs : List α) {n : Int} (h : 0 ≤ n) : cutL xs (some n) none = xs.drop n.toNat := by
  unfold cutL HT.sIx
  dsimp only
  rw [if_neg (by omega)]
  rcases Nat.le_total n.toNat xs.length with h | h
  · rw [Nat.min_eq_left h, List.take_of_length_le (by rw [List.length_drop]; exact Nat.le_refl _)]
  · rw [Nat.min_eq_right h, List.drop_length, List.drop_eq_nil_of_le h]
    simp
theorem cut_uptoN {α : Type} (xs : List α) {n : Nat} : cutL xs none (some (-((n : Nat) : Int))) = xs.take (xs.length - n) ∨ n = 0 := by
  by_cases h0 : n = 0
  · exact .inr h0
  left
  unfold cutL HT.sIx
  dsimp only
  rw [if_pos (by omega), List.drop_zero, Nat.sub_zero]
  congr 1
  omega
theorem cut_fromN {α : Type} (xs : List α) {n : Nat} : cutL xs (some (-((n : Nat) : Int))) none = xs.drop (xs.length - n) ∨ n = 0 := by
  by_cases h0 : n = 0
  · exact .inr h0
  left
  unfold cutL HT.sIx
  dsimp only
  rw [if_pos (by omega), show (-(n : Int) + (xs.length : Int)).toNat = xs.length - n by omega, List.take_of_length_le (by rw [List.length_drop]; exact Nat.le_refl _)]
def Bytes (xs : List Int) : Prop := ∀ x ∈ xs, 0 ≤ x ∧ x ≤ 255
theorem Bytes.app {xs ys : List Int} (h : Bytes xs) (h' : Bytes ys) : Bytes (xs ++ ys) := fun x hx => (List.mem_append.mp hx).elim (h x) (h' x)
theorem Bytes.take {xs : List Int} (h : Bytes xs) (n : Nat) : Bytes (xs.take n) := fun x hx => h x (List.mem_of_mem_take hx)
theorem Bytes.drop {xs : List Int} (h : Bytes xs) (n : Nat) : Bytes (xs.drop n) := fun x hx => h x (List.mem_of_mem_drop hx)
theorem map_get {xs : List Int} {k : Nat} {d : D} (h : (xs.map D.int)[k]? = some d) : ∃ x, xs[k]? = some x ∧ d = .int x := by
  rw [List.getElem?_map] at h
  cases z : xs[k]? with
  | none => rw [z] at h; cases h
  | some x => rw [z] at h; cases h; exact ⟨x, rfl, rfl⟩
theorem take_succ' {α : Type} {xs : List α} {k : Nat} {x : α} (h : xs[k]? = some x) : xs.take (k + 1) = xs.take k ++ [x] := by
  rw [List.take_succ, h]
  rfl
end Ev
namespace Ev
open PySem PySem.Spec PyProof.Rows L2 He Gw
/-! ### cuts -/
theorem p_cons {C : Ct} {X : XP} {pn : Nat → Bool} {s : S} {ss : SL} {env : En} {Q : Fl → En → Prop} (I : En → Prop) (h : wS C X pn s env fun fl e => match fl with
    | .nx => I e
    | r => Q r e) (k : ∀ e, I e → post (evSL C pn ss e) Q X) : post (evSL C pn (.cons s ss) env) Q X := by
  rw [evSL, post_bind]
  refine post_imp (wS_ok s env _ h) (fun fl e h => ?_) fun _ _ z => z
  cases fl with
  | nx => exact k e h
  | _ => exact h
theorem p_all {C : Ct} {X : XP} {pn : Nat → Bool} {ss : SL} {env : En} {Q : Fl → En → Prop} (h : wSL C X pn ss env Q) : post (evSL C pn ss env) Q X := wSL_ok ss env Q h
theorem calls_ofP {T : Nat → Option Fd} {C : Ct} {k f nps n : Nat} {b : SL} {ws : List Wv} {Q : Wv → List Wv → Prop} {X : Xc → List Wv → Prop} (e : T f = some ⟨nps, n, b⟩) (l : ws.length = nps)
    (p : post (evSL (ctx T C k) (pnOf ws) b (ws.map some ++ List.replicate (n - ws.length) none)) (fin' ws Q) (fun x e => ex (outsA e 0 ws) fun os => X x os)) : Calls (ctx T C (k + 1)) f ws Q X := by
  refine ⟨?_⟩
  show match calT T C (k + 1) f ws with
    | .ok r outs => outs.length = ws.length ∧ Q r outs
    | .exc x outs => outs.length = ws.length ∧ X x outs
    | .stuck => False
  rw [calT, e]
  dsimp only
  rw [if_pos l]
  unfold runF
  generalize evSL _ _ b _ = r at p ⊢
  cases r with
  | stuck => exact p.elim
  | exc x e =>
    replace p : ex (outsA e 0 ws) fun os => X x os := p
    dsimp only
    cases z : outsA e 0 ws with
    | none => rw [z] at p; exact p.elim
    | some os => rw [z] at p; exact ⟨(outsA_get z).1, p⟩
  | ok fl e =>
    cases fl with
    | bk => exact p.elim
    | ct => exact p.elim
    | nx =>
      replace p : ex (outsA e 0 ws) fun os => Q (.fz .non) os := p
      dsimp only
      cases z : outsA e 0 ws with
      | none => rw [z] at p; exact p.elim
      | some os => rw [z] at p; exact ⟨(outsA_get z).1, p⟩
    | rt w =>
      replace p : ex (outsA e 0 ws) fun os => Q w os := p
      dsimp only
      cases z : outsA e 0 ws with
      | none => rw [z] at p; exact p.elim
      | some os => rw [z] at p; exact ⟨(outsA_get z).1, p⟩
theorem for_invP {C : Ct} {X : XP} {pn : Nat → Bool} {t : Tg} {it : It'} {b : SL} {env0 env : En} {ds : List D} {Q : Fl → En → Prop} (I : Nat → En → Prop) (h0 : I 0 env)
    (hs : ∀ (k : Nat) d e, ds[k]? = some d → I k e → ∃ e2, bindT (also pn it.slot) e t d = some e2 ∧ post (evSL C (also pn it.slot) b e2) (fun fl e3 => match fl with
      | .nx => I (k + 1) e3
      | .ct => I (k + 1) e3
      | .bk => ex (unblk it env0 e3) fun e4 => Q .nx e4
      | .rt w => Q (.rt w) e3) X)
    (hq : ∀ e, I ds.length e → ex (unblk it env0 e) fun e2 => Q .nx e2) : Fo' C X pn t it b env0 ds env Q := by
  refine ⟨?_⟩
  have key : ∀ (xs : List D) (k : Nat) (e : En), k ≤ ds.length → ds.drop k = xs → I k e → post (forR (fun d env => match bindT (also pn it.slot) env t d with
      | some env2 => evSL C (also pn it.slot) b env2
      | none => .stuck) xs e) (fun fl env1 => match fl with
        | .nx => ex (unblk it env0 env1) fun env2 => Q .nx env2
        | r => Q r env1) X := by
    intro xs
    induction xs with
    | nil =>
      intro k e hk hd hi
      have l := congrArg List.length hd
      rw [List.length_drop, List.length_nil] at l
      rw [show k = ds.length by omega] at hi
      exact hq e hi
    | cons x xs ih =>
      intro k e hk hd hi
      have l := congrArg List.length hd
      rw [List.length_drop, List.length_cons] at l
      have hx : ds[k]? = some x := by
        have := congrArg List.head? hd
        rw [List.head?_drop] at this
        exact this
      have hd' : ds.drop (k + 1) = xs := by rw [← List.drop_drop, hd] <;> rfl
      obtain ⟨e2, z, h⟩ := hs k x e hx hi
      rw [forR, post_bind]
      rw [z]
      refine post_imp h (fun fl e3 h => ?_) fun _ _ z => z
      cases fl with
      | nx => exact ih (k + 1) e3 (by omega) hd' h
      | ct => exact ih (k + 1) e3 (by omega) hd' h
      | bk => exact h
      | rt w => exact h
  exact key ds 0 env (Nat.zero_le _) (by simp) h0
theorem rep_map {α β : Type} (f : α → β) (n : Nat) (xs : List α) : (List.replicate n (xs.map f)).flatten = ((List.replicate n xs).flatten).map f := by
  induction n with
  | zero => rfl
  | succ n ih => rw [List.replicate_succ, List.replicate_succ, List.flatten_cons, List.flatten_cons, ih, List.map_append]
theorem Bytes.rep {xs : List Int} (h : Bytes xs) (n : Nat) : Bytes (List.replicate n xs).flatten := fun x hx => by
  obtain ⟨l, h1, h2⟩ := List.mem_flatten.mp hx
  exact h x (by rw [(List.mem_replicate.mp h1).2] at h2; exact h2)
theorem cutL_len {α : Type} (xs : List α) (lo hi : Option Int) : (cutL xs lo hi).length ≤ xs.length := by
  unfold cutL
  rw [List.length_take, List.length_drop]
  omega
theorem Bytes.cut {xs : List Int} (h : Bytes xs) (lo hi : Option Int) : Bytes (cutL xs lo hi) := (h.drop _).take _
theorem Bytes.one {x : Int} (h0 : 0 ≤ x) (h1 : x ≤ 255) : Bytes [x] := fun y hy => by rw [List.mem_singleton.mp hy]; exact ⟨h0, h1⟩
theorem rng_any {n : Int} : rngI [.int n] = some ((List.range n.toNat).map fun k : Nat => .int (k : Int)) := by
  unfold rngI
  dsimp only
  rw [ite_self]
theorem rng_ok {n : Int} (h : n < 2 ^ 62) (h0 : 0 ≤ n) : rngI [.int n] = some ((List.range n.toNat).map fun k : Nat => .int (k : Int)) := by
  unfold rngI
  dsimp only
  rw [if_pos ⟨by omega, h⟩]
end Ev

set_option Elab.async false
set_option linter.all false
set_option maxRecDepth 100000
set_option maxHeartbeats 4000000
namespace Ev
open PySem PySem.Spec PyProof.Rows L2 He Gw
/-! ### handlers in a row, with names or without -/
/-- an exception caught: what stands besides it -/
structure Air (X : Cx) (ps : List (Addr × Obj)) (τ : L2.St) (G : Hp) (B : Heap) (x : Addr) (ty : Value) (dd : Option Addr) (s0 s1 : Shared) : Prop where
  inv : Inv X ps τ G s0
  old : ∀ b o, s0.heap.get? b = some o → b ∉ frs X.stack → B.get? b = some o
  up : s0.heap.UpToSlots s1.heap
  fly : HandSPX.FlyingZ B (X.env :: X.outer) x (Zc ty dd) s1.heap
  off : G x = none
  os : s1.os = s0.os
  bare : AllBare s1.gens
section
variable {X : Cx} {ps : List (Addr × Obj)} {τ : L2.St} {G : Hp} {B : Heap} {x : Addr} {ty : Value} {dd : Option Addr} {s0 s1 : Shared}
theorem Air.here (h : Air X ps τ G B x ty dd s0 s1) : Inv X ps τ G s1 := h.inv.landed h.old h.fly.1 h.up h.os h.bare
theorem Air.suite (h : Air X ps τ G B x ty dd s0 s1) (hst : X.stack = X.env :: X.outer) (hf : X.env.frame = some X.env.locals) :
    ∃ o, s1.heap.get? x = some o ∧ Zc ty dd o ∧ (∃ vs, o.data = .fields vs) ∧ Inv (X.suite x ((x, o) :: (X.pn ++ ps))) [] τ G s1 := by
  obtain ⟨o, vs, e1, e2, e3⟩ := h.fly.there
  have far : x ∉ frs (X.env :: X.outer) := fun hm => by
    obtain ⟨_, u, e4, n4⟩ := h.fly.2.2.1.mem hm
    rw [e1] at e4
    cases e4
    exact n4 _ e3
  refine ⟨o, e1, e2, ⟨vs, e3⟩, h.here.suite e1 e3 h.off (fun z => far ?_) fun z => ?_⟩
  · exact List.mem_filterMap.mpr ⟨X.env, List.mem_cons_self, by rw [hf, z]⟩
  · obtain ⟨en, h1, h2⟩ := List.mem_filterMap.mp z
    exact far (List.mem_filterMap.mpr ⟨en, List.mem_cons_of_mem _ h1, h2⟩)
theorem Air.again (h : Air X ps τ G B x ty dd s0 s1) {g : Heap} (fl : HandSPX.FlyingZ B (X.env :: X.outer) x (Zc ty dd) g) (u : s1.heap.UpToSlots g) : Air X ps τ G B x ty dd s0 { s1 with heap := g } :=
  ⟨h.inv, h.old, h.up.trans u, fl, h.off, h.os, h.bare⟩
/-- no handler is left -/
theorem Air.none {W : WX} {Q : Flow → Shared → Prop} (h : Air X ps τ G B x ty dd s0 s1) (hst : X.stack = X.env :: X.outer) (hf : X.env.frame = some X.env.locals) (tk : Takes X W) (hw : W ty dd τ G) :
    wpAny (model X.prog X.w) X.A (handleBy (.ref x) X.env []) Q X.xe s1 := by
  refine wpAny_handleBy_nil ?_
  obtain ⟨_, _, _, o, vs, T, _, _, e1, _, e3, e4, _⟩ := id h.fly
  unfold PySem.passOn
  refine wpAny_bind (wpAny_field e1 e3 e4 ?_)
  rw [if_neg (show ¬ ((Value.ref T == Value.none) = true) from by simp)]
  have last : wpAny (model X.prog X.w) X.A (setFlight (.ref x) X.env.frame) (fun _ s2 => wpAny (model X.prog X.w) X.A (throw (.ref x) : Sem Flow) Q X.xe s2) X.xe s1 := by
    rw [hf]
    refine HandSPX.setFlight_upZ h.fly fun g hg ug => wpAny_throw (tk _ _ ?_)
    exact ⟨x, B, s0, ps, τ, G, ty, dd, rfl, h.inv, h.old, h.up.trans ug, .inr (.inr (by rw [hst]; exact hg)), h.off, h.os, h.bare, hw⟩
  first
    | exact wpAny_bind (wpAny_pure (wpAny_bind last))
    | exact wpAny_bind last
/-- a handler's class is asked for -/
theorem Air.ask {nm : Str} {c : Value} {r : Bool} {np : Pos} {Q : Bool → Shared → Prop} {E : Value → Shared → Prop} (h : Air X ps τ G B x ty dd s0 s1) (hst : X.stack = X.env :: X.outer) (hf : X.env.frame = some X.env.locals) (hc : Names X nm c) (hr : PySem.W.exmOne X.K ty c = some r)
    (q : Q r s1) : wpAny (model X.prog X.w) (X.A.mark (some (.ref x))) (eval (.Name nm np) X.env) (fun c' s2 => wpAny (model X.prog X.w) (X.A.mark (some (.ref x))) (excMatches (.ref x) c') (fun b s3 => Q b s3) E s2) E s1 := by
  obtain ⟨o, e1, e2, _, S⟩ := h.suite hst hf
  have look : PySem.W.Looks (model X.prog X.w) s1.heap (typeOf (.ref x)) ty := fun A Q E s k q => wpAny_typeOf_ref (k _ _ e1) (by rw [e2.1]; exact q)
  have rest := PySem.W.exm_one (M := model X.prog X.w) h.here.kIn look hr
  obtain ⟨g1, g2, g3 | ⟨g3, g4, g5⟩⟩ := hc
  · exact ld_glob (X := X.suite x ((x, o) :: (X.pn ++ ps))) S g1 g3 (rest.here q) g2
  · exact ld_blt (X := X.suite x ((x, o) :: (X.pn ++ ps))) S g1 g3 g4 (rest.here q) g5 g2
/-- a list of handlers, and what it wants of an exception -/
inductive Hs (X : Cx) (W : WX) (Y : Ends) : List ExceptHandler → WX → Prop
  | nil : Hs X W Y [] W
  | plain {nm : Str} {c : Value} {ts : Addr → Value → Option Addr → TS} {b0 : Stmt} {bs : List Stmt} {np p' : Pos} {hds : List ExceptHandler} {V : WX} (hc : Names X nm c)
      (hb : ∀ (x : Addr) (o : Obj) (ty : Value) (d : Option Addr) (pn : List (Addr × Obj)), Zc ty d o → (∃ vs, o.data = .fields vs) → PSs (X.suite x ((x, o) :: pn)) (b0 :: bs) (ts x ty d)) (r : Hs X W Y hds V) :
      Hs X W Y (.ExceptHandler (some (.Name nm np)) none (b0 :: bs) p' :: hds) fun ty d σ H => ∃ b, PySem.W.exmOne X.K ty c = some b ∧ (b = true → ∀ x, H x = none → ts x ty d Y σ H) ∧ (b = false → V ty d σ H)
  | named {nm n : Str} {c : Value} {i : Nat} {ts : Addr → Value → Option Addr → TS} {b0 : Stmt} {bs : List Stmt} {np p' : Pos} {hds : List ExceptHandler} {V : WX} (hc : Names X nm c) (hN : X.N.Nodup) (hi : X.N[i]? = some n) (hl : X.env.kindOf n = some .local)
      (hb : ∀ (x : Addr) (o : Obj) (ty : Value) (d : Option Addr) (pn : List (Addr × Obj)), Zc ty d o → (∃ vs, o.data = .fields vs) → PSs (X.suite x ((x, o) :: pn)) (b0 :: bs) (ts x ty d)) (r : Hs X W Y hds V) :
      Hs X W Y (.ExceptHandler (some (.Name nm np)) (some n) (b0 :: bs) p' :: hds) fun ty d σ H => ∃ b, PySem.W.exmOne X.K ty c = some b ∧ (b = true → ∀ x, H x = none → ts x ty d { nx := fun σ' H' => Y.nx (σ'.set i none) H', rt := Y.rt, bk := fun σ' H' => Y.bk (σ'.set i none) H', ct := fun σ' H' => Y.ct (σ'.set i none) H' } (σ.set i (some (.ref x))) H) ∧ (b = false → V ty d σ H)
theorem Hs.go {W : WX} {Y : Ends} {hds : List ExceptHandler} {V : WX} (k : Hs X W Y hds V) (h : Air X ps τ G B x ty dd s0 s1) (hst : X.stack = X.env :: X.outer) (hf : X.env.frame = some X.env.locals) (ok : X.Ok) (tk : Takes X W) (hw : V ty dd τ G) :
    wpAny (model X.prog X.w) X.A (handleBy (.ref x) X.env hds) (SP X ps Y) X.xe s1 := by
  induction k with
  | nil => exact h.none hst hf tk hw
  | plain hc hb r ih =>
    obtain ⟨b, hr, yes, no⟩ := hw
    refine wpAny_handleBy_cons (codeAny_handlers_test (h.ask hst hf hc hr ?_)) (by intro q; cases q)
    cases b with
    | false => exact ih (no rfl)
    | true =>
      refine codeAny_handlers_suite ?_
      refine HandSPX.lands_againZ h.fly fun g fl ug => ?_
      obtain ⟨o, e1, e2, e3, S⟩ := (h.again fl ug).suite hst hf
      refine wpAny_mono ((hb x o ty dd (X.pn ++ ps) e2 e3).run [] _ τ G _ S (yes rfl x h.off)) (fun f s2 z => ?_) fun _ _ z => z.elim
      cases f with
      | next => obtain ⟨σ2, H2, S2, z⟩ := z; exact ⟨σ2, H2, S2.unsuite ok, z⟩
      | brk => obtain ⟨σ2, H2, S2, z⟩ := z; exact ⟨σ2, H2, S2.unsuite ok, z⟩
      | cont => obtain ⟨σ2, H2, S2, z⟩ := z; exact ⟨σ2, H2, S2.unsuite ok, z⟩
      | ret u => obtain ⟨v, σ2, H2, S2, rv, z⟩ := z; exact ⟨v, σ2, H2, S2.unsuite ok, rv, z⟩
  | named hc hN hi hl hb r ih =>
    obtain ⟨b, hr, yes, no⟩ := hw
    refine wpAny_handleBy_cons (codeAny_handlers_test (h.ask hst hf hc hr ?_)) (by intro q; cases q)
    cases b with
    | false => exact ih (no rfl)
    | true =>
      refine codeAny_handlers_suite_as ?_
      refine HandSPX.lands_againZ h.fly fun g fl ug => ?_
      obtain ⟨o, e1, e2, e3, S⟩ := (h.again fl ug).suite hst hf
      refine store_ok (X := X.suite x ((x, o) :: (X.pn ++ ps))) (v := .ref x) S hN hi (.inl hl) rfl (fun s3 S3 => ?_) (.inr hl)
      refine wpAny_mono ((hb x o ty dd (X.pn ++ ps) e2 e3).run [] s3 _ G _ S3 (yes rfl x h.off)) (fun f s2 z => ?_) fun _ _ z => z.elim
      cases f with
      | next => obtain ⟨σ2, H2, S2, z⟩ := z; exact gone_ok (S2.unsuite ok) hN hi hl fun s4 S4 => ⟨_, H2, S4, z⟩
      | brk => obtain ⟨σ2, H2, S2, z⟩ := z; exact gone_ok (S2.unsuite ok) hN hi hl fun s4 S4 => ⟨_, H2, S4, z⟩
      | cont => obtain ⟨σ2, H2, S2, z⟩ := z; exact gone_ok (S2.unsuite ok) hN hi hl fun s4 S4 => ⟨_, H2, S4, z⟩
      | ret u => obtain ⟨v, σ2, H2, S2, rv, z⟩ := z; exact gone_ok (S2.unsuite ok) hN hi hl fun s4 S4 => ⟨v, _, H2, S4, rv, z⟩
/-- try, with such handlers -/
theorem ps_tryHs {bs : List Stmt} {h0 : ExceptHandler} {hds : List ExceptHandler} {pos : Pos} {tb : WX → TS} {W : WX} {V : Ends → WX} (hst : X.stack = X.env :: X.outer) (hf : X.env.frame = some X.env.locals) (tk : Takes X W)
    (hb : ∀ (W : WX) (pn : List (Addr × Obj)) (xe : Value → Shared → Prop), Takes (X.tr pn xe) W → PassesOwn (model X.prog X.w) X.A X.env xe → PSs (X.tr pn xe) bs (tb W))
    (hh : ∀ Y, Hs X W Y (h0 :: hds) (V Y)) : PS X (.Try bs (h0 :: hds) [] [] pos) (fun Y σ H => tb (V Y) Y σ H) := by
  refine ⟨fun pins s σ H Y I h => wpAny_Try_except ?_⟩
  have ok := I.ok
  have fr : X.A.frames = some (X.env :: X.outer) := by rw [ok.frames, hst]
  have body := hb (V Y) (X.pn ++ pins) (fun e t1 => wpAny (model X.prog X.w) X.A (noteFrame e X.env) (fun _ t2 => wpAny (model X.prog X.w) X.A (setFlight e none) (fun _ t3 =>
    wpAny (model X.prog X.w) X.A (handleBy e X.env (h0 :: hds)) (SP X pins Y) X.xe t3) X.xe t2) X.xe t1) (fun u t z => by
      obtain ⟨x, B, s0, pins', τ, G, ty, dd, rfl, J', old, up, sky, off, os, bare, w⟩ := z
      have J : Inv X pins τ G s0 := J'.ofTry ok
      have sky2 : Sky B (X.env :: X.outer) x (Zc ty dd) X.env.locals t.heap := by rw [← hst]; exact sky
      exact Sky.land Zc.steady fr hf sky2 fun g fl ug => (hh Y).go (s1 := { t with heap := g }) ⟨J, old, up.trans ug, fl, off, os, bare⟩ hst hf ok tk w) PassesOwn.looking
  refine wpAny_mono (body.run [] s σ H Y (I.toTry _) h) (fun f t z => ?_) fun _ _ z => z
  cases f with
  | next => obtain ⟨σ2, H2, J2, z⟩ := z; exact wpAny_execs_nil ⟨σ2, H2, J2.ofTry ok, z⟩
  | brk => obtain ⟨σ2, H2, J2, z⟩ := z; exact ⟨σ2, H2, J2.ofTry ok, z⟩
  | cont => obtain ⟨σ2, H2, J2, z⟩ := z; exact ⟨σ2, H2, J2.ofTry ok, z⟩
  | ret u => obtain ⟨v, σ2, H2, J2, rv, z⟩ := z; exact ⟨v, σ2, H2, J2.ofTry ok, rv, z⟩
end
end Ev

set_option Elab.async false
set_option linter.all false
set_option maxRecDepth 100000
set_option maxHeartbeats 4000000
namespace Ev
open PySem PySem.Spec PyProof.Rows L2 He Gw
/-! ### try with handlers on data, named ones too -/
structure HdN (X : Cx) (W : WX) (C : Ct) (pn : Nat → Bool) (hds : List ExceptHandler) (hs : HL) where
  V : Ends → WX
  ok : ∀ Y, Hs X W Y hds (V Y)
  of : ∀ (Y : Ends) {B : Addr → Prop} {F F' : Fp} {H H' : Hp} {σ σ' : L2.St} {env : En} {xx : Xc} {ty : Value} {dx : Option Addr}, sst X.K W pn B σ F H Y (evH C pn hs xx env) → Stp F H F' H' → Sg pn σ σ' → Ok X.K B F' H' σ' env → XR X.K (av B F') H' xx ty dx → V Y ty dx σ' H'
section
variable {X : Cx} {W : WX} {C : Ct} {pn : Nat → Bool}
def hn_nil : HdN X W C pn [] .nil where
  V := fun _ => W
  ok := fun _ => .nil
  of := fun Y {B F F' H H' σ σ' env xx ty dx} h s g k xr => by rw [evH] at h; exact h σ' F' H' ty dx s k g xr
def hn_cons {x c : Str} {b₀ : Stmt} {suite : List Stmt} {np pos' : Pos} {hds : List ExceptHandler} {bd : SL} {hs : HL} (hI : IsaOk X.K C) (hc : Names X x (.ref (ga X.K c))) (hsu : ∀ (a : Addr) (pns : List (Addr × Obj)), SSs (X.suite a pns) WN pn (b₀ :: suite) (evSL C pn bd)) (r : HdN X W C pn hds hs) :
    HdN X W C pn (.ExceptHandler (some (.Name x np)) none (b₀ :: suite) pos' :: hds) (.cons c none bd hs) where
  V := fun Y ty d σ H => ∃ b, PySem.W.exmOne X.K ty (.ref (ga X.K c)) = some b ∧ (b = true → ∀ x, H x = none → tS X.K WN pn (evSL C pn bd) Y σ H) ∧ (b = false → r.V Y ty d σ H)
  ok := fun Y => .plain (ts := fun _ _ _ => tS X.K WN pn (evSL C pn bd)) hc (fun a oe cls d pns _ _ => hsu a _) (r.ok Y)
  of := fun Y {B F F' H H' σ σ' env xx ty dx} h s g k xr => by
    obtain ⟨rfl, _⟩ := id xr
    rw [evH] at h
    cases q : C.isa xx.c c with
    | none => rw [q] at h; exact h.elim
    | some t =>
      rw [q] at h
      refine ⟨t, hI _ _ _ q, fun er a ha => ?_, fun er => ?_⟩
      · subst er
        refine ⟨B, F', env, k, ?_⟩
        replace h : sst X.K W pn B σ F H Y (noexc (evSL C pn bd env)) := h
        have h := sst_from s g h
        cases zb : evSL C pn bd env with
        | ok fl e1 => rw [zb] at h; cases fl <;> exact h
        | exc y e1 => rw [zb] at h; exact h.elim
        | stuck => rw [zb] at h; exact h.elim
      · subst er
        exact r.of Y h s g k xr
/-- a handler with a name, which returns what it makes of a field -/
def hn_ret {te : Addr → Value → Option Addr → TE} {e : Expr} {x n c f : Str} {i : Nat} {np pos' p1 : Pos} {kk : Option D} {hds : List ExceptHandler} {hs : HL} (hI : IsaOk X.K C) (hc : Names X x (.ref (ga X.K c))) (hN : X.N.Nodup) (hi : X.N[i]? = some n) (hln : X.env.kindOf n = some .local)
    (he : ∀ (a : Addr) (oe : Obj) (cls : Value) (d : Option Addr) (pns : List (Addr × Obj)), Zc cls d oe → (∃ vs, oe.data = .fields vs) → PE (X.suite a ((a, oe) :: pns)) e (te a cls d))
    (hte : ∀ (a dd : Addr) (fs : List (Str × V)) (v : V) (d : D) (M : Addr → Prop) (σ : L2.St) (H : Hp) (Q : VK), (∀ b, M b → H b ≠ none) → σ[i]? = some (some (.ref a)) → H dd = some (.xd fs) → fs.lookup f = some v → rd X.K M H d v → (∀ u H2, Grow H H2 → rd X.K M H2 (xrD kk d) u → Q u H2) → te a (.ref (ga X.K c)) (some dd) σ H Q)
    (r : HdN X W C pn hds hs) : HdN X W C pn (.ExceptHandler (some (.Name x np)) (some n) [.Return (some e) p1] pos' :: hds) (.ret c i f kk hs) where
  V := fun Y ty d σ H => ∃ b, PySem.W.exmOne X.K ty (.ref (ga X.K c)) = some b ∧ (b = true → ∀ x, H x = none → tRet (te x ty d) { nx := fun σ' H' => Y.nx (σ'.set i none) H', rt := Y.rt, bk := fun σ' H' => Y.bk (σ'.set i none) H', ct := fun σ' H' => Y.ct (σ'.set i none) H' } (σ.set i (some (.ref x))) H) ∧ (b = false → r.V Y ty d σ H)
  ok := fun Y => .named (ts := fun a cls d => tRet (te a cls d)) hc hN hi hln (fun a oe cls d pns hz hd => pss_one (ps_ret (he a oe cls d pns hz hd))) (r.ok Y)
  of := fun Y {B F F' H H' σ σ' env xx ty dx} h s g k xr => by
    obtain ⟨rfl, xr2⟩ := id xr
    rw [evH] at h
    cases q : C.isa xx.c c with
    | none => rw [q] at h; exact h.elim
    | some t =>
      rw [q] at h
      refine ⟨t, hI _ _ _ q, fun er a ha => ?_, fun er => ?_⟩
      · subst er
        dsimp only at h
        split at h
        · rename_i hh
          rcases xr2 with ⟨_, hks⟩ | ⟨dd, vs, rfl, hd, hl, rr⟩
          · rw [hks] at h
            exact h.elim
          · split at h
            · rename_i d hd2
              obtain ⟨v, e2, ru⟩ := look_rd rr hd2
              rw [hh.1]
              exact hte a dd _ v d (av B F') _ H' Y.rt k.there (List.getElem?_set_self (by rw [← k.len]; exact hh.2)) hd e2 ru fun u H2 gr ru2 => h σ' F' H2 u [] ((Got.fz (k.grow gr) ru2).from (s.trans (Stp.grow gr))) g
            · exact h.elim
        · exact h.elim
      · subst er
        exact r.of Y h s g k xr
theorem ss_tryN {h₀ : ExceptHandler} {hds : List ExceptHandler} {bs : List Stmt} {bd : SL} {hs : HL} {pos : Pos} (hst : X.stack = X.env :: X.outer) (hf : X.env.frame = some X.env.locals) (tk : Takes X W)
    (hb : ∀ (W : WX) (pns : List (Addr × Obj)) (xe : Value → Shared → Prop), Takes (X.tr pns xe) W → PassesOwn (model X.prog X.w) X.A X.env xe → SSs (X.tr pns xe) W pn bs (evSL C pn bd))
    (hh : HdN X W C pn (h₀ :: hds) hs) : SS X W pn (.Try bs (h₀ :: hds) [] [] pos) (evS C pn (.try_ bd hs)) := (ps_tryHs (tb := fun W => tS X.K W pn (evSL C pn bd)) hst hf tk hb hh.ok).imp fun Y σ H h => by
  obtain ⟨B, F, env, k, h⟩ := h
  rw [evS] at h
  refine ⟨B, F, env, k, ?_⟩
  cases z : evSL C pn bd env with
  | ok fl e1 => rw [z] at h; cases fl <;> exact h
  | stuck => rw [z] at h; exact h.elim
  | exc xx e1 =>
    rw [z] at h
    exact fun σ' F' H' cls dx s k' g xr => hh.of Y h s g k' xr
def xn_F {x n c f : Str} {i : Nat} {np pos' p1 pa p : Pos} {hds : List ExceptHandler} {hs : HL} (hI : IsaOk X.K C) (T : XfC X.K (ga X.K c)) (hno : NoAttr X.K (ga X.K c) f) (hN : X.N.Nodup) (hi : X.N[i]? = some n) (hln : X.env.kindOf n = some .local) (hc : Names X x (.ref (ga X.K c))) (r : HdN X W C pn hds hs)
    (hv : Vis X.env.scope n := by first | exact .inl rfl | exact .inr (.inl rfl) | exact .inr (.inr rfl)) (hd : (n == ("__debug__" : Str)) = false := by decide) (hcd : (n == ("__classdict__" : Str)) = false := by decide)
    (hba : ∀ a pns, attributeBase (.Name n p) f (X.suite a pns).env (eval (.Name n p) (X.suite a pns).env) = eval (.Name n p) (X.suite a pns).env := by exact fun _ _ => rfl) :
    HdN X W C pn (.ExceptHandler (some (.Name x np)) (some n) [.Return (some (.Attribute (.Name n p) f pa)) p1] pos' :: hds) (.ret c i f none hs) :=
  hn_ret (te := fun a cls d => tXf a cls d (ga X.K c) f (tVar i)) hI hc hN hi hln (fun a oe cls d pns hz hfd => pe_xf T hno hz hfd (pe_var hi hv hd hcd) (hba a ((a, oe) :: pns))) (fun a dd fs v d M σ H Q al hσ hd hl hr q =>
    ⟨_, hσ, rfl, rfl, dd, fs, v, rfl, hd, hl, q v H .refl hr⟩) r
def xn_P {x n c f : Str} {i : Nat} {np pos' p1 pa p : Pos} {hds : List ExceptHandler} {hs : HL} {d1 : D} {v1 : V} {ec : Expr} {nt : Nat} {pt : Pos} (hI : IsaOk X.K C) (T : XfC X.K (ga X.K c)) (hno : NoAttr X.K (ga X.K c) f) (hN : X.N.Nodup) (hi : X.N[i]? = some n) (hln : X.env.kindOf n = some .local) (hc : Names X x (.ref (ga X.K c)))
    (hk : ∀ a pns, PE (X.suite a pns) ec (tC v1)) (hr1 : ∀ M H, rd X.K M H d1 v1) (r : HdN X W C pn hds hs)
    (hv : Vis X.env.scope n := by first | exact .inl rfl | exact .inr (.inl rfl) | exact .inr (.inr rfl)) (hd : (n == ("__debug__" : Str)) = false := by decide) (hcd : (n == ("__classdict__" : Str)) = false := by decide)
    (hba : ∀ a pns, attributeBase (.Name n p) f (X.suite a pns).env (eval (.Name n p) (X.suite a pns).env) = eval (.Name n p) (X.suite a pns).env := by exact fun _ _ => rfl)
    (hs1 : ∀ env, starEach [ec, .Attribute (.Name n p) f pa] env = (false, eval ec env) :: starEach [.Attribute (.Name n p) f pa] env := by exact fun _ => rfl) (hs2 : ∀ env, starEach [.Attribute (.Name n p) f pa] env = (false, eval (.Attribute (.Name n p) f pa) env) :: starEach [] env := by exact fun _ => rfl) :
    HdN X W C pn (.ExceptHandler (some (.Name x np)) (some n) [.Return (some (.Tuple [ec, .Attribute (.Name n p) f pa] nt pt)) p1] pos' :: hds) (.ret c i f (some d1) hs) :=
  hn_ret (te := fun a cls d => _) hI hc hN hi hln (fun a oe cls d pns hz hfd => pe_tup (pa_cons (hk a _) (pa_cons (pe_xf T hno hz hfd (pe_var hi hv hd hcd) (hba a ((a, oe) :: pns))) pa_nil (hs2 _)) (hs1 _))) (fun a dd fs v d M σ H Q al hσ hd hl hr q => by
    refine ⟨_, hσ, rfl, rfl, dd, fs, v, rfl, hd, hl, ?_⟩
    refine ⟨?_, fun p hp => q _ _ (grow_upd hp) (new_tup al hp ?_)⟩
    · exact sz_b rfl
    · rw [rdL]
      exact ⟨v1, _, rfl, hr1 _ _, rdL_one hr⟩) r
end
end Ev

set_option Elab.async false
set_option linter.all false
set_option maxRecDepth 100000
set_option maxHeartbeats 4000000
namespace Ev
open PySem PySem.Spec PyProof.Rows L2 He Gw
/-! ### a datum that stands in the module, read by a test -/
def tupAt (K : PySem.W.Frag) (u : Value) : Option (List Value) := match u with
  | .ref a => (match K.lookup a with
    | some ⟨.type c, _, .seq its _, _⟩ => if decide (c = "tuple") && decide (its.size ≤ sizeLine) then some its.toList else none
    | _ => none)
  | _ => none
theorem tupAt_ok {K : PySem.W.Frag} {u : Value} {us : List Value} (h : tupAt K u = some us) : ∃ a, u = .ref a ∧ ∀ vs, Vals vs us → CstT K a vs := by
  unfold tupAt at h
  split at h
  · rename_i a
    split at h
    · rename_i c od its n sl e
      split at h
      · rename_i h1
        obtain ⟨h1, h2⟩ := ba h1
        obtain rfl := of_decide_eq_true h1
        cases h
        exact ⟨a, rfl, fun vs r => ⟨_, its, n, e, rfl, rfl, of_decide_eq_true h2, r⟩⟩
      · cases h
    · cases h
  · cases h
mutual
def cstB (K : PySem.W.Frag) : D → Value → Bool
  | .non, u => relB .non u
  | .bl b, u => relB (.bl b) u
  | .int i, u => relB (.int i) u
  | .str x, u => relB (.str x) u
  | .tup ds, u => (match tupAt K u with
    | some us => cstL K ds us
    | none => false)
  | .lst _, _ => false
  | .dct _ _, _ => false
  | .ins _ _ _, _ => false
  | .glo _, _ => false
  | .ty _, _ => false
  | .scr _, _ => false
def cstL (K : PySem.W.Frag) : List D → List Value → Bool
  | [], us => us.isEmpty
  | d :: ds, us => (match us with
    | u :: us => cstB K d u && cstL K ds us
    | [] => false)
end
mutual
theorem cstB_ok {K : PySem.W.Frag} : ∀ {d : D} {u : Value}, cstB K d u = true → ∃ v, RelV v u ∧ ∀ M H, rd K M H d v
  | .non, u, h => by
    unfold cstB at h
    exact ⟨_, relB_ok h, fun M H => by rw [rd]⟩
  | .bl b, u, h => by
    unfold cstB at h
    exact ⟨_, relB_ok h, fun M H => by rw [rd]⟩
  | .int i, u, h => by
    unfold cstB at h
    exact ⟨_, relB_ok h, fun M H => by rw [rd]⟩
  | .str x, u, h => by
    unfold cstB at h
    exact ⟨_, relB_ok h, fun M H => by rw [rd]⟩
  | .tup ds, u, h => by
    unfold cstB at h
    split at h
    · rename_i us e
      obtain ⟨a, rfl, c⟩ := tupAt_ok e
      obtain ⟨vs, r, k⟩ := cstL_ok h
      refine ⟨.ref a, rfl, fun M H => ?_⟩
      rw [rd]
      exact ⟨a, vs, rfl, .inr (c vs r), k M H⟩
    · cases h
  | .lst _, u, h => by unfold cstB at h; cases h
  | .dct _ _, u, h => by unfold cstB at h; cases h
  | .ins _ _ _, u, h => by unfold cstB at h; cases h
  | .glo _, u, h => by unfold cstB at h; cases h
  | .ty _, u, h => by unfold cstB at h; cases h
  | .scr _, u, h => by unfold cstB at h; cases h
theorem cstL_ok {K : PySem.W.Frag} : ∀ {ds : List D} {us : List Value}, cstL K ds us = true → ∃ vs, Vals vs us ∧ ∀ M H, rdL K M H ds vs
  | [], us, h => by
    unfold cstL at h
    cases us with
    | nil => exact ⟨[], .nil, fun M H => by rw [rdL]⟩
    | cons u us => cases h
  | d :: ds, us, h => by
    unfold cstL at h
    cases us with
    | nil => cases h
    | cons u us =>
      obtain ⟨h1, h2⟩ := ba h
      obtain ⟨v, r1, k1⟩ := cstB_ok h1
      obtain ⟨vs, r2, k2⟩ := cstL_ok h2
      exact ⟨v :: vs, .cons r1 r2, fun M H => by rw [rdL]; exact ⟨v, vs, rfl, k1 M H, k2 M H⟩⟩
end
theorem cst_tup {K : PySem.W.Frag} {x : Str} {d : D} (h : cstB K d (.ref (ga K x)) = true) : ∀ M H, rd K M H d (.ref (ga K x)) := by
  obtain ⟨v, r, k⟩ := cstB_ok h
  have e : v = .ref (ga K x) := by
    cases v with
    | ref a => cases r; rfl
    | _ => first | (obtain ⟨t, r⟩ := r; cases r; done) | cases r
  subst e
  exact k
/-! ### a dict of the top with text keys -/
abbrev tabD (ks : List Str) (ds : List D) : D := .dct (ks.map Sum.inr) ds
structure KTab (K : PySem.W.Frag) (w : World) (x : Str) (ks : List Str) (ds : List D) : Prop where
  at_ : ∃ es n, KDict K w (ga K x) es n
  get : ∀ z d, valD (ks.map Sum.inr) ds (.inr z) = some d → ∃ u v, PySem.W.nsIn K (ga K x) z = some (some u) ∧ RelV v u ∧ ∀ M H, rd K M H d v
  miss : ∀ z, valD (ks.map Sum.inr) ds (.inr z) = none → PySem.W.nsIn K (ga K x) z = some none
def ktB (K : PySem.W.Frag) (x : Str) (ks : List Str) (ds : List D) : Bool := decide (ks.length = ds.length) && (ks.zip ds).all fun q => match PySem.W.nsIn K (ga K x) q.1 with
  | some (some u) => cstB K q.2 u
  | _ => false
theorem val_mem {z : Str} {d : D} : ∀ {ks : List Str} {ds : List D}, valD (ks.map Sum.inr) ds (.inr z) = some d → (z, d) ∈ ks.zip ds
  | [], _, h => by cases h
  | _ :: _, [], h => by cases h
  | k :: ks, e :: ds, h => by
    unfold valD at h
    rw [List.map_cons, List.zip_cons_cons, List.find?_cons] at h
    by_cases q : (Sum.inr k : L2.Key) = .inr z
    · rw [decide_eq_true q] at h
      cases h
      cases q
      exact List.mem_cons_self
    · rw [decide_eq_false q] at h
      exact List.mem_cons_of_mem _ (val_mem (by unfold valD; exact h))
theorem val_miss {z : Str} : ∀ {ks : List Str} {ds : List D}, ks.length = ds.length → valD (ks.map Sum.inr) ds (.inr z) = none → z ∉ ks
  | [], _, _, _ => by simp
  | _ :: _, [], l, _ => by cases l
  | k :: ks, e :: ds, l, h => by
    unfold valD at h
    rw [List.map_cons, List.zip_cons_cons, List.find?_cons] at h
    by_cases q : (Sum.inr k : L2.Key) = .inr z
    · rw [decide_eq_true q] at h
      cases h
    · rw [decide_eq_false q] at h
      have ih := val_miss (z := z) (ks := ks) (ds := ds) (Nat.succ.inj l) (by unfold valD; exact h)
      intro m
      rcases List.mem_cons.mp m with m | m
      · exact q (by rw [m])
      · exact ih m
theorem keys_miss {P : Params} {z : Str} : ∀ {es : List DictEntry} {ks : List Str}, es.map keyOf = keysIn P ks → z ∉ ks → es.find? (·.key.isStr z) = none ∧ es.any (·.refKey) = false
  | [], _, _, _ => ⟨rfl, rfl⟩
  | e :: es, [], h, _ => by cases h
  | e :: es, k :: ks, h, n => by
    have h1 : keyOf e :: es.map keyOf = some (k, PyData.keyHash P k) :: keysIn P ks := h
    injection h1 with h2 h3
    have ih := keys_miss (z := z) h3 fun m => n (List.mem_cons_of_mem _ m)
    unfold keyOf at h2
    split at h2
    · rename_i y t q
      have h4 := Option.some.inj h2
      obtain ⟨h5, h6⟩ := Prod.mk.inj h4
      have e1 : e.key.isStr z = false := by
        rw [q]
        show (y == z) = false
        rw [h5]
        exact beq_eq_false_iff_ne.mpr fun m => n (by rw [m]; exact List.mem_cons_self)
      have e2 : e.refKey = false := by
        unfold DictEntry.refKey
        rw [q]
      rw [List.find?_cons, e1, List.any_cons, e2]
      exact ih
    · cases h2
theorem ktab_of {K : PySem.W.Frag} {w : World} {x : Str} {ks : List Str} {ds : List D} (h : dicW K (ga K x) = some (keysIn w.params ks)) (t : ktB K x ks ds = true) : KTab K w x ks ds := by
  obtain ⟨t1, t2⟩ := ba t
  have l := of_decide_eq_true t1
  obtain ⟨es, n, D⟩ := dicW_ok h
  refine ⟨⟨es, n, D⟩, fun z d e => ?_, fun z e => ?_⟩
  · have q := List.all_eq_true.mp t2 _ (val_mem e)
    dsimp only at q
    split at q
    · rename_i u hu
      obtain ⟨v, r, k⟩ := cstB_ok q
      exact ⟨u, v, hu, r, k⟩
    · cases q
  · have m := val_miss l e
    have hk : es.toList.map keyOf = keysIn w.params ks := by
      unfold dicW at h
      rw [D.at_] at h
      dsimp only at h
      split at h
      · exact Option.some.inj h
      · cases h
    obtain ⟨f, g⟩ := keys_miss hk m
    unfold PySem.W.nsIn
    rw [D.at_]
    dsimp only
    rw [f]
    dsimp only
    rw [g]
    rfl
section
variable {X : Cx} {W : WX} {C : Ct} {a b : Expr} {pos p2 : Pos} {q : Opd} {x : Str} {ks : List Str} {ds : List D}
theorem ev2_f {o : Opc} {d : D} {q : Opd} {env : En} : evE C (.op o (.cons (.e (.kst d)) (.cons q .nil))) env = (evOpd C q env).bind fun y e2 => lift ((resO e2 [.inl d, y]).bind (opD o)) e2 := by
  rw [ev_op2]
  unfold ev2
  rw [show evOpd C (.e (.kst d)) env = .ok (.inl d) env from by rw [evOpd, evE]; rfl]
  rfl
theorem rv_one {K : PySem.W.Frag} {B : Addr → Prop} {F : Fp} {H : Hp} {σ : L2.St} {env : En} {o : Ov} {d : D} {v : V} (k : Ok K B F H σ env) (e : resO env [o] = some [d]) (h : ov K B F H σ o v) : rv K (av B F) H d v := by
  have r := res_rv (vs := [v]) k e ⟨v, [], rfl, h, rfl⟩
  obtain ⟨v', r', e', r1, _⟩ := r
  cases e'
  exact r1
theorem x_kget (T : KTab X.K X.w x ks ds) (g : X.mg x = some (.ref (ga X.K x))) (hb : SO X W b (evOpd C q)) (hs : PlainIx b := by exact fun _ _ => rfl) (hg : Gl X x := by rfl) (hd : (x == ("__debug__" : Str)) = false := by decide) :
    SE X W (.Subscript (.Name x p2) b pos) (evE C (.op .kget (.cons (.e (.kst (tabD ks ds))) (.cons q .nil)))) :=
  (pe_ix ix_kdict (pe_gref g hg hd) hb hs).imp fun σ H Q h => by
  obtain ⟨es, n, D⟩ := T.at_
  obtain ⟨B, F, env, k, h⟩ := h
  rw [ev2_f] at h
  refine ⟨B, F, env, k, pst_imp (pst_bind h) fun o e1 F1 H1 _ _ zz v hv => ?_⟩
  obtain ⟨_, k1, zz⟩ := zz
  obtain ⟨d, e, zz2⟩ := pst_lift zz
  rw [resO] at e
  cases qq : resO e1 [o] with
  | none => rw [qq] at e; cases e
  | some es2 =>
    rw [qq] at e
    obtain ⟨d1, rfl⟩ : ∃ d1, es2 = [d1] := by
      cases o with
      | inl d' => rw [resO, resO] at qq; cases qq; exact ⟨_, rfl⟩
      | inr i =>
        rw [resO] at qq
        cases z : view e1 i with
        | none => rw [z] at qq; cases qq
        | some d' => rw [z, resO] at qq; cases qq; exact ⟨_, rfl⟩
    have r := rv_one k1 qq hv
    replace e : kgetD (tabD ks ds) d1 = some d := e
    cases d1 with
    | str z =>
      replace e : valD (ks.map Sum.inr) ds (.inr z) = some d := e
      obtain rfl := rv_str r
      obtain ⟨u, v', hn, rr, k'⟩ := T.get z d e
      exact ⟨_, z, v', rfl, rfl, ⟨es, n, u, D.at_, D.lit, hn, rr⟩, zz2 F1 H1 .refl k1 v' (k' _ _)⟩
    | _ => cases e
theorem kin_in {o : Opc} {f : Bool → Bool} {σ : L2.St} {H : Hp} {Q : VK} (T : KTab X.K X.w x ks ds) (ho : ∀ d1 d2, opD o [d1, d2] = (kinD d1 d2).map fun r => .bl (f r)) (h : tE X.K W (evE C (.op o (.cons q (.cons (.e (.kst (tabD ks ds))) .nil)))) σ H Q) :
    tOd X.K W (evOpd C q) σ H fun y H1 => ∃ (z : Str) (r : Option Value), y = .str z ∧ PySem.W.nsIn X.K (ga X.K x) z = some r ∧ Q (.bl (f r.isSome)) H1 := by
  obtain ⟨B, F, env, k, h⟩ := h
  rw [ev2_l (d := tabD ks ds) (fun env => by rw [evE])] at h
  refine ⟨B, F, env, k, pst_imp (pst_bind h) fun o e1 F1 H1 _ _ zz v hv => ?_⟩
  obtain ⟨_, k1, zz⟩ := zz
  obtain ⟨d, e, zz2⟩ := pst_lift zz
  have hq : ∃ d1, resO e1 [o] = some [d1] ∧ resO e1 [o, .inl (tabD ks ds)] = some [d1, tabD ks ds] := by
    cases o with
    | inl d' => exact ⟨d', rfl, rfl⟩
    | inr i =>
      rw [resO] at e
      cases z : view e1 i with
      | none => rw [z] at e; cases e
      | some d' => exact ⟨d', by rw [resO, z]; rfl, by rw [resO, z]; rfl⟩
  obtain ⟨d1, q1, q2⟩ := hq
  rw [q2] at e
  have r := rv_one k1 q1 hv
  replace e : opD _ [d1, tabD ks ds] = some d := e
  rw [ho] at e
  cases d1 with
  | str z =>
    cases e
    obtain rfl := rv_str r
    cases hz : valD (ks.map Sum.inr) ds (.inr z) with
    | some d' =>
      obtain ⟨u, v', hn, _, _⟩ := T.get z d' hz
      refine ⟨z, some u, rfl, hn, zz2 F1 H1 .refl k1 _ ?_⟩
      rw [hz, rd]
      rfl
    | none =>
      refine ⟨z, none, rfl, T.miss z hz, zz2 F1 H1 .refl k1 _ ?_⟩
      rw [hz, rd]
      rfl
  | _ => cases e
theorem x_kin (T : KTab X.K X.w x ks ds) (g : X.mg x = some (.ref (ga X.K x))) (ha : SO X W a (evOpd C q)) (hm : behindInMarks .In (.Name x p2) = false := by rfl) (hg : Gl X x := by rfl) (hd : (x == ("__debug__" : Str)) = false := by decide) :
    SE X W (.Compare a [.In] [.Name x p2] pos) (evE C (.op .kin (.cons q (.cons (.e (.kst (tabD ks ds))) .nil)))) := by
  obtain ⟨es, n, D⟩ := T.at_
  exact (pe_cmpR (op_in_kd D) ha (pe_gref g hg hd) hm).imp fun σ H Q h => (kin_in (f := fun b => b) T (fun _ _ => rfl) h).imp fun B h => h.imp fun F h => h.imp fun env h => ⟨h.1, pst_imp h.2 fun o e F' H' _ _ z v hv => by
    obtain ⟨y, r, e1, e2, e3⟩ := z v hv
    exact ⟨y, r, e1, rfl, e2, e3⟩⟩
theorem x_knotin (T : KTab X.K X.w x ks ds) (g : X.mg x = some (.ref (ga X.K x))) (ha : SO X W a (evOpd C q)) (hm : behindInMarks .NotIn (.Name x p2) = false := by rfl) (hg : Gl X x := by rfl) (hd : (x == ("__debug__" : Str)) = false := by decide) :
    SE X W (.Compare a [.NotIn] [.Name x p2] pos) (evE C (.op .knotin (.cons q (.cons (.e (.kst (tabD ks ds))) .nil)))) := by
  obtain ⟨es, n, D⟩ := T.at_
  exact (pe_cmpR (op_notIn_kd D) ha (pe_gref g hg hd) hm).imp fun σ H Q h => (kin_in (f := fun b => !b) T (fun _ _ => rfl) h).imp fun B h => h.imp fun F h => h.imp fun env h => ⟨h.1, pst_imp h.2 fun o e F' H' _ _ z v hv => by
    obtain ⟨y, r, e1, e2, e3⟩ := z v hv
    exact ⟨y, r, e1, rfl, e2, e3⟩⟩
theorem kin_bl {o : Opc} {f : Bool → Bool} (ho : ∀ ds d, opD o ds = some d → ∃ d1 d2, ds = [d1, d2]) (ho2 : ∀ d1 d2, opD o [d1, d2] = (kinD d1 d2).map fun r => .bl (f r)) {p : Opd} {env e : En} {d : D} (z : evE C (.op o (.cons p (.cons q .nil))) env = .ok d e) : ∃ b, d = .bl b := by
  rw [evE] at z
  obtain ⟨os, e1, _, z⟩ := bind_ok z
  obtain ⟨z, _⟩ := lift_ok z
  cases w : resO e1 os with
  | none => rw [w] at z; cases z
  | some ds =>
    rw [w] at z
    obtain ⟨d1, d2, rfl⟩ := ho ds d z
    rw [show (some [d1, d2]).bind (opD o) = opD o [d1, d2] from rfl, ho2] at z
    cases q2 : kinD d1 d2 with
    | none => rw [q2] at z; cases z
    | some r => rw [q2] at z; cases z; exact ⟨_, rfl⟩
theorem x_kinT (T : KTab X.K X.w x ks ds) (g : X.mg x = some (.ref (ga X.K x))) (ha : SO X W a (evOpd C q)) (hm : behindInMarks .In (.Name x p2) = false := by rfl) (hg : Gl X x := by rfl) (hd : (x == ("__debug__" : Str)) = false := by decide) :
    ST X W (.Compare a [.In] [.Name x p2] pos) (evE C (.op .kin (.cons q (.cons (.e (.kst (tabD ks ds))) .nil)))) := by
  obtain ⟨es, n, D⟩ := T.at_
  exact (pt_cmpR (op_in_kd D) ha (pe_gref g hg hd) hm).imp fun σ H Q h => (kin_in (f := fun b => b) T (fun _ _ => rfl) (tt_tb (fun env d e z => kin_bl (f := fun b => b) (fun ds d z => by
    match ds, z with
    | [d1, d2], _ => exact ⟨d1, d2, rfl⟩) (fun _ _ => rfl) z) h)).imp fun B h => h.imp fun F h => h.imp fun env h => ⟨h.1, pst_imp h.2 fun o e F' H' _ _ z v hv => by
    obtain ⟨y, r, e1, e2, e3⟩ := z v hv
    exact ⟨y, r, e1, rfl, e2, e3⟩⟩
theorem x_knotinT (T : KTab X.K X.w x ks ds) (g : X.mg x = some (.ref (ga X.K x))) (ha : SO X W a (evOpd C q)) (hm : behindInMarks .NotIn (.Name x p2) = false := by rfl) (hg : Gl X x := by rfl) (hd : (x == ("__debug__" : Str)) = false := by decide) :
    ST X W (.Compare a [.NotIn] [.Name x p2] pos) (evE C (.op .knotin (.cons q (.cons (.e (.kst (tabD ks ds))) .nil)))) := by
  obtain ⟨es, n, D⟩ := T.at_
  exact (pt_cmpR (op_notIn_kd D) ha (pe_gref g hg hd) hm).imp fun σ H Q h => (kin_in (f := fun b => !b) T (fun _ _ => rfl) (tt_tb (fun env d e z => kin_bl (f := fun b => !b) (fun ds d z => by
    match ds, z with
    | [d1, d2], _ => exact ⟨d1, d2, rfl⟩) (fun _ _ => rfl) z) h)).imp fun B h => h.imp fun F h => h.imp fun env h => ⟨h.1, pst_imp h.2 fun o e F' H' _ _ z v hv => by
    obtain ⟨y, r, e1, e2, e3⟩ := z v hv
    exact ⟨y, r, e1, rfl, e2, e3⟩⟩
end
end Ev
namespace Gw
open PySem PySem.Spec PyProof.Rows L2 He
/-! ### the head, with dicts of the top -/
abbrev AlXT : Type := AlX × List (Option (List (Option (Str × Int))))
def obXT (n : Nat) (fx : List Fx) (fn : List DefD) (ts : List Tab) (g : Addr → Option Obj) : AlXT := (obX n fx fn g, ts.map fun t => dicW (frG g (asD g n)) (t.1 (frG g (asD g n))))
structure SaysXT (fx : List Fx) (fn : List DefD) (ts : List Tab) (w : World) (K : PySem.W.Frag) : Prop where
  x : SaysX fx fn K
  t : (ts.map fun t => dicW K (t.1 K)) = ts.map fun t => some (keysIn w.params t.2)
theorem obXT_says {n : Nat} {fx : List Fx} {fn : List DefD} {ts : List Tab} {w : World} {g : Addr → Option Obj} (e : obXT n fx fn ts g = ((true, valD fn), ts.map fun t => some (keysIn w.params t.2))) : SaysXT fx fn ts w (frG g (asD g n)) := by
  unfold obXT at e
  obtain ⟨e1, e2⟩ := Prod.mk.inj e
  exact ⟨⟨congrArg Prod.fst e1, congrArg Prod.snd e1⟩, e2⟩
def hookXT (n : Nat) (fx : List Fx) (fn : List DefD) (ts : List Tab) : PySem.W.Hook :=
  { α := AlXT, obs := fun s => obXT n fx fn ts s.heap.get?, val := fun w => ((true, valD fn), ts.map fun t => some (keysIn w.params t.2)), says := fun w h => ∃ K : PySem.W.Frag, K.In h ∧ SaysXT fx fn ts w K,
    of := fun _ s e => Exists.intro (frG s.heap.get? (asD s.heap.get? n)) (And.intro frG_in (obXT_says e)),
    keeps := fun _ _ _ p kp => p.elim fun K z => ⟨K, z.1.keeps kp, z.2⟩ }
theorem obXT_eq {n : Nat} {fx : List Fx} {fn : List DefD} {ts : List Tab} {g : Addr → Option Obj} {s : Shared} (h : ∀ a, g a = s.heap.get? a) : obXT n fx fn ts g = (hookXT n fx fn ts).obs s := by
  obtain rfl : g = s.heap.get? := funext h
  rfl
theorem SaysXT.tab {fx : List Fx} {fn : List DefD} {ts : List Tab} {w : World} {K : PySem.W.Frag} (c : SaysXT fx fn ts w K) (i : Nat) {t : Tab} (h : ts[i]? = some t := by rfl) : dicW K (t.1 K) = some (keysIn w.params t.2) := by
  have e := c.t
  have e2 : (ts.map fun t => dicW K (t.1 K))[i]? = (ts.map fun t => some (keysIn w.params t.2))[i]? := by rw [e]
  rw [List.getElem?_map, List.getElem?_map, h] at e2
  exact Option.some.inj e2
end Gw

set_option Elab.async false
set_option linter.all false
set_option maxRecDepth 100000
set_option maxHeartbeats 4000000
namespace Ev
open PySem PySem.Spec PyProof.Rows L2 He Gw
/-! ### own lists of own things -/
section
variable {K : PySem.W.Frag} {M M' : Addr → Prop} {H H' : Hp} {B : Addr → Prop} {σ : L2.St} {F F1 : Fp} {H1 : Hp} {env env1 : En}
theorem owL_rw {w0 : Wv} {ws : List Wv} {v : V} {fp : List Addr} (e : owL w0 = some ws) (r : rw' K M H w0 v fp) : ∃ l vs fq, v = .ref l ∧ fp = l :: fq ∧ H l = some (.lst vs) ∧ rwL K M H ws vs fq := by
  cases w0 with
  | ol ds =>
    cases e
    rw [rw'] at r
    obtain ⟨l, vs, rfl, rfl, hl, r⟩ := r
    exact ⟨l, vs, [], rfl, rfl, hl, rwL_fz r⟩
  | ow ws' =>
    cases e
    rw [rw'] at r
    obtain ⟨l, vs, fq, rfl, rfl, hl, r⟩ := r
    exact ⟨l, vs, fq, rfl, rfl, hl, r⟩
  | fz _ => cases e
  | od _ _ => cases e
  | oi _ _ _ => cases e
theorem rwL_len : ∀ {ws : List Wv} {vs : List V} {fp : List Addr}, rwL K M H ws vs fp → ws.length = vs.length
  | [], _, _, r => by rw [rwL] at r; rw [r.1]; rfl
  | w :: ws, _, _, r => by
    rw [rwL] at r
    obtain ⟨v, r', f1, f2, rfl, rfl, h1, h2⟩ := r
    rw [List.length_cons, List.length_cons, rwL_len h2]
theorem rwL_app : ∀ {ws us : List Wv} {vs xs : List V} {f g : List Addr}, rwL K M H ws vs f → rwL K M H us xs g → rwL K M H (ws ++ us) (vs ++ xs) (f ++ g)
  | [], us, _, xs, _, g, r, r' => by rw [rwL] at r; obtain ⟨rfl, rfl⟩ := r; exact r'
  | w :: ws, us, _, xs, _, g, r, r' => by
    rw [rwL] at r
    obtain ⟨v, vs, f1, f2, rfl, rfl, h1, h2⟩ := r
    show rwL K M H (w :: (ws ++ us)) (v :: (vs ++ xs)) _
    rw [rwL]
    exact ⟨v, vs ++ xs, f1, f2 ++ g, rfl, by rw [List.append_assoc], h1, rwL_app h2 r'⟩
theorem rwL_one {w : Wv} {v : V} {f : List Addr} (r : rw' K M H w v f) : rwL K M H [w] [v] f := by
  rw [rwL]
  exact ⟨v, [], f, [], rfl, by rw [List.append_nil], r, by rw [rwL]; exact ⟨rfl, rfl⟩⟩
/-- one part, and the rest as it is -/
theorem rwL_at : ∀ {ws : List Wv} {vs : List V} {fp : List Addr} {n : Nat} {w : Wv}, rwL K M H ws vs fp → ws[n]? = some w → ∃ v f1 f2 f3, vs[n]? = some v ∧ fp = f1 ++ (f2 ++ f3) ∧ rw' K M H w v f2 ∧
    ∀ (M' : Addr → Prop) (H' : Hp) (w' : Wv), Stay M H M' H' → (∀ a ∈ f1, H' a = H a) → (∀ a ∈ f3, H' a = H a) → rw' K M' H' w' v f2 → rwL K M' H' (ws.set n w') vs fp
  | [], _, _, _, _, _, e => by simp at e
  | w :: ws, _, _, 0, w0, r, e => by
    rw [rwL] at r
    obtain ⟨v, vs, f1, f2, rfl, rfl, h1, h2⟩ := r
    simp at e
    subst e
    refine ⟨v, [], f1, f2, rfl, rfl, h1, fun M' H' w' st _ k3 r' => ?_⟩
    show rwL K M' H' (w' :: ws) _ _
    rw [rwL]
    exact ⟨v, vs, f1, f2, rfl, rfl, r', rwL_stay st ws vs f2 k3 h2⟩
  | w :: ws, _, _, n + 1, w0, r, e => by
    rw [rwL] at r
    obtain ⟨v, vs, f1, f2, rfl, rfl, h1, h2⟩ := r
    obtain ⟨u, g1, g2, g3, e1, rfl, h3, q⟩ := rwL_at (n := n) (w := w0) h2 (by simpa using e)
    refine ⟨u, f1 ++ g1, g2, g3, by simpa using e1, by rw [List.append_assoc], h3, fun M' H' w' st k1 k3 r' => ?_⟩
    show rwL K M' H' (w :: ws.set n w') _ _
    rw [rwL]
    exact ⟨v, vs, f1, _, rfl, rfl, rw_stay st w v f1 (fun a ha => k1 a (List.mem_append_left _ ha)) h1, q M' H' w' st (fun a ha => k1 a (List.mem_append_right _ ha)) k3 r'⟩
/-- an object of a slot's own changed -/
theorem Ok.chg (k : Ok K B F H σ env) {i : Nat} {w : Wv} {v : V} {q : Addr} {o : HO} (hi : i < env.length) (hq : q ∈ F i) (hs : σ[i]? = some (some v)) (hw : Stay (av B F) H (av B F) (upd H q o) → rw' K (av B F) (upd H q o) w v (F i)) : Stp F H F (upd H q o) ∧ Ok K B F (upd H q o) σ (env.set i (some w)) := by
  have inl : inF F q := ⟨i, hq⟩
  have st : Stay (av B F) H (av B F) (upd H q o) := ⟨fun a u n e => by rw [upd_ne (fun z => n (by rw [z]; exact .inr inl))]; exact e, fun a h => .inl h⟩
  refine ⟨⟨fun a u n e => by rw [upd_ne (fun z => n (by rw [z]; exact inl))]; exact e, fun a h => .inl h⟩, ⟨by rw [List.length_set, k.len], fun j u e => ?_, k.nd, k.dj, fun a h => ?_, k.sep⟩⟩
  · by_cases ej : j = i
    · subst ej
      rw [List.getElem?_set_self hi] at e
      cases e
      exact ⟨v, hs, hw st⟩
    · rw [List.getElem?_set_ne (fun z => ej z.symm)] at e
      obtain ⟨v, e1, r⟩ := k.at_ j u e
      refine ⟨v, e1, rw_stay st u v (F j) (fun a ha => upd_ne fun z => ej (k.dj j i a ha (by rw [z]; exact hq))) r⟩
  · by_cases e : a = q
    · rw [e, upd_same]; exact fun z => nomatch z
    · rw [upd_ne e]; exact k.there a h
/-- an own result put behind the parts of a slot's own list -/
theorem Got.app {σ0 : L2.St} {env0 : En} {w : Wv} {v : V} {Fr : List Addr} (k : Ok K B F H σ0 env0) (g : Got K B σ F H F1 H1 env1 w v Fr) {i : Nat} {w0 w2 : Wv} (hw : getW env1 i = some w0) (e : app2W w w0 = some w2) :
    ∃ l vs, σ[i]? = some (some (.ref l)) ∧ H1 l = some (.lst vs) ∧ vs.length < sizeLine ∧ Stp F H (putF F1 i (F1 i ++ Fr)) (upd H1 l (.lst (vs ++ [v]))) ∧ Ok K B (putF F1 i (F1 i ++ Fr)) (upd H1 l (.lst (vs ++ [v]))) σ (env1.set i (some w2)) := by
  unfold app2W at e
  cases q : owL w0 with
  | none => rw [q] at e; cases e
  | some ws =>
    rw [q] at e
    replace e : (if ws.length < sizeLine then some (Wv.ow (ws ++ [w])) else none) = some w2 := e
    split at e
    · rename_i hz
      cases e
      obtain ⟨v0, e0, r0⟩ := g.ok.own hw
      obtain ⟨l, vs, fq, rfl, hf, hl, r⟩ := owL_rw q r0
      have hlf : l ∈ F1 i := by rw [hf]; exact List.mem_cons_self
      have hls : ∀ a ∈ Fr, a ≠ l := fun a ha z => g.ok.sep a (.inr ha) ⟨i, by rw [z]; exact hlf⟩
      have hB : ∀ a ∈ Fr, ¬ B a := fun a ha hb => by
        rcases g.from_ a ha with q | q
        · exact k.sep a hb q
        · exact k.there a (.inl hb) q
      have less : ∀ a, av B (putF F1 i (F1 i ++ Fr)) a → av (fun a => B a ∨ a ∈ Fr) F1 a := fun a h => by
        rcases h with h | h
        · exact .inl (.inl h)
        · rcases inF_put h with h | h
          · rcases List.mem_append.mp h with h | h
            · exact .inr ⟨i, h⟩
            · exact .inl (.inr h)
          · exact .inr h
      have st : Stay (av (fun a => B a ∨ a ∈ Fr) F1) H1 (av B (putF F1 i (F1 i ++ Fr))) (upd H1 l (.lst (vs ++ [v]))) := ⟨fun a u n e => by rw [upd_ne (fun z => n (by rw [z]; exact .inr ⟨i, hlf⟩))]; exact e, fun a h => .inl (less a h)⟩
      refine ⟨l, vs, e0, hl, by rw [← rwL_len r]; exact hz, ⟨fun a u n e => ?_, fun a h => ?_⟩, ⟨by rw [List.length_set, g.ok.len], fun j u e => ?_, fun j => ?_, fun j j' a h h' => ?_, fun a h => ?_, fun a h z => ?_⟩⟩
      · have e1 := g.stp.keep a u n e
        by_cases z : a = l
        · subst z
          rcases g.stp.new a ⟨i, hlf⟩ with q | q
          · exact absurd q n
          · rw [q] at e; cases e
        · rw [upd_ne z]; exact e1
      · rcases inF_put h with h | h
        · rcases List.mem_append.mp h with h | h
          · exact g.stp.new a ⟨i, h⟩
          · exact g.from_ a h
        · exact g.stp.new a h
      · by_cases ej : j = i
        · subst ej
          rw [List.getElem?_set_self (getW_lt hw)] at e
          cases e
          refine ⟨.ref l, e0, ?_⟩
          rw [putF_same, rw']
          have nd := g.ok.nd j
          rw [hf] at nd
          exact ⟨l, _, fq ++ Fr, rfl, by rw [hf]; rfl, upd_same, rwL_app (rwL_stay st ws vs fq (fun a ha => upd_ne fun z => (List.nodup_cons.mp nd).1 (by rw [← z]; exact ha)) r) (rwL_one (rw_stay st w v Fr (fun a ha => upd_ne (hls a ha)) g.rw))⟩
        · rw [List.getElem?_set_ne (fun z => ej z.symm)] at e
          obtain ⟨v', e1, r'⟩ := g.ok.at_ j u e
          refine ⟨v', e1, ?_⟩
          rw [putF_ne ej]
          exact rw_stay st u v' (F1 j) (fun a ha => upd_ne fun z => ej (g.ok.dj j i a ha (by rw [z]; exact hlf))) r'
      · by_cases ej : j = i
        · rw [ej, putF_same]
          exact List.nodup_append.mpr ⟨g.ok.nd i, g.nd, fun a ha b hb z => g.ok.sep b (.inr hb) ⟨i, by rw [← z]; exact ha⟩⟩
        · rw [putF_ne ej]; exact g.ok.nd j
      · by_cases ej : j = i
        · by_cases ej' : j' = i
          · rw [ej, ej']
          · rw [ej, putF_same] at h
            rw [putF_ne ej'] at h'
            rcases List.mem_append.mp h with h | h
            · rw [ej]; exact g.ok.dj i j' a h h'
            · exact absurd ⟨j', h'⟩ (g.ok.sep a (.inr h))
        · by_cases ej' : j' = i
          · rw [ej', putF_same] at h'
            rw [putF_ne ej] at h
            rcases List.mem_append.mp h' with h' | h'
            · rw [ej']; exact g.ok.dj j i a h h'
            · exact absurd ⟨j, h⟩ (g.ok.sep a (.inr h'))
          · rw [putF_ne ej] at h
            rw [putF_ne ej'] at h'
            exact g.ok.dj j j' a h h'
      · by_cases z : a = l
        · rw [z, upd_same]; exact fun z => nomatch z
        · rw [upd_ne z]; exact g.ok.there a (less a h)
      · rcases inF_put z with z | z
        · rcases List.mem_append.mp z with z | z
          · exact g.ok.sep a (.inl h) ⟨i, z⟩
          · exact hB a z h
        · exact g.ok.sep a (.inl h) z
    · cases e
end
section
variable {X : Cx} {W : WX} {C : Ct} {pn : Nat → Bool} {a b c e : Expr} {pos p p1 p2 apos : Pos} {x : Str}
theorem x_tru (i : Nat) (hN : X.N[i]? = some x := by rfl) (hv : Vis X.env.scope x := by first | exact .inl rfl | exact .inr (.inl rfl) | exact .inr (.inr rfl)) (hd : (x == ("__debug__" : Str)) = false := by decide) (hcd : (x == ("__classdict__" : Str)) = false := by decide) : ST X W (.Name x p) (evE C (.tru i)) := (pt_truth (pe_var hN hv hd hcd) (plainA_of rfl)).imp fun σ H Q h => by
  obtain ⟨B, F, env, k, h⟩ := h
  rw [evE] at h
  obtain ⟨d, e, h⟩ := pst_lift h
  cases q : getW env i with
  | none => rw [q] at e; cases e
  | some w =>
    rw [q] at e
    obtain ⟨v, e1, r⟩ := k.own q
    obtain ⟨t, et, hq⟩ := pst_here h k
    cases w with
    | ol ds =>
      cases e
      cases et
      rw [rw'] at r
      obtain ⟨l, vs, rfl, _, hl, r⟩ := r
      have l := rdL_len r
      exact ⟨_, e1, _, .inl ⟨vs, SqL.of hl, by cases ds <;> cases vs <;> first | rfl | cases l⟩, hq⟩
    | ow ws =>
      cases e
      cases et
      rw [rw'] at r
      obtain ⟨l, vs, fq, rfl, _, hl, r⟩ := r
      have l := rwL_len r
      exact ⟨_, e1, _, .inl ⟨vs, SqL.of hl, by cases ws <;> cases vs <;> first | rfl | cases l⟩, hq⟩
    | fz _ => cases e
    | od _ _ => cases e
    | oi _ _ _ => cases e
theorem ix2_some {k : Int} {y d : D} {w : Wv} (e : ix2W k y w = some d) : ∃ ws j n ds m, w = .ow ws ∧ y = .int j ∧ ixN ws.length j = some n ∧ ws[n]? = some (.ol ds) ∧ ixN ds.length k = some m ∧ ds[m]? = some d := by
  cases w with
  | ow ws =>
    cases y with
    | int j =>
      replace e : ((ixN ws.length j).bind fun n => (ws[n]?).bind fun w => match w with
        | .ol ds => (ixN ds.length k).bind fun m => ds[m]?
        | _ => none) = some d := e
      cases q : ixN ws.length j with
      | none => rw [q] at e; cases e
      | some n =>
        rw [q] at e
        replace e : ((ws[n]?).bind fun w => match w with
          | .ol ds => (ixN ds.length k).bind fun m => ds[m]?
          | _ => none) = some d := e
        cases q2 : ws[n]? with
        | none => rw [q2] at e; cases e
        | some w =>
          rw [q2] at e
          cases w with
          | ol ds =>
            replace e : ((ixN ds.length k).bind fun m => ds[m]?) = some d := e
            cases q3 : ixN ds.length k with
            | none => rw [q3] at e; cases e
            | some m => rw [q3] at e; exact ⟨ws, j, n, ds, m, rfl, rfl, q, q2, q3, e⟩
          | _ => cases e
    | _ => cases e
  | _ => cases e
theorem set2_some {k : Int} {y d : D} {w w2 : Wv} (e : set2W k y d w = some w2) : ∃ ws j n ds m, w = .ow ws ∧ y = .int j ∧ ixN ws.length j = some n ∧ ws[n]? = some (.ol ds) ∧ ixN ds.length k = some m ∧ w2 = .ow (ws.set n (.ol (ds.set m d))) := by
  cases w with
  | ow ws =>
    cases y with
    | int j =>
      replace e : ((ixN ws.length j).bind fun n => (ws[n]?).bind fun w => match w with
        | .ol ds => (ixN ds.length k).map fun m => Wv.ow (ws.set n (.ol (ds.set m d)))
        | _ => none) = some w2 := e
      cases q : ixN ws.length j with
      | none => rw [q] at e; cases e
      | some n =>
        rw [q] at e
        replace e : ((ws[n]?).bind fun w => match w with
          | .ol ds => (ixN ds.length k).map fun m => Wv.ow (ws.set n (.ol (ds.set m d)))
          | _ => none) = some w2 := e
        cases q2 : ws[n]? with
        | none => rw [q2] at e; cases e
        | some w =>
          rw [q2] at e
          cases w with
          | ol ds =>
            replace e : ((ixN ds.length k).map fun m => Wv.ow (ws.set n (.ol (ds.set m d)))) = some w2 := e
            cases q3 : ixN ds.length k with
            | none => rw [q3] at e; cases e
            | some m => rw [q3] at e; cases e; exact ⟨ws, j, n, ds, m, rfl, rfl, q, q2, q3, rfl⟩
          | _ => cases e
    | _ => cases e
  | _ => cases e
/-- what the two subscripts of a slot's own list come to -/
theorem ow_at {K : PySem.W.Frag} {B : Addr → Prop} {σ : L2.St} {F : Fp} {H : Hp} {env : En} (k : Ok K B F H σ env) {i : Nat} {ws : List Wv} (hw : getW env i = some (.ow ws)) {j : Int} {n : Nat} {ds : List D} (hj : ixN ws.length j = some n) (hn : ws[n]? = some (.ol ds)) :
    ∃ l vs q us, σ[i]? = some (some (.ref l)) ∧ H l = some (.lst vs) ∧ atI vs j = some (.ref q) ∧ H q = some (.lst us) ∧ rdL K (av B F) H ds us ∧ q ∈ F i ∧
      ∀ (v : V) (d : D) (m : Nat), rd K (av B F) H d v → Stp F H F (upd H q (.lst (us.set m v))) ∧ Ok K B F (upd H q (.lst (us.set m v))) σ (env.set i (some (.ow (ws.set n (.ol (ds.set m d)))))) := by
  obtain ⟨v0, e0, r0⟩ := k.own hw
  rw [rw'] at r0
  obtain ⟨l, vs, fq, rfl, hf, hl, r⟩ := r0
  obtain ⟨v1, f1, f2, f3, e1, hfq, r1, q⟩ := rwL_at r hn
  rw [rw'] at r1
  obtain ⟨q', us, rfl, rfl, hq, r1⟩ := r1
  have hm : q' ∈ F i := by
    rw [hf, hfq]
    exact List.mem_cons_of_mem _ (List.mem_append_right _ (List.mem_append_left _ List.mem_cons_self))
  have nd := k.nd i
  rw [hf, hfq] at nd
  obtain ⟨nd1, nd2⟩ := List.nodup_cons.mp nd
  obtain ⟨_, nd3, nd4⟩ := List.nodup_append.mp nd2
  obtain ⟨nd5, _⟩ := List.nodup_cons.mp nd3
  have nql : l ≠ q' := fun z => nd1 (by rw [z]; exact List.mem_append_right _ (List.mem_append_left _ List.mem_cons_self))
  refine ⟨l, vs, q', us, e0, hl, ?_, hq, r1, hm, fun v d m rv => ?_⟩
  · unfold atI
    rw [← rwL_len r, hj]
    exact e1
  · refine k.chg (getW_lt hw) hm e0 fun st => ?_
    rw [rw', hf]
    refine ⟨l, vs, fq, rfl, rfl, by rw [upd_ne nql]; exact hl, q _ _ _ st (fun a ha => upd_ne fun z => ?_) (fun a ha => upd_ne fun z => ?_) ?_⟩
    · exact nd4 a ha q' List.mem_cons_self z
    · exact nd5 (by rw [← z]; exact ha)
    · rw [rw']
      exact ⟨q', _, rfl, rfl, upd_same, rdL_stay st _ _ (rdL_set r1 rv m)⟩
theorem x_ix2 (i : Nat) {r : E} {k : Int} {ka kb : Expr} (hk : SE X W ka (evE C r)) (hkb : PE X kb fun σ H Q => Q (.int k) H) (hs : PlainIx ka := by exact fun _ _ => rfl) (hs2 : PlainIx kb := by exact fun _ _ => rfl) (hN : X.N[i]? = some x := by rfl) (hv : Vis X.env.scope x := by first | exact .inl rfl | exact .inr (.inl rfl) | exact .inr (.inr rfl)) (hd : (x == ("__debug__" : Str)) = false := by decide) (hcd : (x == ("__classdict__" : Str)) = false := by decide) :
    SE X W (.Subscript (.Subscript (.Name x p) ka p1) kb p2) (evE C (.ix2 i r k)) := (pe_ix ix_list (pe_ix ix_list (pe_var hN hv hd hcd) hk hs) hkb hs2).imp fun σ H Q h => by
  obtain ⟨B, F, env, k0, h⟩ := h
  rw [evE] at h
  split at h
  · rename_i w0 hw0
    obtain ⟨u0, e0, r0⟩ := k0.own hw0
    refine ⟨u0, e0, B, F, env, k0, pst_imp (pst_bind h) fun y e1 F1 H1 _ _ z u hu => ?_⟩
    obtain ⟨_, k1, z⟩ := z
    obtain ⟨d, e, zz⟩ := pst_lift z
    cases q : getW e1 i with
    | none => rw [q] at e; cases e
    | some w =>
      rw [q] at e
      obtain ⟨ws, j, n, ds, m, rfl, rfl, hj, hn, hm, hd⟩ := ix2_some e
      obtain ⟨l, vs, q', us, e2, hl, ha, hq, rr, _⟩ := ow_at k1 q hj hn
      rw [e0] at e2
      cases e2
      rw [rd] at hu
      subst hu
      obtain ⟨v, e3, r3⟩ := rdL_get rr hd
      refine ⟨l, vs, j, .ref q', rfl, rfl, SqL.of hl, ha, q', us, k, v, rfl, rfl, SqL.of hq, ?_, pst_here zz k1 v r3⟩
      unfold atI
      rw [← rdL_len rr, hm]
      exact e3
  · exact h.elim
theorem x_set2 (i : Nat) {r ix : E} {k : Int} {ka kb : Expr} (he : SE X W e (evE C r)) (hk : SE X W ka (evE C ix)) (hkb : PE X kb fun σ H Q => Q (.int k) H) (hs0 : PlainIx ka := by exact fun _ _ => rfl) (hN : X.N[i]? = some x := by rfl) (hv : Vis X.env.scope x := by first | exact .inl rfl | exact .inr (.inl rfl) | exact .inr (.inr rfl)) (hd : (x == ("__debug__" : Str)) = false := by decide) (hcd : (x == ("__classdict__" : Str)) = false := by decide)
    (ha : ∀ v, assign (.Subscript (.Subscript (.Name x p) ka p1) kb p2) X.env v = (do
      let ov ← holding [v] (eval (.Subscript (.Name x p) ka p1) X.env)
      let iv ← holding [v, ov] (eval kb X.env)
      standAt p2
      holding [v, ov, iv] (setItem ov iv v)
      release [v, ov, iv] []) := by intro _; rfl)
    (hs : swapsWithSole [.Subscript (.Subscript (.Name x p) ka p1) kb p2] e pos.line X.env = pure false := by rfl) (hw : swappedStores [.Subscript (.Subscript (.Name x p) ka p1) kb p2] e X.env = pure none := by rfl) (h1 : (assignEach [.Subscript (.Subscript (.Name x p) ka p1) kb p2] X.env).map (·.2) = [assign (.Subscript (.Subscript (.Name x p) ka p1) kb p2) X.env] := by rfl) :
    SS X W pn (.Assign [.Subscript (.Subscript (.Name x p) ka p1) kb p2] e pos) (evS C pn (.set2 i ix k r)) := (ps_asg he (pg_sub (pe_ix ix_list (pe_var hN hv hd hcd) hk hs0) hkb set_list ha) hs hw h1).imp fun Y σ H h => by
  obtain ⟨B, F, env, k0, h⟩ := h
  rw [evS] at h
  refine ⟨B, F, env, k0, pst_imp (sst_bindE h) fun d e1 F1 H1 _ _ z v hv => ?_⟩
  obtain ⟨_, k1, z⟩ := z
  split at z
  · rename_i w0 hw0
    obtain ⟨u0, e0, r0⟩ := k1.own hw0
    refine ⟨u0, e0, B, F1, e1, k1, pst_imp (sst_bindE z) fun y e2 F2 H2 s2 _ z u hu => ?_⟩
    obtain ⟨_, k2, z⟩ := z
    obtain ⟨w2, e, zz⟩ := sst_lift z
    cases q : getW e2 i with
    | none => rw [q] at e; cases e
    | some w =>
      rw [q] at e
      obtain ⟨ws, j, n, ds, m, rfl, rfl, hj, hn, hm, rfl⟩ := set2_some e
      obtain ⟨l, vs, q', us, e3, hl, ha', hq, rr, _, up⟩ := ow_at k2 q hj hn
      rw [e0] at e3
      cases e3
      rw [rd] at hu
      subst hu
      obtain ⟨s, k3⟩ := up v d m (s2.rd hv)
      refine ⟨l, vs, j, .ref q', rfl, rfl, SqL.of hl, ha', q', us, k, m, rfl, rfl, hq, by rw [← rdL_len rr]; exact hm, ?_⟩
      exact zz σ F2 _ s k3 .refl
  · exact z.elim
theorem x_app2 (i : Nat) {r : E} {name : Str} (he : SWv X W e (evW C r)) (hnm : name = "append") (hN : X.N[i]? = some x := by rfl) (hv : Vis X.env.scope x := by first | exact .inl rfl | exact .inr (.inl rfl) | exact .inr (.inr rfl)) (hd : (x == ("__debug__" : Str)) = false := by decide) (hcd : (x == ("__classdict__" : Str)) = false := by decide)
    (hbase : attributeBase (.Name x p) "append" X.env (eval (.Name x p) X.env) = eval (.Name x p) X.env := by rfl)
    (hfew : ((backTo p1 (starEach [e] X.env)).all (fun x => !x.1) && (backToKw p1 (keywordEach [] X.env)).all (fun x => x.1.isSome)
      && decide (([e] : List Expr).length + ([] : List Keyword).length + (if ([] : List Keyword).isEmpty then 0 else 1) < 30)) = true := by rfl)
    (hline : (apos.endLine == p1.line) = true := by rfl) (hs : starEach [e] X.env = (false, eval e X.env) :: starEach [] X.env := by rfl) (hplain : (backTo p1 (starEach [] X.env)).any (·.1) = false := by rfl)
    (hsw : swapsWith (.Call (.Attribute (.Name x p) "append" apos) [e] [] p1) none pos.line X.env = pure false := by rfl) :
    SS X W pn (.Expr (.Call (.Attribute (.Name x p) name apos) [e] [] p1) pos) (evS C pn (.app2 i r)) := by
  subst hnm
  refine (ps_expr (pe_bm PySem.F.plainAttrs_list PySem.F.slot_list_append PySem.F.type_list_append mt_append (pe_var hN hv hd hcd) (pa_cons he pa_nil hs) hbase hfew hline hs hplain) hsw).imp fun Y σ H h => ?_
  obtain ⟨B, F, env, k, h⟩ := h
  rw [evS] at h
  split at h
  · rename_i ws0 hz
    cases q : getW env i with
    | none => rw [q] at hz; cases hz
    | some w0 =>
      rw [q] at hz
      obtain ⟨v0, e0, r0⟩ := k.own q
      obtain ⟨l, vs, fq, rfl, hf, hl, r⟩ := owL_rw hz r0
      refine ⟨.ref l, e0, .inl ⟨rfl, vs, SqL.of hl⟩, B, F, env, k, sst_bindW h fun w e1 F1 H1 v Fr g z => ?_⟩
      obtain ⟨w2, e, zz⟩ := sst_lift z
      cases q1 : getW e1 i with
      | none => rw [q1] at e; cases e
      | some w1 =>
        rw [q1] at e
        obtain ⟨l', vs', e2, hl', hz', s, k2⟩ := g.app k q1 e
        rw [e0] at e2
        cases e2
        exact ⟨l, vs', v, rfl, rfl, hl', hz', zz σ _ _ s k2 .refl⟩
  · exact h.elim
end
end Ev

set_option Elab.async false
set_option linter.all false
set_option maxRecDepth 100000
set_option maxHeartbeats 4000000
namespace K26
open PySem PySem.Spec PyProof.Rows L2 He Gw
def topS (i : Nat) : Stmt := PySem.Challenge.pw_guessedworlds_k26_whole_inputs_as_rows.main.body.getD i (.Pass ⟨0, 0, 0, 0⟩)
abbrev s__wall : Stmt := topS 0
abbrev s_WorldError_init : Stmt := inClass (topS 2) 0
abbrev s_BadRow_init : Stmt := inClass (topS 7) 0
abbrev s_is_plain_integer : Stmt := topS 9
abbrev s_is_between : Stmt := topS 10
abbrev s_is_input : Stmt := topS 14
abbrev s_is_tick : Stmt := topS 15
abbrev s_are_told : Stmt := topS 16
abbrev s_is_row : Stmt := topS 23
abbrev s_whole : Stmt := topS 24
abbrev s_whole_at : Stmt := topS 25
abbrev s_check_place : Stmt := topS 26
abbrev s_Reader_init : Stmt := inClass (topS 28) 0
abbrev s_Reader_byte : Stmt := inClass (topS 28) 1
abbrev s_Reader_whole : Stmt := inClass (topS 28) 2
abbrev s_Reader_signed : Stmt := inClass (topS 28) 3
abbrev s_Reader_wholes : Stmt := inClass (topS 28) 4
abbrev s_Reader_signeds : Stmt := inClass (topS 28) 5
abbrev s_Reader_stretch : Stmt := inClass (topS 28) 6
abbrev s_Reader_close : Stmt := inClass (topS 28) 7
abbrev s_runs_of : Stmt := topS 30
abbrev s_input_row : Stmt := topS 31
abbrev s_inputs_read : Stmt := topS 32
abbrev s_read_inputs : Stmt := topS 33
abbrev s_guess : Stmt := topS 37
abbrev s_l_hand : Stmt := topS 39
abbrev s_l_draw : Stmt := topS 40
abbrev s_l_is : Stmt := topS 41
abbrev s_l_whole : Stmt := topS 42
abbrev s_l_read : Stmt := topS 43
abbrev s_l_byte : Stmt := topS 44
abbrev s_l_bytes : Stmt := topS 45
abbrev s_l_spoilt : Stmt := topS 46
abbrev s_l_runs : Stmt := topS 47
abbrev s_l_ticks : Stmt := topS 48
abbrev s_l_run_bytes : Stmt := topS 49
abbrev s_l_input_bytes : Stmt := topS 50
abbrev s_l_parsed : Stmt := topS 51
abbrev s_l_read_told : Stmt := topS 52
abbrev s_l_is_told : Stmt := topS 53
abbrev s_l_wrong_runs : Stmt := topS 54
abbrev s_l_is_guess : Stmt := topS 55
abbrev s_law : Stmt := topS 56
theorem sc__wall : FnScope ["k"] ["k"] (defScope s__wall) := ⟨rfl, rfl, rfl, by decide +kernel, rfl, by decide +kernel, by decide +kernel⟩
theorem sc_WorldError_init : FnScope ["self"] ["self"] (defScope s_WorldError_init) := ⟨rfl, rfl, rfl, by decide +kernel, rfl, by decide +kernel, by decide +kernel⟩
theorem sc_BadRow_init : FnScope ["self", "place"] ["self", "place"] (defScope s_BadRow_init) := ⟨rfl, rfl, rfl, by decide +kernel, rfl, by decide +kernel, by decide +kernel⟩
theorem sc_is_plain_integer : FnScope ["thing"] ["thing"] (defScope s_is_plain_integer) := ⟨rfl, rfl, rfl, by decide +kernel, rfl, by decide +kernel, by decide +kernel⟩
theorem sc_is_between : FnScope ["least", "most", "thing"] ["least", "most", "thing"] (defScope s_is_between) := ⟨rfl, rfl, rfl, by decide +kernel, rfl, by decide +kernel, by decide +kernel⟩
theorem sc_is_input : FnScope ["thing"] ["thing"] (defScope s_is_input) := ⟨rfl, rfl, rfl, by decide +kernel, rfl, by decide +kernel, by decide +kernel⟩
theorem sc_is_tick : FnScope ["thing"] ["thing"] (defScope s_is_tick) := ⟨rfl, rfl, rfl, by decide +kernel, rfl, by decide +kernel, by decide +kernel⟩
theorem sc_are_told : FnScope ["thing", "one"] ["thing"] (defScope s_are_told) := ⟨rfl, rfl, rfl, by decide +kernel, rfl, by decide +kernel, by decide +kernel⟩
theorem sc_is_row : FnScope ["thing", "byte"] ["thing"] (defScope s_is_row) := ⟨rfl, rfl, rfl, by decide +kernel, rfl, by decide +kernel, by decide +kernel⟩
theorem sc_whole : FnScope ["number", "figures", "left"] ["number"] (defScope s_whole) := ⟨rfl, rfl, rfl, by decide +kernel, rfl, by decide +kernel, by decide +kernel⟩
theorem sc_whole_at : FnScope ["row", "at", "number", "worth", "place", "byte"] ["row", "at"] (defScope s_whole_at) := ⟨rfl, rfl, rfl, by decide +kernel, rfl, by decide +kernel, by decide +kernel⟩
theorem sc_check_place : FnScope ["row", "at"] ["row", "at"] (defScope s_check_place) := ⟨rfl, rfl, rfl, by decide +kernel, rfl, by decide +kernel, by decide +kernel⟩
theorem sc_Reader_init : FnScope ["self", "row", "at"] ["self", "row", "at"] (defScope s_Reader_init) := ⟨rfl, rfl, rfl, by decide +kernel, rfl, by decide +kernel, by decide +kernel⟩
theorem sc_Reader_byte : FnScope ["self"] ["self"] (defScope s_Reader_byte) := ⟨rfl, rfl, rfl, by decide +kernel, rfl, by decide +kernel, by decide +kernel⟩
theorem sc_Reader_whole : FnScope ["self", "number"] ["self"] (defScope s_Reader_whole) := ⟨rfl, rfl, rfl, by decide +kernel, rfl, by decide +kernel, by decide +kernel⟩
theorem sc_Reader_signed : FnScope ["self"] ["self"] (defScope s_Reader_signed) := ⟨rfl, rfl, rfl, by decide +kernel, rfl, by decide +kernel, by decide +kernel⟩
theorem sc_Reader_wholes : FnScope ["self", "many"] ["self", "many"] (defScope s_Reader_wholes) := ⟨rfl, rfl, rfl, by decide +kernel, rfl, by decide +kernel, by decide +kernel⟩
theorem sc_Reader_signeds : FnScope ["self", "many"] ["self", "many"] (defScope s_Reader_signeds) := ⟨rfl, rfl, rfl, by decide +kernel, rfl, by decide +kernel, by decide +kernel⟩
theorem sc_Reader_stretch : FnScope ["self", "many"] ["self", "many"] (defScope s_Reader_stretch) := ⟨rfl, rfl, rfl, by decide +kernel, rfl, by decide +kernel, by decide +kernel⟩
theorem sc_Reader_close : FnScope ["self"] ["self"] (defScope s_Reader_close) := ⟨rfl, rfl, rfl, by decide +kernel, rfl, by decide +kernel, by decide +kernel⟩
theorem sc_runs_of : FnScope ["inputs", "runs", "one"] ["inputs"] (defScope s_runs_of) := ⟨rfl, rfl, rfl, by decide +kernel, rfl, by decide +kernel, by decide +kernel⟩
theorem sc_input_row : FnScope ["inputs", "runs", "row", "one", "many"] ["inputs"] (defScope s_input_row) := ⟨rfl, rfl, rfl, by decide +kernel, rfl, by decide +kernel, by decide +kernel⟩
theorem sc_inputs_read : FnScope ["reader", "inputs", "last", "_", "place", "one", "many"] ["reader"] (defScope s_inputs_read) := ⟨rfl, rfl, rfl, by decide +kernel, rfl, by decide +kernel, by decide +kernel⟩
theorem sc_read_inputs : FnScope ["row", "at", "reader", "inputs"] ["row", "at"] (defScope s_read_inputs) := ⟨rfl, rfl, rfl, by decide +kernel, rfl, by decide +kernel, by decide +kernel⟩
theorem sc_guess : FnScope ["last", "ago", "hold"] ["last", "ago", "hold"] (defScope s_guess) := ⟨rfl, rfl, rfl, by decide +kernel, rfl, by decide +kernel, by decide +kernel⟩
theorem sc_l_hand : FnScope ["_law_script", "_law_cell"] ["_law_script"] (defScope s_l_hand) := ⟨rfl, rfl, rfl, by decide +kernel, rfl, by decide +kernel, by decide +kernel⟩
theorem sc_l_draw : FnScope ["_law_hand_here", "_law_many", "_law_cell", "_law_digit", "_law_number"] ["_law_hand_here", "_law_many"] (defScope s_l_draw) := ⟨rfl, rfl, rfl, by decide +kernel, rfl, by decide +kernel, by decide +kernel⟩
theorem sc_l_is : FnScope ["_law_told", "_law_due", "_law_one", "_law_two"] ["_law_told", "_law_due"] (defScope s_l_is) := ⟨rfl, rfl, rfl, by decide +kernel, rfl, by decide +kernel, by decide +kernel⟩
theorem sc_l_whole : FnScope ["_law_number", "_law_found", "_law_turn"] ["_law_number"] (defScope s_l_whole) := ⟨rfl, rfl, rfl, by decide +kernel, rfl, by decide +kernel, by decide +kernel⟩
theorem sc_l_read : FnScope ["_law_row", "_law_at", "_law_turn", "_law_number", "_law_place"] ["_law_row", "_law_at"] (defScope s_l_read) := ⟨rfl, rfl, rfl, by decide +kernel, rfl, by decide +kernel, by decide +kernel⟩
theorem sc_l_byte : FnScope ["_law_hand_here"] ["_law_hand_here"] (defScope s_l_byte) := ⟨rfl, rfl, rfl, by decide +kernel, rfl, by decide +kernel, by decide +kernel⟩
theorem sc_l_bytes : FnScope ["_law_hand_here", "_law_most", "_law_turn"] ["_law_hand_here", "_law_most"] (defScope s_l_bytes) := ⟨rfl, rfl, rfl, by decide +kernel, rfl, by decide +kernel, by decide +kernel⟩
theorem sc_l_spoilt : FnScope ["_law_hand_here", "_law_row", "_law_kind", "_law_at"] ["_law_hand_here", "_law_row"] (defScope s_l_spoilt) := ⟨rfl, rfl, rfl, by decide +kernel, rfl, by decide +kernel, by decide +kernel⟩
theorem sc_l_runs : FnScope ["_law_hand_here", "_law_great", "_law_found", "_law_turn", "_law_many"] ["_law_hand_here"] (defScope s_l_runs) := ⟨rfl, rfl, rfl, by decide +kernel, rfl, by decide +kernel, by decide +kernel⟩
theorem sc_l_ticks : FnScope ["_law_runs_here", "_law_found", "_law_item", "_law_many"] ["_law_runs_here"] (defScope s_l_ticks) := ⟨rfl, rfl, rfl, by decide +kernel, rfl, by decide +kernel, by decide +kernel⟩
theorem sc_l_run_bytes : FnScope ["_law_runs_here", "_law_found", "_law_item", "_law_many"] ["_law_runs_here"] (defScope s_l_run_bytes) := ⟨rfl, rfl, rfl, by decide +kernel, rfl, by decide +kernel, by decide +kernel⟩
theorem sc_l_input_bytes : FnScope ["_law_inputs", "_law_runs_here", "_law_begin", "_law_at"] ["_law_inputs"] (defScope s_l_input_bytes) := ⟨rfl, rfl, rfl, by decide +kernel, rfl, by decide +kernel, by decide +kernel⟩
theorem sc_l_parsed : FnScope ["_law_row", "_law_at", "_law_head", "_law_here", "_law_found", "_law_turn", "_law_part"] ["_law_row", "_law_at"] (defScope s_l_parsed) := ⟨rfl, rfl, rfl, by decide +kernel, rfl, by decide +kernel, by decide +kernel⟩
theorem sc_l_read_told : FnScope ["_law_row", "_law_at", "error"] ["_law_row", "_law_at"] (defScope s_l_read_told) := ⟨rfl, rfl, rfl, by decide +kernel, rfl, by decide +kernel, by decide +kernel⟩
theorem sc_l_is_told : FnScope ["_law_row", "_law_at", "_law_inputs", "_law_behind", "_law_place", "_law_told"] ["_law_row", "_law_at"] (defScope s_l_is_told) := ⟨rfl, rfl, rfl, by decide +kernel, rfl, by decide +kernel, by decide +kernel⟩
theorem sc_l_wrong_runs : FnScope ["_law_hand_here", "_law_runs_here", "_law_at", "_law_kind"] ["_law_hand_here", "_law_runs_here"] (defScope s_l_wrong_runs) := ⟨rfl, rfl, rfl, by decide +kernel, rfl, by decide +kernel, by decide +kernel⟩
theorem sc_l_is_guess : FnScope ["_law_hand_here", "_law_last", "_law_hold", "_law_ago", "_law_due"] ["_law_hand_here"] (defScope s_l_is_guess) := ⟨rfl, rfl, rfl, by decide +kernel, rfl, by decide +kernel, by decide +kernel⟩
theorem sc_law : FnScope ["_law_script", "_law_hand_here", "_law_many", "_law_runs_here", "_law_inputs", "_law_row", "_law_due", "_law_ahead", "_law_behind", "_law_turn", "_law_few", "_law_some", "_law_at", "_law_item", "_law_ticks_here"] ["_law_script"] (defScope s_law) := ⟨rfl, rfl, rfl, by decide +kernel, rfl, by decide +kernel, by decide +kernel⟩
def d_s__wall : DefD := ⟨("_wall", none), "_wall", "_wall", defArgs s__wall, defBody s__wall, defScope s__wall, [], []⟩
def d_s_WorldError_init : DefD := ⟨("WorldError", some "__init__"), "__init__", "WorldError.__init__", defArgs s_WorldError_init, defBody s_WorldError_init, defScope s_WorldError_init, [], []⟩
def d_s_BadRow_init : DefD := ⟨("BadRow", some "__init__"), "__init__", "BadRow.__init__", defArgs s_BadRow_init, defBody s_BadRow_init, defScope s_BadRow_init, [], []⟩
def d_s_is_plain_integer : DefD := ⟨("is_plain_integer", none), "is_plain_integer", "is_plain_integer", defArgs s_is_plain_integer, defBody s_is_plain_integer, defScope s_is_plain_integer, [], []⟩
def d_s_is_between : DefD := ⟨("is_between", none), "is_between", "is_between", defArgs s_is_between, defBody s_is_between, defScope s_is_between, [], []⟩
def d_s_is_input : DefD := ⟨("is_input", none), "is_input", "is_input", defArgs s_is_input, defBody s_is_input, defScope s_is_input, [], []⟩
def d_s_is_tick : DefD := ⟨("is_tick", none), "is_tick", "is_tick", defArgs s_is_tick, defBody s_is_tick, defScope s_is_tick, [], []⟩
def d_s_are_told : DefD := ⟨("are_told", none), "are_told", "are_told", defArgs s_are_told, defBody s_are_told, defScope s_are_told, [], []⟩
def d_s_is_row : DefD := ⟨("is_row", none), "is_row", "is_row", defArgs s_is_row, defBody s_is_row, defScope s_is_row, [], []⟩
def d_s_whole : DefD := ⟨("whole", none), "whole", "whole", defArgs s_whole, defBody s_whole, defScope s_whole, [], []⟩
def d_s_whole_at : DefD := ⟨("whole_at", none), "whole_at", "whole_at", defArgs s_whole_at, defBody s_whole_at, defScope s_whole_at, [], []⟩
def d_s_check_place : DefD := ⟨("check_place", none), "check_place", "check_place", defArgs s_check_place, defBody s_check_place, defScope s_check_place, [], []⟩
def d_s_Reader_init : DefD := ⟨("Reader", some "__init__"), "__init__", "Reader.__init__", defArgs s_Reader_init, defBody s_Reader_init, defScope s_Reader_init, [], []⟩
def d_s_Reader_byte : DefD := ⟨("Reader", some "byte"), "byte", "Reader.byte", defArgs s_Reader_byte, defBody s_Reader_byte, defScope s_Reader_byte, [], []⟩
def d_s_Reader_whole : DefD := ⟨("Reader", some "whole"), "whole", "Reader.whole", defArgs s_Reader_whole, defBody s_Reader_whole, defScope s_Reader_whole, [], []⟩
def d_s_Reader_signed : DefD := ⟨("Reader", some "signed"), "signed", "Reader.signed", defArgs s_Reader_signed, defBody s_Reader_signed, defScope s_Reader_signed, [], []⟩
def d_s_Reader_wholes : DefD := ⟨("Reader", some "wholes"), "wholes", "Reader.wholes", defArgs s_Reader_wholes, defBody s_Reader_wholes, defScope s_Reader_wholes, [], []⟩
def d_s_Reader_signeds : DefD := ⟨("Reader", some "signeds"), "signeds", "Reader.signeds", defArgs s_Reader_signeds, defBody s_Reader_signeds, defScope s_Reader_signeds, [], []⟩
def d_s_Reader_stretch : DefD := ⟨("Reader", some "stretch"), "stretch", "Reader.stretch", defArgs s_Reader_stretch, defBody s_Reader_stretch, defScope s_Reader_stretch, [], []⟩
def d_s_Reader_close : DefD := ⟨("Reader", some "close"), "close", "Reader.close", defArgs s_Reader_close, defBody s_Reader_close, defScope s_Reader_close, [], []⟩
def d_s_runs_of : DefD := ⟨("runs_of", none), "runs_of", "runs_of", defArgs s_runs_of, defBody s_runs_of, defScope s_runs_of, [], []⟩
def d_s_input_row : DefD := ⟨("input_row", none), "input_row", "input_row", defArgs s_input_row, defBody s_input_row, defScope s_input_row, [], []⟩
def d_s_inputs_read : DefD := ⟨("inputs_read", none), "inputs_read", "inputs_read", defArgs s_inputs_read, defBody s_inputs_read, defScope s_inputs_read, [], []⟩
def d_s_read_inputs : DefD := ⟨("read_inputs", none), "read_inputs", "read_inputs", defArgs s_read_inputs, defBody s_read_inputs, defScope s_read_inputs, [], []⟩
def d_s_guess : DefD := ⟨("guess", none), "guess", "guess", defArgs s_guess, defBody s_guess, defScope s_guess, [], []⟩
def d_s_l_hand : DefD := ⟨("_law_hand", none), "_law_hand", "_law_hand", defArgs s_l_hand, defBody s_l_hand, defScope s_l_hand, [], []⟩
def d_s_l_draw : DefD := ⟨("_law_draw", none), "_law_draw", "_law_draw", defArgs s_l_draw, defBody s_l_draw, defScope s_l_draw, [], []⟩
def d_s_l_is : DefD := ⟨("_law_is", none), "_law_is", "_law_is", defArgs s_l_is, defBody s_l_is, defScope s_l_is, [], []⟩
def d_s_l_whole : DefD := ⟨("_law_whole", none), "_law_whole", "_law_whole", defArgs s_l_whole, defBody s_l_whole, defScope s_l_whole, [], []⟩
def d_s_l_read : DefD := ⟨("_law_read", none), "_law_read", "_law_read", defArgs s_l_read, defBody s_l_read, defScope s_l_read, [], []⟩
def d_s_l_byte : DefD := ⟨("_law_byte", none), "_law_byte", "_law_byte", defArgs s_l_byte, defBody s_l_byte, defScope s_l_byte, [], []⟩
def d_s_l_bytes : DefD := ⟨("_law_bytes", none), "_law_bytes", "_law_bytes", defArgs s_l_bytes, defBody s_l_bytes, defScope s_l_bytes, [], []⟩
def d_s_l_spoilt : DefD := ⟨("_law_spoilt", none), "_law_spoilt", "_law_spoilt", defArgs s_l_spoilt, defBody s_l_spoilt, defScope s_l_spoilt, [], []⟩
def d_s_l_runs : DefD := ⟨("_law_runs", none), "_law_runs", "_law_runs", defArgs s_l_runs, defBody s_l_runs, defScope s_l_runs, [], []⟩
def d_s_l_ticks : DefD := ⟨("_law_ticks", none), "_law_ticks", "_law_ticks", defArgs s_l_ticks, defBody s_l_ticks, defScope s_l_ticks, [], []⟩
def d_s_l_run_bytes : DefD := ⟨("_law_run_bytes", none), "_law_run_bytes", "_law_run_bytes", defArgs s_l_run_bytes, defBody s_l_run_bytes, defScope s_l_run_bytes, [], []⟩
def d_s_l_input_bytes : DefD := ⟨("_law_input_bytes", none), "_law_input_bytes", "_law_input_bytes", defArgs s_l_input_bytes, defBody s_l_input_bytes, defScope s_l_input_bytes, [], []⟩
def d_s_l_parsed : DefD := ⟨("_law_parsed", none), "_law_parsed", "_law_parsed", defArgs s_l_parsed, defBody s_l_parsed, defScope s_l_parsed, [], []⟩
def d_s_l_read_told : DefD := ⟨("_law_read_told", none), "_law_read_told", "_law_read_told", defArgs s_l_read_told, defBody s_l_read_told, defScope s_l_read_told, [], []⟩
def d_s_l_is_told : DefD := ⟨("_law_is_told", none), "_law_is_told", "_law_is_told", defArgs s_l_is_told, defBody s_l_is_told, defScope s_l_is_told, [], []⟩
def d_s_l_wrong_runs : DefD := ⟨("_law_wrong_runs", none), "_law_wrong_runs", "_law_wrong_runs", defArgs s_l_wrong_runs, defBody s_l_wrong_runs, defScope s_l_wrong_runs, [], []⟩
def d_s_l_is_guess : DefD := ⟨("_law_is_guess", none), "_law_is_guess", "_law_is_guess", defArgs s_l_is_guess, defBody s_l_is_guess, defScope s_l_is_guess, [], []⟩
def d_s_law : DefD := ⟨("law", none), "law", "law", defArgs s_law, defBody s_law, defScope s_law, [], []⟩
def fn0 : List DefD := [d_s__wall, d_s_WorldError_init, d_s_BadRow_init, d_s_is_plain_integer, d_s_is_between, d_s_is_input, d_s_is_tick, d_s_are_told, d_s_is_row, d_s_whole, d_s_whole_at, d_s_check_place, d_s_Reader_init, d_s_Reader_byte, d_s_Reader_whole, d_s_Reader_signed, d_s_Reader_wholes, d_s_Reader_signeds, d_s_Reader_stretch, d_s_Reader_close, d_s_runs_of, d_s_input_row, d_s_inputs_read, d_s_read_inputs, d_s_guess, d_s_l_hand, d_s_l_draw, d_s_l_is, d_s_l_whole, d_s_l_read, d_s_l_byte, d_s_l_bytes, d_s_l_spoilt, d_s_l_runs, d_s_l_ticks, d_s_l_run_bytes, d_s_l_input_bytes, d_s_l_parsed]
def fn1 : List DefD := [d_s_l_read_told, d_s_l_is_told, d_s_l_wrong_runs, d_s_l_is_guess, d_s_law]
def fn : List DefD := fn0 ++ fn1
def fx0 : List Fx := [freeX "ValueError", freeX "isinstance", freeX "int", freeX "bool", freeX "tuple", freeX "all", freeX "len", freeX "range", freeX "min", freeX "list", freeX "zip", freeX "max", intX "MOST_INPUT" (255), intX "MOST_TICKS" (100000), intX "MOST_BYTES" (300000), intX "MOST_BYTE" (255), intX "FIGURES" (128), intX "MOST_FIGURES" (10), intX "MOST_WHOLE" (18446744073709551615), intX "NO_INPUT" (0), intX "MOST_HOLD" (600), gloX "WorldError", fun K => oexB K (ga K "WorldError"), fun K => initB K (ga K "WorldError") (ma K (ga K "WorldError") "__init__"), gloX "NoNumber", fun K => oexB K (ga K "NoNumber"), fun K => initB K (ga K "NoNumber") (ma K (ga K "WorldError") "__init__"), gloX "NoInputs", fun K => oexB K (ga K "NoInputs"), fun K => initB K (ga K "NoInputs") (ma K (ga K "WorldError") "__init__"), gloX "NoRow", fun K => oexB K (ga K "NoRow"), fun K => initB K (ga K "NoRow") (ma K (ga K "WorldError") "__init__"), gloX "NoPlace", fun K => oexB K (ga K "NoPlace"), fun K => initB K (ga K "NoPlace") (ma K (ga K "WorldError") "__init__"), gloX "BadRow", fun K => oexB K (ga K "BadRow")]
def fx1 : List Fx := [fun K => initB K (ga K "BadRow") (ma K (ga K "BadRow") "__init__"), gloX "Reader", exmX "WorldError" "BadRow" false, exmX "WorldError" "WorldError" true, exmX "NoNumber" "BadRow" false, exmX "NoNumber" "WorldError" true, exmX "NoInputs" "BadRow" false, exmX "NoInputs" "WorldError" true, exmX "NoRow" "BadRow" false, exmX "NoRow" "WorldError" true, exmX "NoPlace" "BadRow" false, exmX "NoPlace" "WorldError" true, exmX "BadRow" "BadRow" true, exmX "BadRow" "WorldError" true, fun K => xfB K (ga K "BadRow"), fun K => noB K (ga K "BadRow") "place", fun K => clsU K (ga K "Reader") (ma K (ga K "Reader") "__init__"), fun K => insB K (ga K "Reader"), fun K => Ev.kitTB K (ga K "Reader"), fun K => (He.Fa.meth "Reader" "byte").ok K, fun K => (He.Fa.meth "Reader" "whole").ok K, fun K => (He.Fa.meth "Reader" "signed").ok K, fun K => (He.Fa.meth "Reader" "wholes").ok K, fun K => (He.Fa.meth "Reader" "signeds").ok K, fun K => (He.Fa.meth "Reader" "stretch").ok K, fun K => (He.Fa.meth "Reader" "close").ok K, fun K => noB K (ga K "Reader") "row", fun K => noB K (ga K "Reader") "at", gloX "_wall", gloX "is_plain_integer", gloX "is_between", gloX "is_input", gloX "is_tick", gloX "are_told", gloX "is_row", gloX "whole", gloX "whole_at", gloX "check_place"]
def fx2 : List Fx := [gloX "runs_of", gloX "input_row", gloX "inputs_read", gloX "read_inputs", gloX "guess", gloX "_law_hand", gloX "_law_draw", gloX "_law_is", gloX "_law_whole", gloX "_law_read", gloX "_law_byte", gloX "_law_bytes", gloX "_law_spoilt", gloX "_law_runs", gloX "_law_ticks", gloX "_law_run_bytes", gloX "_law_input_bytes", gloX "_law_parsed", gloX "_law_read_told", gloX "_law_is_told", gloX "_law_wrong_runs", gloX "_law_is_guess", gloX "law"]
def fx : List Fx := fx0 ++ fx1 ++ fx2
def lo0 : List Str := ["_wall", "WorldError", "NoNumber", "NoInputs", "NoRow", "NoPlace", "BadRow", "is_plain_integer", "is_between", "MOST_INPUT", "MOST_TICKS", "is_input"]
def lo1 : List Str := ["is_tick", "are_told", "MOST_BYTES", "MOST_BYTE", "FIGURES", "MOST_FIGURES", "MOST_WHOLE", "is_row", "whole", "whole_at", "check_place", "Reader"]
def lo2 : List Str := ["runs_of", "input_row", "inputs_read", "read_inputs", "NO_INPUT", "MOST_HOLD", "guess", "_law_hand", "_law_draw", "_law_is", "_law_whole", "_law_read"]
def lo3 : List Str := ["_law_byte", "_law_bytes", "_law_spoilt", "_law_runs", "_law_ticks", "_law_run_bytes", "_law_input_bytes", "_law_parsed", "_law_read_told", "_law_is_told", "_law_wrong_runs", "_law_is_guess"]
def loose : List Str := lo0 ++ lo1 ++ lo2 ++ lo3
abbrev R : PySem.W.OpenRow := PySem.W.OpenLaw.row PySem.Challenge.rw_guessedworlds_k26_whole_inputs_as_rows
abbrev hk : PySem.W.Hook := hookX 6 fx fn
def ob (s : PySem.W.SharedT) : AlX := obX 6 fx fn (HandSHeadRun.getT s)
theorem ob_eq (s : PySem.W.SharedT) : ob s = hk.obs s.abs := obX_eq (HandSHeadRun.getT_eq s)

structure Txt (K : PySem.W.Frag) (mg : Str → Option Value) : Prop where
  d__wall : Dk K mg "_wall" s__wall ["k"]
  d_WorldError_init : Dm K "WorldError" "__init__" s_WorldError_init ["self"]
  d_BadRow_init : Dm K "BadRow" "__init__" s_BadRow_init ["self", "place"]
  d_is_plain_integer : Dk K mg "is_plain_integer" s_is_plain_integer ["thing"]
  d_is_between : Dk K mg "is_between" s_is_between ["least", "most", "thing"]
  d_is_input : Dk K mg "is_input" s_is_input ["thing"]
  d_is_tick : Dk K mg "is_tick" s_is_tick ["thing"]
  d_are_told : Dk K mg "are_told" s_are_told ["thing"]
  d_is_row : Dk K mg "is_row" s_is_row ["thing"]
  d_whole : Dk K mg "whole" s_whole ["number"]
  d_whole_at : Dk K mg "whole_at" s_whole_at ["row", "at"]
  d_check_place : Dk K mg "check_place" s_check_place ["row", "at"]
  d_Reader_init : Dm K "Reader" "__init__" s_Reader_init ["self", "row", "at"]
  d_Reader_byte : Dm K "Reader" "byte" s_Reader_byte ["self"]
  d_Reader_whole : Dm K "Reader" "whole" s_Reader_whole ["self"]
  d_Reader_signed : Dm K "Reader" "signed" s_Reader_signed ["self"]
  d_Reader_wholes : Dm K "Reader" "wholes" s_Reader_wholes ["self", "many"]
  d_Reader_signeds : Dm K "Reader" "signeds" s_Reader_signeds ["self", "many"]
  d_Reader_stretch : Dm K "Reader" "stretch" s_Reader_stretch ["self", "many"]
  d_Reader_close : Dm K "Reader" "close" s_Reader_close ["self"]
  d_runs_of : Dk K mg "runs_of" s_runs_of ["inputs"]
  d_input_row : Dk K mg "input_row" s_input_row ["inputs"]
  d_inputs_read : Dk K mg "inputs_read" s_inputs_read ["reader"]
  d_read_inputs : Dk K mg "read_inputs" s_read_inputs ["row", "at"]
  d_guess : Dk K mg "guess" s_guess ["last", "ago", "hold"]
  d_l_hand : Dk K mg "_law_hand" s_l_hand ["_law_script"]
  d_l_draw : Dk K mg "_law_draw" s_l_draw ["_law_hand_here", "_law_many"]
  d_l_is : Dk K mg "_law_is" s_l_is ["_law_told", "_law_due"]
  d_l_whole : Dk K mg "_law_whole" s_l_whole ["_law_number"]
  d_l_read : Dk K mg "_law_read" s_l_read ["_law_row", "_law_at"]
  d_l_byte : Dk K mg "_law_byte" s_l_byte ["_law_hand_here"]
  d_l_bytes : Dk K mg "_law_bytes" s_l_bytes ["_law_hand_here", "_law_most"]
  d_l_spoilt : Dk K mg "_law_spoilt" s_l_spoilt ["_law_hand_here", "_law_row"]
  d_l_runs : Dk K mg "_law_runs" s_l_runs ["_law_hand_here"]
  d_l_ticks : Dk K mg "_law_ticks" s_l_ticks ["_law_runs_here"]
  d_l_run_bytes : Dk K mg "_law_run_bytes" s_l_run_bytes ["_law_runs_here"]
  d_l_input_bytes : Dk K mg "_law_input_bytes" s_l_input_bytes ["_law_inputs"]
  d_l_parsed : Dk K mg "_law_parsed" s_l_parsed ["_law_row", "_law_at"]
  d_l_read_told : Dk K mg "_law_read_told" s_l_read_told ["_law_row", "_law_at"]
  d_l_is_told : Dk K mg "_law_is_told" s_l_is_told ["_law_row", "_law_at"]
  d_l_wrong_runs : Dk K mg "_law_wrong_runs" s_l_wrong_runs ["_law_hand_here", "_law_runs_here"]
  d_l_is_guess : Dk K mg "_law_is_guess" s_l_is_guess ["_law_hand_here"]
  d_law : Dk K mg "law" s_law ["_law_script"]
  b_ValueError : mg "ValueError" = none
  b_isinstance : mg "isinstance" = none
  b_int : mg "int" = none
  b_bool : mg "bool" = none
  b_tuple : mg "tuple" = none
  b_all : mg "all" = none
  b_len : mg "len" = none
  b_range : mg "range" = none
  b_min : mg "min" = none
  b_list : mg "list" = none
  b_zip : mg "zip" = none
  b_max : mg "max" = none
  k_MOST_INPUT : ∃ t, mg "MOST_INPUT" = some (.int (255) t)
  k_MOST_TICKS : ∃ t, mg "MOST_TICKS" = some (.int (100000) t)
  k_MOST_BYTES : ∃ t, mg "MOST_BYTES" = some (.int (300000) t)
  k_MOST_BYTE : ∃ t, mg "MOST_BYTE" = some (.int (255) t)
  k_FIGURES : ∃ t, mg "FIGURES" = some (.int (128) t)
  k_MOST_FIGURES : ∃ t, mg "MOST_FIGURES" = some (.int (10) t)
  k_MOST_WHOLE : ∃ t, mg "MOST_WHOLE" = some (.int (18446744073709551615) t)
  k_NO_INPUT : ∃ t, mg "NO_INPUT" = some (.int (0) t)
  k_MOST_HOLD : ∃ t, mg "MOST_HOLD" = some (.int (600) t)
  g_WorldError : mg "WorldError" = some (.ref (ga K "WorldError"))
  x_WorldError : OexC K (ga K "WorldError")
  i_WorldError : PySem.W.findIn K (.ref (ga K "WorldError")) "__init__" = some (some (.ref (ma K (ga K "WorldError") "__init__"))) ∧ PySem.W.typeIn K (.ref (ma K (ga K "WorldError") "__init__")) = some (.type "function")
  g_NoNumber : mg "NoNumber" = some (.ref (ga K "NoNumber"))
  x_NoNumber : OexC K (ga K "NoNumber")
  i_NoNumber : PySem.W.findIn K (.ref (ga K "NoNumber")) "__init__" = some (some (.ref (ma K (ga K "WorldError") "__init__"))) ∧ PySem.W.typeIn K (.ref (ma K (ga K "WorldError") "__init__")) = some (.type "function")
  g_NoInputs : mg "NoInputs" = some (.ref (ga K "NoInputs"))
  x_NoInputs : OexC K (ga K "NoInputs")
  i_NoInputs : PySem.W.findIn K (.ref (ga K "NoInputs")) "__init__" = some (some (.ref (ma K (ga K "WorldError") "__init__"))) ∧ PySem.W.typeIn K (.ref (ma K (ga K "WorldError") "__init__")) = some (.type "function")
  g_NoRow : mg "NoRow" = some (.ref (ga K "NoRow"))
  x_NoRow : OexC K (ga K "NoRow")
  i_NoRow : PySem.W.findIn K (.ref (ga K "NoRow")) "__init__" = some (some (.ref (ma K (ga K "WorldError") "__init__"))) ∧ PySem.W.typeIn K (.ref (ma K (ga K "WorldError") "__init__")) = some (.type "function")
  g_NoPlace : mg "NoPlace" = some (.ref (ga K "NoPlace"))
  x_NoPlace : OexC K (ga K "NoPlace")
  i_NoPlace : PySem.W.findIn K (.ref (ga K "NoPlace")) "__init__" = some (some (.ref (ma K (ga K "WorldError") "__init__"))) ∧ PySem.W.typeIn K (.ref (ma K (ga K "WorldError") "__init__")) = some (.type "function")
  g_BadRow : mg "BadRow" = some (.ref (ga K "BadRow"))
  x_BadRow : OexC K (ga K "BadRow")
  i_BadRow : PySem.W.findIn K (.ref (ga K "BadRow")) "__init__" = some (some (.ref (ma K (ga K "BadRow") "__init__"))) ∧ PySem.W.typeIn K (.ref (ma K (ga K "BadRow") "__init__")) = some (.type "function")
  g_Reader : mg "Reader" = some (.ref (ga K "Reader"))
  m_WorldError_BadRow : PySem.W.exmOne K (.ref (ga K "WorldError")) (.ref (ga K "BadRow")) = some false
  m_WorldError_WorldError : PySem.W.exmOne K (.ref (ga K "WorldError")) (.ref (ga K "WorldError")) = some true
  m_NoNumber_BadRow : PySem.W.exmOne K (.ref (ga K "NoNumber")) (.ref (ga K "BadRow")) = some false
  m_NoNumber_WorldError : PySem.W.exmOne K (.ref (ga K "NoNumber")) (.ref (ga K "WorldError")) = some true
  m_NoInputs_BadRow : PySem.W.exmOne K (.ref (ga K "NoInputs")) (.ref (ga K "BadRow")) = some false
  m_NoInputs_WorldError : PySem.W.exmOne K (.ref (ga K "NoInputs")) (.ref (ga K "WorldError")) = some true
  m_NoRow_BadRow : PySem.W.exmOne K (.ref (ga K "NoRow")) (.ref (ga K "BadRow")) = some false
  m_NoRow_WorldError : PySem.W.exmOne K (.ref (ga K "NoRow")) (.ref (ga K "WorldError")) = some true
  m_NoPlace_BadRow : PySem.W.exmOne K (.ref (ga K "NoPlace")) (.ref (ga K "BadRow")) = some false
  m_NoPlace_WorldError : PySem.W.exmOne K (.ref (ga K "NoPlace")) (.ref (ga K "WorldError")) = some true
  m_BadRow_BadRow : PySem.W.exmOne K (.ref (ga K "BadRow")) (.ref (ga K "BadRow")) = some true
  m_BadRow_WorldError : PySem.W.exmOne K (.ref (ga K "BadRow")) (.ref (ga K "WorldError")) = some true
  f_BadRow : XfC K (ga K "BadRow")
  n_BadRow_place : NoAttr K (ga K "BadRow") "place"
  c_Reader : ClsU K (ga K "Reader") (ma K (ga K "Reader") "__init__")
  o_Reader : InsT K (ga K "Reader")
  y_Reader : ∀ t ∈ ["NoneType", "bool", "int", "str", "tuple", "list", "dict"], PySem.W.kitOne K (.type t) (.ref (ga K "Reader")) = some false
  h_Reader_byte : Meth K (ga K "Reader") "byte" (ma K (ga K "Reader") "byte")
  h_Reader_whole : Meth K (ga K "Reader") "whole" (ma K (ga K "Reader") "whole")
  h_Reader_signed : Meth K (ga K "Reader") "signed" (ma K (ga K "Reader") "signed")
  h_Reader_wholes : Meth K (ga K "Reader") "wholes" (ma K (ga K "Reader") "wholes")
  h_Reader_signeds : Meth K (ga K "Reader") "signeds" (ma K (ga K "Reader") "signeds")
  h_Reader_stretch : Meth K (ga K "Reader") "stretch" (ma K (ga K "Reader") "stretch")
  h_Reader_close : Meth K (ga K "Reader") "close" (ma K (ga K "Reader") "close")
  n_Reader_row : NoAttr K (ga K "Reader") "row"
  n_Reader_at : NoAttr K (ga K "Reader") "at"
  g__wall : mg "_wall" = some (.ref (ga K "_wall"))
  g_is_plain_integer : mg "is_plain_integer" = some (.ref (ga K "is_plain_integer"))
  g_is_between : mg "is_between" = some (.ref (ga K "is_between"))
  g_is_input : mg "is_input" = some (.ref (ga K "is_input"))
  g_is_tick : mg "is_tick" = some (.ref (ga K "is_tick"))
  g_are_told : mg "are_told" = some (.ref (ga K "are_told"))
  g_is_row : mg "is_row" = some (.ref (ga K "is_row"))
  g_whole : mg "whole" = some (.ref (ga K "whole"))
  g_whole_at : mg "whole_at" = some (.ref (ga K "whole_at"))
  g_check_place : mg "check_place" = some (.ref (ga K "check_place"))
  g_runs_of : mg "runs_of" = some (.ref (ga K "runs_of"))
  g_input_row : mg "input_row" = some (.ref (ga K "input_row"))
  g_inputs_read : mg "inputs_read" = some (.ref (ga K "inputs_read"))
  g_read_inputs : mg "read_inputs" = some (.ref (ga K "read_inputs"))
  g_guess : mg "guess" = some (.ref (ga K "guess"))
  g_l_hand : mg "_law_hand" = some (.ref (ga K "_law_hand"))
  g_l_draw : mg "_law_draw" = some (.ref (ga K "_law_draw"))
  g_l_is : mg "_law_is" = some (.ref (ga K "_law_is"))
  g_l_whole : mg "_law_whole" = some (.ref (ga K "_law_whole"))
  g_l_read : mg "_law_read" = some (.ref (ga K "_law_read"))
  g_l_byte : mg "_law_byte" = some (.ref (ga K "_law_byte"))
  g_l_bytes : mg "_law_bytes" = some (.ref (ga K "_law_bytes"))
  g_l_spoilt : mg "_law_spoilt" = some (.ref (ga K "_law_spoilt"))
  g_l_runs : mg "_law_runs" = some (.ref (ga K "_law_runs"))
  g_l_ticks : mg "_law_ticks" = some (.ref (ga K "_law_ticks"))
  g_l_run_bytes : mg "_law_run_bytes" = some (.ref (ga K "_law_run_bytes"))
  g_l_input_bytes : mg "_law_input_bytes" = some (.ref (ga K "_law_input_bytes"))
  g_l_parsed : mg "_law_parsed" = some (.ref (ga K "_law_parsed"))
  g_l_read_told : mg "_law_read_told" = some (.ref (ga K "_law_read_told"))
  g_l_is_told : mg "_law_is_told" = some (.ref (ga K "_law_is_told"))
  g_l_wrong_runs : mg "_law_wrong_runs" = some (.ref (ga K "_law_wrong_runs"))
  g_l_is_guess : mg "_law_is_guess" = some (.ref (ga K "_law_is_guess"))
  g_law : mg "law" = some (.ref (ga K "law"))
theorem txt {K : PySem.W.Frag} {h : Heap} {mg : Str → Option Value} (X : K.In h) (G : h.Ns mainGlobals mg) (c : SaysX fx fn K) : Txt K mg := {
  d__wall := dk_of (c.def_ 0 (d := d_s__wall) rfl) (He.glo_ok X G (c.fact 66 (f := gloX "_wall") rfl)) fun _ _ _ _ _ _ us hl => match us, hl with | [_], _ => rfl
  d_WorldError_init := dm_of (c.def_ 1 (d := d_s_WorldError_init) rfl) fun _ _ _ _ _ _ us hl => match us, hl with | [_], _ => rfl
  d_BadRow_init := dm_of (c.def_ 2 (d := d_s_BadRow_init) rfl) fun _ _ _ _ _ _ us hl => match us, hl with | [_, _], _ => rfl
  d_is_plain_integer := dk_of (c.def_ 3 (d := d_s_is_plain_integer) rfl) (He.glo_ok X G (c.fact 67 (f := gloX "is_plain_integer") rfl)) fun _ _ _ _ _ _ us hl => match us, hl with | [_], _ => rfl
  d_is_between := dk_of (c.def_ 4 (d := d_s_is_between) rfl) (He.glo_ok X G (c.fact 68 (f := gloX "is_between") rfl)) fun _ _ _ _ _ _ us hl => match us, hl with | [_, _, _], _ => rfl
  d_is_input := dk_of (c.def_ 5 (d := d_s_is_input) rfl) (He.glo_ok X G (c.fact 69 (f := gloX "is_input") rfl)) fun _ _ _ _ _ _ us hl => match us, hl with | [_], _ => rfl
  d_is_tick := dk_of (c.def_ 6 (d := d_s_is_tick) rfl) (He.glo_ok X G (c.fact 70 (f := gloX "is_tick") rfl)) fun _ _ _ _ _ _ us hl => match us, hl with | [_], _ => rfl
  d_are_told := dk_of (c.def_ 7 (d := d_s_are_told) rfl) (He.glo_ok X G (c.fact 71 (f := gloX "are_told") rfl)) fun _ _ _ _ _ _ us hl => match us, hl with | [_], _ => rfl
  d_is_row := dk_of (c.def_ 8 (d := d_s_is_row) rfl) (He.glo_ok X G (c.fact 72 (f := gloX "is_row") rfl)) fun _ _ _ _ _ _ us hl => match us, hl with | [_], _ => rfl
  d_whole := dk_of (c.def_ 9 (d := d_s_whole) rfl) (He.glo_ok X G (c.fact 73 (f := gloX "whole") rfl)) fun _ _ _ _ _ _ us hl => match us, hl with | [_], _ => rfl
  d_whole_at := dk_of (c.def_ 10 (d := d_s_whole_at) rfl) (He.glo_ok X G (c.fact 74 (f := gloX "whole_at") rfl)) fun _ _ _ _ _ _ us hl => match us, hl with | [_, _], _ => rfl
  d_check_place := dk_of (c.def_ 11 (d := d_s_check_place) rfl) (He.glo_ok X G (c.fact 75 (f := gloX "check_place") rfl)) fun _ _ _ _ _ _ us hl => match us, hl with | [_, _], _ => rfl
  d_Reader_init := dm_of (c.def_ 12 (d := d_s_Reader_init) rfl) fun _ _ _ _ _ _ us hl => match us, hl with | [_, _, _], _ => rfl
  d_Reader_byte := dm_of (c.def_ 13 (d := d_s_Reader_byte) rfl) fun _ _ _ _ _ _ us hl => match us, hl with | [_], _ => rfl
  d_Reader_whole := dm_of (c.def_ 14 (d := d_s_Reader_whole) rfl) fun _ _ _ _ _ _ us hl => match us, hl with | [_], _ => rfl
  d_Reader_signed := dm_of (c.def_ 15 (d := d_s_Reader_signed) rfl) fun _ _ _ _ _ _ us hl => match us, hl with | [_], _ => rfl
  d_Reader_wholes := dm_of (c.def_ 16 (d := d_s_Reader_wholes) rfl) fun _ _ _ _ _ _ us hl => match us, hl with | [_, _], _ => rfl
  d_Reader_signeds := dm_of (c.def_ 17 (d := d_s_Reader_signeds) rfl) fun _ _ _ _ _ _ us hl => match us, hl with | [_, _], _ => rfl
  d_Reader_stretch := dm_of (c.def_ 18 (d := d_s_Reader_stretch) rfl) fun _ _ _ _ _ _ us hl => match us, hl with | [_, _], _ => rfl
  d_Reader_close := dm_of (c.def_ 19 (d := d_s_Reader_close) rfl) fun _ _ _ _ _ _ us hl => match us, hl with | [_], _ => rfl
  d_runs_of := dk_of (c.def_ 20 (d := d_s_runs_of) rfl) (He.glo_ok X G (c.fact 76 (f := gloX "runs_of") rfl)) fun _ _ _ _ _ _ us hl => match us, hl with | [_], _ => rfl
  d_input_row := dk_of (c.def_ 21 (d := d_s_input_row) rfl) (He.glo_ok X G (c.fact 77 (f := gloX "input_row") rfl)) fun _ _ _ _ _ _ us hl => match us, hl with | [_], _ => rfl
  d_inputs_read := dk_of (c.def_ 22 (d := d_s_inputs_read) rfl) (He.glo_ok X G (c.fact 78 (f := gloX "inputs_read") rfl)) fun _ _ _ _ _ _ us hl => match us, hl with | [_], _ => rfl
  d_read_inputs := dk_of (c.def_ 23 (d := d_s_read_inputs) rfl) (He.glo_ok X G (c.fact 79 (f := gloX "read_inputs") rfl)) fun _ _ _ _ _ _ us hl => match us, hl with | [_, _], _ => rfl
  d_guess := dk_of (c.def_ 24 (d := d_s_guess) rfl) (He.glo_ok X G (c.fact 80 (f := gloX "guess") rfl)) fun _ _ _ _ _ _ us hl => match us, hl with | [_, _, _], _ => rfl
  d_l_hand := dk_of (c.def_ 25 (d := d_s_l_hand) rfl) (He.glo_ok X G (c.fact 81 (f := gloX "_law_hand") rfl)) fun _ _ _ _ _ _ us hl => match us, hl with | [_], _ => rfl
  d_l_draw := dk_of (c.def_ 26 (d := d_s_l_draw) rfl) (He.glo_ok X G (c.fact 82 (f := gloX "_law_draw") rfl)) fun _ _ _ _ _ _ us hl => match us, hl with | [_, _], _ => rfl
  d_l_is := dk_of (c.def_ 27 (d := d_s_l_is) rfl) (He.glo_ok X G (c.fact 83 (f := gloX "_law_is") rfl)) fun _ _ _ _ _ _ us hl => match us, hl with | [_, _], _ => rfl
  d_l_whole := dk_of (c.def_ 28 (d := d_s_l_whole) rfl) (He.glo_ok X G (c.fact 84 (f := gloX "_law_whole") rfl)) fun _ _ _ _ _ _ us hl => match us, hl with | [_], _ => rfl
  d_l_read := dk_of (c.def_ 29 (d := d_s_l_read) rfl) (He.glo_ok X G (c.fact 85 (f := gloX "_law_read") rfl)) fun _ _ _ _ _ _ us hl => match us, hl with | [_, _], _ => rfl
  d_l_byte := dk_of (c.def_ 30 (d := d_s_l_byte) rfl) (He.glo_ok X G (c.fact 86 (f := gloX "_law_byte") rfl)) fun _ _ _ _ _ _ us hl => match us, hl with | [_], _ => rfl
  d_l_bytes := dk_of (c.def_ 31 (d := d_s_l_bytes) rfl) (He.glo_ok X G (c.fact 87 (f := gloX "_law_bytes") rfl)) fun _ _ _ _ _ _ us hl => match us, hl with | [_, _], _ => rfl
  d_l_spoilt := dk_of (c.def_ 32 (d := d_s_l_spoilt) rfl) (He.glo_ok X G (c.fact 88 (f := gloX "_law_spoilt") rfl)) fun _ _ _ _ _ _ us hl => match us, hl with | [_, _], _ => rfl
  d_l_runs := dk_of (c.def_ 33 (d := d_s_l_runs) rfl) (He.glo_ok X G (c.fact 89 (f := gloX "_law_runs") rfl)) fun _ _ _ _ _ _ us hl => match us, hl with | [_], _ => rfl
  d_l_ticks := dk_of (c.def_ 34 (d := d_s_l_ticks) rfl) (He.glo_ok X G (c.fact 90 (f := gloX "_law_ticks") rfl)) fun _ _ _ _ _ _ us hl => match us, hl with | [_], _ => rfl
  d_l_run_bytes := dk_of (c.def_ 35 (d := d_s_l_run_bytes) rfl) (He.glo_ok X G (c.fact 91 (f := gloX "_law_run_bytes") rfl)) fun _ _ _ _ _ _ us hl => match us, hl with | [_], _ => rfl
  d_l_input_bytes := dk_of (c.def_ 36 (d := d_s_l_input_bytes) rfl) (He.glo_ok X G (c.fact 92 (f := gloX "_law_input_bytes") rfl)) fun _ _ _ _ _ _ us hl => match us, hl with | [_], _ => rfl
  d_l_parsed := dk_of (c.def_ 37 (d := d_s_l_parsed) rfl) (He.glo_ok X G (c.fact 93 (f := gloX "_law_parsed") rfl)) fun _ _ _ _ _ _ us hl => match us, hl with | [_, _], _ => rfl
  d_l_read_told := dk_of (c.def_ 38 (d := d_s_l_read_told) rfl) (He.glo_ok X G (c.fact 94 (f := gloX "_law_read_told") rfl)) fun _ _ _ _ _ _ us hl => match us, hl with | [_, _], _ => rfl
  d_l_is_told := dk_of (c.def_ 39 (d := d_s_l_is_told) rfl) (He.glo_ok X G (c.fact 95 (f := gloX "_law_is_told") rfl)) fun _ _ _ _ _ _ us hl => match us, hl with | [_, _], _ => rfl
  d_l_wrong_runs := dk_of (c.def_ 40 (d := d_s_l_wrong_runs) rfl) (He.glo_ok X G (c.fact 96 (f := gloX "_law_wrong_runs") rfl)) fun _ _ _ _ _ _ us hl => match us, hl with | [_, _], _ => rfl
  d_l_is_guess := dk_of (c.def_ 41 (d := d_s_l_is_guess) rfl) (He.glo_ok X G (c.fact 97 (f := gloX "_law_is_guess") rfl)) fun _ _ _ _ _ _ us hl => match us, hl with | [_], _ => rfl
  d_law := dk_of (c.def_ 42 (d := d_s_law) rfl) (He.glo_ok X G (c.fact 98 (f := gloX "law") rfl)) fun _ _ _ _ _ _ us hl => match us, hl with | [_], _ => rfl
  b_ValueError := He.free_ok X G (c.fact 0 (f := freeX "ValueError") rfl)
  b_isinstance := He.free_ok X G (c.fact 1 (f := freeX "isinstance") rfl)
  b_int := He.free_ok X G (c.fact 2 (f := freeX "int") rfl)
  b_bool := He.free_ok X G (c.fact 3 (f := freeX "bool") rfl)
  b_tuple := He.free_ok X G (c.fact 4 (f := freeX "tuple") rfl)
  b_all := He.free_ok X G (c.fact 5 (f := freeX "all") rfl)
  b_len := He.free_ok X G (c.fact 6 (f := freeX "len") rfl)
  b_range := He.free_ok X G (c.fact 7 (f := freeX "range") rfl)
  b_min := He.free_ok X G (c.fact 8 (f := freeX "min") rfl)
  b_list := He.free_ok X G (c.fact 9 (f := freeX "list") rfl)
  b_zip := He.free_ok X G (c.fact 10 (f := freeX "zip") rfl)
  b_max := He.free_ok X G (c.fact 11 (f := freeX "max") rfl)
  k_MOST_INPUT := He.int_ok X G (c.fact 12 (f := intX "MOST_INPUT" (255)) rfl)
  k_MOST_TICKS := He.int_ok X G (c.fact 13 (f := intX "MOST_TICKS" (100000)) rfl)
  k_MOST_BYTES := He.int_ok X G (c.fact 14 (f := intX "MOST_BYTES" (300000)) rfl)
  k_MOST_BYTE := He.int_ok X G (c.fact 15 (f := intX "MOST_BYTE" (255)) rfl)
  k_FIGURES := He.int_ok X G (c.fact 16 (f := intX "FIGURES" (128)) rfl)
  k_MOST_FIGURES := He.int_ok X G (c.fact 17 (f := intX "MOST_FIGURES" (10)) rfl)
  k_MOST_WHOLE := He.int_ok X G (c.fact 18 (f := intX "MOST_WHOLE" (18446744073709551615)) rfl)
  k_NO_INPUT := He.int_ok X G (c.fact 19 (f := intX "NO_INPUT" (0)) rfl)
  k_MOST_HOLD := He.int_ok X G (c.fact 20 (f := intX "MOST_HOLD" (600)) rfl)
  g_WorldError := He.glo_ok X G (c.fact 21 (f := gloX "WorldError") rfl)
  x_WorldError := oex_ok (c.fact 22 (f := fun K => oexB K (ga K "WorldError")) rfl)
  i_WorldError := init_ok (c.fact 23 (f := fun K => initB K (ga K "WorldError") (ma K (ga K "WorldError") "__init__")) rfl)
  g_NoNumber := He.glo_ok X G (c.fact 24 (f := gloX "NoNumber") rfl)
  x_NoNumber := oex_ok (c.fact 25 (f := fun K => oexB K (ga K "NoNumber")) rfl)
  i_NoNumber := init_ok (c.fact 26 (f := fun K => initB K (ga K "NoNumber") (ma K (ga K "WorldError") "__init__")) rfl)
  g_NoInputs := He.glo_ok X G (c.fact 27 (f := gloX "NoInputs") rfl)
  x_NoInputs := oex_ok (c.fact 28 (f := fun K => oexB K (ga K "NoInputs")) rfl)
  i_NoInputs := init_ok (c.fact 29 (f := fun K => initB K (ga K "NoInputs") (ma K (ga K "WorldError") "__init__")) rfl)
  g_NoRow := He.glo_ok X G (c.fact 30 (f := gloX "NoRow") rfl)
  x_NoRow := oex_ok (c.fact 31 (f := fun K => oexB K (ga K "NoRow")) rfl)
  i_NoRow := init_ok (c.fact 32 (f := fun K => initB K (ga K "NoRow") (ma K (ga K "WorldError") "__init__")) rfl)
  g_NoPlace := He.glo_ok X G (c.fact 33 (f := gloX "NoPlace") rfl)
  x_NoPlace := oex_ok (c.fact 34 (f := fun K => oexB K (ga K "NoPlace")) rfl)
  i_NoPlace := init_ok (c.fact 35 (f := fun K => initB K (ga K "NoPlace") (ma K (ga K "WorldError") "__init__")) rfl)
  g_BadRow := He.glo_ok X G (c.fact 36 (f := gloX "BadRow") rfl)
  x_BadRow := oex_ok (c.fact 37 (f := fun K => oexB K (ga K "BadRow")) rfl)
  i_BadRow := init_ok (c.fact 38 (f := fun K => initB K (ga K "BadRow") (ma K (ga K "BadRow") "__init__")) rfl)
  g_Reader := He.glo_ok X G (c.fact 39 (f := gloX "Reader") rfl)
  m_WorldError_BadRow := He.exm_ok (c.fact 40 (f := exmX "WorldError" "BadRow" false) rfl)
  m_WorldError_WorldError := He.exm_ok (c.fact 41 (f := exmX "WorldError" "WorldError" true) rfl)
  m_NoNumber_BadRow := He.exm_ok (c.fact 42 (f := exmX "NoNumber" "BadRow" false) rfl)
  m_NoNumber_WorldError := He.exm_ok (c.fact 43 (f := exmX "NoNumber" "WorldError" true) rfl)
  m_NoInputs_BadRow := He.exm_ok (c.fact 44 (f := exmX "NoInputs" "BadRow" false) rfl)
  m_NoInputs_WorldError := He.exm_ok (c.fact 45 (f := exmX "NoInputs" "WorldError" true) rfl)
  m_NoRow_BadRow := He.exm_ok (c.fact 46 (f := exmX "NoRow" "BadRow" false) rfl)
  m_NoRow_WorldError := He.exm_ok (c.fact 47 (f := exmX "NoRow" "WorldError" true) rfl)
  m_NoPlace_BadRow := He.exm_ok (c.fact 48 (f := exmX "NoPlace" "BadRow" false) rfl)
  m_NoPlace_WorldError := He.exm_ok (c.fact 49 (f := exmX "NoPlace" "WorldError" true) rfl)
  m_BadRow_BadRow := He.exm_ok (c.fact 50 (f := exmX "BadRow" "BadRow" true) rfl)
  m_BadRow_WorldError := He.exm_ok (c.fact 51 (f := exmX "BadRow" "WorldError" true) rfl)
  f_BadRow := xfB_ok (c.fact 52 (f := fun K => xfB K (ga K "BadRow")) rfl)
  n_BadRow_place := noB_ok (c.fact 53 (f := fun K => noB K (ga K "BadRow") "place") rfl)
  c_Reader := clsU_ok (c.fact 54 (f := fun K => clsU K (ga K "Reader") (ma K (ga K "Reader") "__init__")) rfl)
  o_Reader := insB_ok (c.fact 55 (f := fun K => insB K (ga K "Reader")) rfl)
  y_Reader := Ev.kitTB_ok (c.fact 56 (f := fun K => Ev.kitTB K (ga K "Reader")) rfl)
  h_Reader_byte := He.meth_ok (c.fact 57 (f := fun K => (He.Fa.meth "Reader" "byte").ok K) rfl)
  h_Reader_whole := He.meth_ok (c.fact 58 (f := fun K => (He.Fa.meth "Reader" "whole").ok K) rfl)
  h_Reader_signed := He.meth_ok (c.fact 59 (f := fun K => (He.Fa.meth "Reader" "signed").ok K) rfl)
  h_Reader_wholes := He.meth_ok (c.fact 60 (f := fun K => (He.Fa.meth "Reader" "wholes").ok K) rfl)
  h_Reader_signeds := He.meth_ok (c.fact 61 (f := fun K => (He.Fa.meth "Reader" "signeds").ok K) rfl)
  h_Reader_stretch := He.meth_ok (c.fact 62 (f := fun K => (He.Fa.meth "Reader" "stretch").ok K) rfl)
  h_Reader_close := He.meth_ok (c.fact 63 (f := fun K => (He.Fa.meth "Reader" "close").ok K) rfl)
  n_Reader_row := noB_ok (c.fact 64 (f := fun K => noB K (ga K "Reader") "row") rfl)
  n_Reader_at := noB_ok (c.fact 65 (f := fun K => noB K (ga K "Reader") "at") rfl)
  g__wall := He.glo_ok X G (c.fact 66 (f := gloX "_wall") rfl)
  g_is_plain_integer := He.glo_ok X G (c.fact 67 (f := gloX "is_plain_integer") rfl)
  g_is_between := He.glo_ok X G (c.fact 68 (f := gloX "is_between") rfl)
  g_is_input := He.glo_ok X G (c.fact 69 (f := gloX "is_input") rfl)
  g_is_tick := He.glo_ok X G (c.fact 70 (f := gloX "is_tick") rfl)
  g_are_told := He.glo_ok X G (c.fact 71 (f := gloX "are_told") rfl)
  g_is_row := He.glo_ok X G (c.fact 72 (f := gloX "is_row") rfl)
  g_whole := He.glo_ok X G (c.fact 73 (f := gloX "whole") rfl)
  g_whole_at := He.glo_ok X G (c.fact 74 (f := gloX "whole_at") rfl)
  g_check_place := He.glo_ok X G (c.fact 75 (f := gloX "check_place") rfl)
  g_runs_of := He.glo_ok X G (c.fact 76 (f := gloX "runs_of") rfl)
  g_input_row := He.glo_ok X G (c.fact 77 (f := gloX "input_row") rfl)
  g_inputs_read := He.glo_ok X G (c.fact 78 (f := gloX "inputs_read") rfl)
  g_read_inputs := He.glo_ok X G (c.fact 79 (f := gloX "read_inputs") rfl)
  g_guess := He.glo_ok X G (c.fact 80 (f := gloX "guess") rfl)
  g_l_hand := He.glo_ok X G (c.fact 81 (f := gloX "_law_hand") rfl)
  g_l_draw := He.glo_ok X G (c.fact 82 (f := gloX "_law_draw") rfl)
  g_l_is := He.glo_ok X G (c.fact 83 (f := gloX "_law_is") rfl)
  g_l_whole := He.glo_ok X G (c.fact 84 (f := gloX "_law_whole") rfl)
  g_l_read := He.glo_ok X G (c.fact 85 (f := gloX "_law_read") rfl)
  g_l_byte := He.glo_ok X G (c.fact 86 (f := gloX "_law_byte") rfl)
  g_l_bytes := He.glo_ok X G (c.fact 87 (f := gloX "_law_bytes") rfl)
  g_l_spoilt := He.glo_ok X G (c.fact 88 (f := gloX "_law_spoilt") rfl)
  g_l_runs := He.glo_ok X G (c.fact 89 (f := gloX "_law_runs") rfl)
  g_l_ticks := He.glo_ok X G (c.fact 90 (f := gloX "_law_ticks") rfl)
  g_l_run_bytes := He.glo_ok X G (c.fact 91 (f := gloX "_law_run_bytes") rfl)
  g_l_input_bytes := He.glo_ok X G (c.fact 92 (f := gloX "_law_input_bytes") rfl)
  g_l_parsed := He.glo_ok X G (c.fact 93 (f := gloX "_law_parsed") rfl)
  g_l_read_told := He.glo_ok X G (c.fact 94 (f := gloX "_law_read_told") rfl)
  g_l_is_told := He.glo_ok X G (c.fact 95 (f := gloX "_law_is_told") rfl)
  g_l_wrong_runs := He.glo_ok X G (c.fact 96 (f := gloX "_law_wrong_runs") rfl)
  g_l_is_guess := He.glo_ok X G (c.fact 97 (f := gloX "_law_is_guess") rfl)
  g_law := He.glo_ok X G (c.fact 98 (f := gloX "law") rfl)
}
end K26

set_option Elab.async false
set_option linter.all false
set_option maxRecDepth 100000
set_option maxHeartbeats 4000000
namespace K26
open PySem PySem.Spec PyProof.Rows L2 He Gw Ev
def b__wall : SL := (.cons (.while_ (.bl true)
    (.cons .pass
    .nil))
    .nil)
def b_is_plain_integer : SL := (.cons (.ret (.and (.op .isi (.cons (.own 0) (.cons (.e (.kst (.ty "int"))) .nil))) (.one (.not (.op .isi (.cons (.own 0) (.cons (.e (.kst (.ty "bool"))) .nil)))))))
    .nil)
def b_is_between : SL := (.cons (.ret (.and (.call 3 (.val (.frz 2) .nil)) (.one (.chain (.frz 0) .le (.frz 2) .le (.frz 1)))))
    .nil)
def b_is_input : SL := (.cons (.retW (.call 4 (.val (.int 0) (.val (.kst (.int (255))) (.val (.frz 0) .nil)))))
    .nil)
def b_is_tick : SL := (.cons (.retW (.call 4 (.val (.int 0) (.val (.kst (.int (100000))) (.val (.frz 0) .nil)))))
    .nil)
def b_are_told : SL := (.cons (.ret (.and (.op .isi (.cons (.own 0) (.cons (.e (.kst (.ty "tuple"))) .nil))) (.and (.op .le (.cons (.e (.op .len (.cons (.own 0) .nil))) (.cons (.e (.kst (.int (100000)))) .nil))) (.one (.op .all (.cons (.e (.lc (.seq (.frz 0)) (.nm 1) .no (.call 5 (.val (.frz 1) .nil)))) .nil))))))
    .nil)
def b_is_row : SL := (.cons (.if_ (.or (.not (.op .isi (.cons (.own 0) (.cons (.e (.kst (.ty "tuple"))) .nil)))) (.one (.op .gt (.cons (.e (.op .len (.cons (.own 0) .nil))) (.cons (.e (.kst (.int (300000)))) .nil)))))
    (.cons (.ret (.bl false))
    .nil)
    .nil)
    (.cons (.for_ (.nm 1) (.seq (.frz 0))
    (.cons (.if_ (.or (.not (.op .isi (.cons (.own 1) (.cons (.e (.kst (.ty "int"))) .nil)))) (.or (.op .isi (.cons (.own 1) (.cons (.e (.kst (.ty "bool"))) .nil))) (.or (.op .lt (.cons (.own 1) (.cons (.e (.int 0)) .nil))) (.one (.op .gt (.cons (.own 1) (.cons (.e (.kst (.int (255)))) .nil)))))))
    (.cons (.ret (.bl false))
    .nil)
    .nil)
    .nil))
    (.cons (.ret (.bl true))
    .nil)))
def b_whole : SL := (.cons (.if_ (.not (.call 4 (.val (.int 0) (.val (.kst (.int (18446744073709551615))) (.val (.frz 0) .nil)))))
    (.cons (.raise "NoNumber" [] .nil)
    .nil)
    .nil)
    (.cons (.own 1 (.lst .nil))
    (.cons (.asg (.nm 2) (.frz 0))
    (.cons (.while_ (.op .ge (.cons (.own 2) (.cons (.e (.kst (.int (128)))) .nil)))
    (.cons (.expr (.mut .append 1 (.cons (.op .add (.cons (.e (.op .mod (.cons (.own 2) (.cons (.e (.kst (.int (128)))) .nil)))) (.cons (.e (.kst (.int (128)))) .nil))) .nil)))
    (.cons (.asg (.nm 2) (.op .fdiv (.cons (.own 2) (.cons (.e (.kst (.int (128)))) .nil))))
    .nil)))
    (.cons (.ret (.disp true (.star (.frz 1) (.cons (.frz 2) .nil))))
    .nil)))))
def b_whole_at : SL := (.cons (.asg (.nm 2) (.int 0))
    (.cons (.asg (.nm 3) (.int 1))
    (.cons (.for_ (.nm 4) (.rng (.cons (.frz 1) (.cons (.op .min2 (.cons (.e (.op .add (.cons (.own 1) (.cons (.e (.kst (.int (10)))) .nil)))) (.cons (.e (.op .len (.cons (.own 0) .nil))) .nil))) .nil)))
    (.cons (.asg (.nm 5) (.op .idx (.cons (.own 0) (.cons (.own 4) .nil))))
    (.cons (.asg (.nm 2) (.op .add (.cons (.own 2) (.cons (.e (.op .mul (.cons (.e (.op .mod (.cons (.own 5) (.cons (.e (.kst (.int (128)))) .nil)))) (.cons (.own 3) .nil)))) .nil))))
    (.cons (.asg (.nm 3) (.op .mul (.cons (.own 3) (.cons (.e (.kst (.int (128)))) .nil))))
    (.cons (.if_ (.op .lt (.cons (.own 5) (.cons (.e (.kst (.int (128)))) .nil)))
    (.cons (.if_ (.or (.op .gt (.cons (.own 2) (.cons (.e (.kst (.int (18446744073709551615)))) .nil))) (.one (.and (.op .eq (.cons (.own 5) (.cons (.e (.int 0)) .nil))) (.one (.op .gt (.cons (.own 4) (.cons (.own 1) .nil)))))))
    (.cons (.raise "BadRow" ["place"] (.cons (.frz 1) .nil))
    .nil)
    .nil)
    (.cons (.ret (.tup (.cons (.frz 2) (.cons (.op .add (.cons (.own 4) (.cons (.e (.int 1)) .nil))) .nil))))
    .nil))
    .nil)
    .nil)))))
    (.cons (.raise "BadRow" ["place"] (.cons (.frz 1) .nil))
    .nil))))
def b_check_place : SL := (.cons (.if_ (.not (.call 8 (.val (.frz 0) .nil)))
    (.cons (.raise "NoRow" [] .nil)
    .nil)
    .nil)
    (.cons (.if_ (.not (.call 4 (.val (.int 0) (.val (.op .len (.cons (.own 0) .nil)) (.val (.frz 1) .nil)))))
    (.cons (.raise "NoPlace" [] .nil)
    .nil)
    .nil)
    .nil))
def b_Reader_init : SL := (.cons (.setf 0 "row" (.frz 1))
    (.cons (.setf 0 "at" (.frz 2))
    .nil))
def b_Reader_byte : SL := (.cons (.if_ (.op .eq (.cons (.e (.fld (.own 0) "at")) (.cons (.e (.op .len (.cons (.e (.fld (.own 0) "row")) .nil))) .nil)))
    (.cons (.raise "BadRow" ["place"] (.cons (.fld (.own 0) "at") .nil))
    .nil)
    .nil)
    (.cons (.setf 0 "at" (.op .add (.cons (.e (.fld (.own 0) "at")) (.cons (.e (.int 1)) .nil))))
    (.cons (.ret (.op .idx (.cons (.e (.fld (.own 0) "row")) (.cons (.e (.op .sub (.cons (.e (.fld (.own 0) "at")) (.cons (.e (.int 1)) .nil)))) .nil))))
    .nil)))
def b_Reader_whole : SL := (.cons (.asgf 1 0 "at" (.call 10 (.val (.fld (.own 0) "row") (.val (.fld (.own 0) "at") .nil))))
    (.cons (.ret (.frz 1))
    .nil))
def b_Reader_signed : SL := (.cons (.expr (.call 0 (.val (.int 0) .nil)))
    .nil)
def b_Reader_wholes : SL := (.cons (.expr (.call 0 (.val (.int 1) .nil)))
    .nil)
def b_Reader_signeds : SL := (.cons (.expr (.call 0 (.val (.int 2) .nil)))
    .nil)
def b_Reader_stretch : SL := (.cons (.expr (.call 0 (.val (.int 3) .nil)))
    .nil)
def b_Reader_close : SL := (.cons (.if_ (.op .lt (.cons (.e (.fld (.own 0) "at")) (.cons (.e (.op .len (.cons (.e (.fld (.own 0) "row")) .nil))) .nil)))
    (.cons (.raise "BadRow" ["place"] (.cons (.fld (.own 0) "at") .nil))
    .nil)
    .nil)
    .nil)
def b_runs_of : SL := (.cons (.own 1 (.lst .nil))
    (.cons (.for_ (.nm 2) (.seq (.frz 0))
    (.cons (.if_ (.and (.tru 1) (.one (.op .eq (.cons (.e (.ix2 1 (.op .neg (.cons (.e (.int 1)) .nil)) (0))) (.cons (.own 2) .nil)))))
    (.cons (.set2 1 (.op .neg (.cons (.e (.int 1)) .nil)) (1) (.op .add (.cons (.e (.ix2 1 (.op .neg (.cons (.e (.int 1)) .nil)) (1))) (.cons (.e (.int 1)) .nil))))
    .nil)
    (.cons (.app2 1 (.lst (.cons (.frz 2) (.cons (.int 1) .nil))))
    .nil))
    .nil))
    (.cons (.retO 1)
    .nil)))
def b_input_row : SL := (.cons (.if_ (.not (.call 7 (.val (.frz 0) .nil)))
    (.cons (.raise "NoInputs" [] .nil)
    .nil)
    .nil)
    (.cons (.asg (.nm 1) (.call 20 (.val (.frz 0) .nil)))
    (.cons (.own 2 (.disp false (.star (.call 9 (.val (.op .len (.cons (.own 1) .nil)) .nil)) .nil)))
    (.cons (.for_ (.tup [3, 4]) (.seq (.frz 1))
    (.cons (.expr (.mut .append 2 (.cons (.frz 3) .nil)))
    (.cons (.expr (.mut .extend 2 (.cons (.call 9 (.val (.frz 4) .nil)) .nil)))
    .nil)))
    (.cons (.ret (.op .tuple (.cons (.own 2) .nil)))
    .nil)))))
def b_inputs_read : SL := (.cons (.own 1 (.lst .nil))
    (.cons (.asg (.nm 2) .non)
    (.cons (.for_ (.nm 3) (.rng (.cons (.meth "Reader" "whole" 14 (.own 0) .nil) .nil))
    (.cons (.asg (.nm 4) (.fld (.own 0) "at"))
    (.cons (.asg (.nm 5) (.meth "Reader" "byte" 13 (.own 0) .nil))
    (.cons (.asg (.nm 6) (.meth "Reader" "whole" 14 (.own 0) .nil))
    (.cons (.if_ (.or (.op .eq (.cons (.own 6) (.cons (.e (.int 0)) .nil))) (.or (.op .eq (.cons (.own 5) (.cons (.own 2) .nil))) (.one (.op .gt (.cons (.e (.op .add (.cons (.e (.op .len (.cons (.own 1) .nil))) (.cons (.own 6) .nil)))) (.cons (.e (.kst (.int (100000)))) .nil))))))
    (.cons (.raise "BadRow" ["place"] (.cons (.frz 4) .nil))
    .nil)
    .nil)
    (.cons (.expr (.mut .extend 1 (.cons (.op .mul (.cons (.e (.lst (.cons (.frz 5) .nil))) (.cons (.own 6) .nil))) .nil)))
    (.cons (.asg (.nm 2) (.frz 5))
    .nil)))))))
    (.cons (.ret (.op .tuple (.cons (.own 1) .nil)))
    .nil))))
def b_read_inputs : SL := (.cons (.expr (.call 11 (.val (.frz 0) (.val (.frz 1) .nil))))
    (.cons (.own 2 (.make "Reader" 12 (.val (.frz 0) (.val (.frz 1) .nil))))
    (.cons (.asg (.nm 3) (.call 22 (.ref 2 .nil)))
    (.cons (.ret (.tup (.cons (.frz 3) (.cons (.fld (.own 2) "at") .nil))))
    .nil))))
def b_guess : SL := (.cons (.if_ (.and (.op .isnot (.cons (.own 0) (.cons (.e .non) .nil))) (.one (.not (.call 5 (.val (.frz 0) .nil)))))
    (.cons (.raise "NoInputs" [] .nil)
    .nil)
    .nil)
    (.cons (.if_ (.or (.not (.call 6 (.val (.frz 1) .nil))) (.one (.not (.call 4 (.val (.int 0) (.val (.kst (.int (600))) (.val (.frz 2) .nil)))))))
    (.cons (.raise "NoNumber" [] .nil)
    .nil)
    .nil)
    (.cons (.ret (.ite (.or (.op .is_ (.cons (.own 0) (.cons (.e .non) .nil))) (.one (.op .gt (.cons (.own 1) (.cons (.own 2) .nil))))) (.kst (.int (0))) (.frz 0)))
    .nil)))
def b_l_hand : SL := (.cons (.retW (.lst (.cons (.lc (.seq (.slc (.own 0) .no (.yes (.int 63)))) (.nm 1) .no (.op .int (.cons (.own 1) .nil))) (.cons (.int 0) (.cons (.int 0) (.cons (.op .add (.cons (.e (.int 1)) (.cons (.e (.op .len (.cons (.e (.slc (.own 0) .no (.yes (.int 63)))) .nil))) .nil))) (.cons (.int 0) .nil)))))))
    .nil)
def b_l_draw : SL := (.cons (.if_ (.and (.op .eq (.cons (.e (.op .idx (.cons (.own 0) (.cons (.e (.int 2)) .nil)))) (.cons (.e (.int 0)) .nil))) (.one (.op .lt (.cons (.e (.op .idx (.cons (.own 0) (.cons (.e (.int 1)) .nil)))) (.cons (.e (.op .len (.cons (.e (.op .idx (.cons (.own 0) (.cons (.e (.int 0)) .nil)))) .nil))) .nil)))))
    (.cons (.asg (.nm 2) (.op .idx (.cons (.e (.op .idx (.cons (.own 0) (.cons (.e (.int 0)) .nil)))) (.cons (.e (.op .idx (.cons (.own 0) (.cons (.e (.int 1)) .nil)))) .nil))))
    (.cons (.set 0 (.int 1) (.op .add (.cons (.e (.op .idx (.cons (.own 0) (.cons (.e (.int 1)) .nil)))) (.cons (.e (.int 1)) .nil))))
    (.cons (.set 0 (.int 3) (.op .mod (.cons (.e (.op .int (.cons (.e (.op .add (.cons (.e (.op .add (.cons (.e (.op .mul (.cons (.e (.op .idx (.cons (.own 0) (.cons (.e (.int 3)) .nil)))) (.cons (.e (.int 69621)) .nil)))) (.cons (.e (.op .mul (.cons (.own 2) (.cons (.e (.int 16)) .nil)))) .nil)))) (.cons (.e (.int 11)) .nil)))) .nil))) (.cons (.e (.int 2147483629)) .nil))))
    (.cons (.if_ (.op .ge (.cons (.own 2) (.cons (.e (.op .pow (.cons (.e (.int 10)) (.cons (.e (.int 18)) .nil)))) .nil)))
    (.cons (.set 0 (.int 2) (.frz 2))
    .nil)
    .nil)
    .nil))))
    .nil)
    (.cons (.if_ (.op .gt (.cons (.e (.op .idx (.cons (.own 0) (.cons (.e (.int 2)) .nil)))) (.cons (.e (.int 0)) .nil)))
    (.cons (.asg (.nm 3) (.op .mod (.cons (.e (.op .int (.cons (.e (.op .idx (.cons (.own 0) (.cons (.e (.int 2)) .nil)))) .nil))) (.cons (.own 1) .nil))))
    (.cons (.set 0 (.int 2) (.op .fdiv (.cons (.e (.op .idx (.cons (.own 0) (.cons (.e (.int 2)) .nil)))) (.cons (.own 1) .nil))))
    (.cons (.ret (.frz 3))
    .nil)))
    .nil)
    (.cons (.set 0 (.int 4) (.op .add (.cons (.e (.op .idx (.cons (.own 0) (.cons (.e (.int 4)) .nil)))) (.cons (.e (.int 1)) .nil))))
    (.cons (.asg (.nm 4) (.op .mod (.cons (.e (.op .int (.cons (.e (.op .mul (.cons (.e (.op .int (.cons (.e (.op .add (.cons (.e (.op .idx (.cons (.own 0) (.cons (.e (.int 3)) .nil)))) (.cons (.e (.op .mul (.cons (.e (.int 7919)) (.cons (.e (.op .idx (.cons (.own 0) (.cons (.e (.int 4)) .nil)))) .nil)))) .nil)))) .nil))) (.cons (.e (.int 48271)) .nil)))) .nil))) (.cons (.e (.int 2147483647)) .nil))))
    (.cons (.asg (.nm 4) (.op .mod (.cons (.e (.op .int (.cons (.e (.op .mul (.cons (.own 4) (.cons (.e (.op .add (.cons (.e (.op .fdiv (.cons (.own 4) (.cons (.e (.int 1009)) .nil)))) (.cons (.e (.int 69621)) .nil)))) .nil)))) .nil))) (.cons (.e (.int 2147483647)) .nil))))
    (.cons (.asg (.nm 4) (.op .mod (.cons (.e (.op .int (.cons (.e (.op .mul (.cons (.own 4) (.cons (.e (.op .add (.cons (.e (.op .fdiv (.cons (.own 4) (.cons (.e (.int 2003)) .nil)))) (.cons (.e (.int 40692)) .nil)))) .nil)))) .nil))) (.cons (.e (.int 2147483399)) .nil))))
    (.cons (.ret (.op .mod (.cons (.e (.op .int (.cons (.e (.op .fdiv (.cons (.own 4) (.cons (.e (.int 16)) .nil)))) .nil))) (.cons (.own 1) .nil))))
    .nil)))))))
def b_l_is : SL := (.cons (.if_ (.op .isi (.cons (.own 1) (.cons (.e (.tup (.cons (.kst (.ty "tuple")) (.cons (.kst (.ty "list")) .nil)))) .nil)))
    (.cons (.if_ (.or (.op .ne (.cons (.e (.op .isi (.cons (.own 0) (.cons (.e (.kst (.ty "tuple"))) .nil)))) (.cons (.e (.op .isi (.cons (.own 1) (.cons (.e (.kst (.ty "tuple"))) .nil)))) .nil))) (.one (.not (.op .isi (.cons (.own 0) (.cons (.e (.tup (.cons (.kst (.ty "tuple")) (.cons (.kst (.ty "list")) .nil)))) .nil))))))
    (.cons (.ret (.bl false))
    .nil)
    .nil)
    (.cons (.ret (.and (.op .eq (.cons (.e (.op .len (.cons (.own 0) .nil))) (.cons (.e (.op .len (.cons (.own 1) .nil))) .nil))) (.one (.op .all (.cons (.e (.lc (.zip (.cons (.frz 0) (.cons (.frz 1) .nil))) (.tup [2, 3]) .no (.call 27 (.val (.frz 2) (.val (.frz 3) .nil))))) .nil)))))
    .nil))
    .nil)
    (.cons (.ret (.and (.op .eq (.cons (.e (.op .isi (.cons (.own 0) (.cons (.e (.kst (.ty "bool"))) .nil)))) (.cons (.e (.op .isi (.cons (.own 1) (.cons (.e (.kst (.ty "bool"))) .nil)))) .nil))) (.one (.op .eq (.cons (.own 0) (.cons (.own 1) .nil))))))
    .nil))
def b_l_whole : SL := (.cons (.own 1 (.lst .nil))
    (.cons (.for_ (.nm 2) (.rng (.cons (.int 10) .nil))
    (.cons (.if_ (.op .lt (.cons (.own 0) (.cons (.e (.int 128)) .nil)))
    (.cons .brk
    .nil)
    .nil)
    (.cons (.expr (.mut .append 1 (.cons (.op .add (.cons (.e (.op .mod (.cons (.e (.op .int (.cons (.own 0) .nil))) (.cons (.e (.int 128)) .nil)))) (.cons (.e (.int 128)) .nil))) .nil)))
    (.cons (.asg (.nm 0) (.op .fdiv (.cons (.own 0) (.cons (.e (.int 128)) .nil))))
    .nil))))
    (.cons (.ret (.op .tuple (.cons (.e (.op .add (.cons (.own 1) (.cons (.e (.lst (.cons (.frz 0) .nil))) .nil)))) .nil)))
    .nil)))
def b_l_read : SL := (.cons (.for_ (.nm 2) (.rng (.cons (.int 10) .nil))
    (.cons (.if_ (.op .ge (.cons (.e (.op .add (.cons (.own 1) (.cons (.own 2) .nil)))) (.cons (.e (.op .len (.cons (.own 0) .nil))) .nil)))
    (.cons (.ret .non)
    .nil)
    .nil)
    (.cons (.if_ (.op .lt (.cons (.e (.op .idx (.cons (.own 0) (.cons (.e (.op .add (.cons (.own 1) (.cons (.own 2) .nil)))) .nil)))) (.cons (.e (.int 128)) .nil)))
    (.cons (.if_ (.and (.op .gt (.cons (.own 2) (.cons (.e (.int 0)) .nil))) (.one (.op .eq (.cons (.e (.op .idx (.cons (.own 0) (.cons (.e (.op .add (.cons (.own 1) (.cons (.own 2) .nil)))) .nil)))) (.cons (.e (.int 0)) .nil)))))
    (.cons (.ret .non)
    .nil)
    .nil)
    (.cons (.asg (.nm 3) (.int 0))
    (.cons (.for_ (.nm 4) (.rng (.cons (.op .add (.cons (.own 1) (.cons (.own 2) .nil))) (.cons (.op .sub (.cons (.own 1) (.cons (.e (.int 1)) .nil))) (.cons (.op .neg (.cons (.e (.int 1)) .nil)) .nil))))
    (.cons (.asg (.nm 3) (.op .add (.cons (.e (.op .mul (.cons (.own 3) (.cons (.e (.int 128)) .nil)))) (.cons (.e (.op .mod (.cons (.e (.op .int (.cons (.e (.op .idx (.cons (.own 0) (.cons (.own 4) .nil)))) .nil))) (.cons (.e (.int 128)) .nil)))) .nil))))
    .nil))
    (.cons (.if_ (.op .ge (.cons (.own 3) (.cons (.e (.op .pow (.cons (.e (.int 2)) (.cons (.e (.int 64)) .nil)))) .nil)))
    (.cons (.ret .non)
    .nil)
    .nil)
    (.cons (.ret (.tup (.cons (.frz 3) (.cons (.op .add (.cons (.e (.op .add (.cons (.own 1) (.cons (.own 2) .nil)))) (.cons (.e (.int 1)) .nil))) .nil))))
    .nil)))))
    .nil)
    .nil)))
    (.cons (.ret .non)
    .nil))
def b_l_byte : SL := (.cons (.if_ (.op .eq (.cons (.e (.call 26 (.ref 0 (.val (.int 2) .nil)))) (.cons (.e (.int 0)) .nil)))
    (.cons (.ret (.op .idx (.cons (.e (.lst (.cons (.int 0) (.cons (.int 1) (.cons (.int 127) (.cons (.int 128) (.cons (.int 129) (.cons (.int 255) .nil)))))))) (.cons (.e (.call 26 (.ref 0 (.val (.int 6) .nil)))) .nil))))
    .nil)
    .nil)
    (.cons (.retW (.call 26 (.ref 0 (.val (.int 256) .nil))))
    .nil))
def b_l_bytes : SL := (.cons (.ret (.op .tuple (.cons (.e (.lc (.rng (.cons (.call 26 (.ref 0 (.val (.op .add (.cons (.own 1) (.cons (.e (.int 1)) .nil))) .nil))) .nil)) (.nm 2) .no (.call 30 (.ref 0 .nil)))) .nil)))
    .nil)
def b_l_spoilt : SL := (.cons (.asg (.nm 2) (.call 26 (.ref 0 (.val (.int 5) .nil))))
    (.cons (.asg (.nm 3) (.call 26 (.ref 0 (.val (.op .add (.cons (.e (.op .len (.cons (.own 1) .nil))) (.cons (.e (.int 1)) .nil))) .nil))))
    (.cons (.if_ (.op .eq (.cons (.own 2) (.cons (.e (.int 0)) .nil)))
    (.cons (.ret (.op .add (.cons (.e (.op .add (.cons (.e (.slc (.own 1) .no (.yes (.frz 3)))) (.cons (.e (.tup (.cons (.call 30 (.ref 0 .nil)) .nil))) .nil)))) (.cons (.e (.slc (.own 1) (.yes (.op .add (.cons (.own 3) (.cons (.e (.int 1)) .nil)))) .no)) .nil))))
    .nil)
    .nil)
    (.cons (.if_ (.op .eq (.cons (.own 2) (.cons (.e (.int 1)) .nil)))
    (.cons (.ret (.op .add (.cons (.e (.op .add (.cons (.e (.slc (.own 1) .no (.yes (.frz 3)))) (.cons (.e (.tup (.cons (.call 30 (.ref 0 .nil)) .nil))) .nil)))) (.cons (.e (.slc (.own 1) (.yes (.frz 3)) .no)) .nil))))
    .nil)
    .nil)
    (.cons (.if_ (.op .eq (.cons (.own 2) (.cons (.e (.int 2)) .nil)))
    (.cons (.ret (.op .add (.cons (.e (.slc (.own 1) .no (.yes (.frz 3)))) (.cons (.e (.slc (.own 1) (.yes (.op .add (.cons (.own 3) (.cons (.e (.int 1)) .nil)))) .no)) .nil))))
    .nil)
    .nil)
    (.cons (.if_ (.op .eq (.cons (.own 2) (.cons (.e (.int 3)) .nil)))
    (.cons (.ret (.slc (.own 1) .no (.yes (.frz 3))))
    .nil)
    .nil)
    (.cons (.ret (.op .add (.cons (.own 1) (.cons (.e (.call 31 (.ref 0 (.val (.int 4) .nil)))) .nil))))
    .nil)))))))
def b_l_runs : SL := (.cons (.asg (.nm 1) (.call 26 (.ref 0 (.val (.int 12) .nil))))
    (.cons (.own 2 (.lst .nil))
    (.cons (.for_ (.nm 3) (.rng (.cons (.call 26 (.ref 0 (.val (.int 13) .nil))) .nil))
    (.cons (.asg (.nm 4) (.op .add (.cons (.e (.int 1)) (.cons (.e (.call 26 (.ref 0 (.val (.op .idx (.cons (.e (.lst (.cons (.int 1) (.cons (.int 4) (.cons (.int 300) .nil))))) (.cons (.e (.call 26 (.ref 0 (.val (.int 3) .nil)))) .nil))) .nil)))) .nil))))
    (.cons (.expr (.mut .append 2 (.cons (.tup (.cons (.call 30 (.ref 0 .nil)) (.cons (.frz 4) .nil))) .nil)))
    .nil)))
    (.cons (.if_ (.and (.op .eq (.cons (.own 1) (.cons (.e (.int 0)) .nil))) (.one (.op .gt (.cons (.e (.op .len (.cons (.own 2) .nil))) (.cons (.e (.int 0)) .nil)))))
    (.cons (.set 2 (.int 0) (.tup (.cons (.op .idx (.cons (.e (.op .idx (.cons (.own 2) (.cons (.e (.int 0)) .nil)))) (.cons (.e (.int 0)) .nil))) (.cons (.op .add (.cons (.e (.int 15000)) (.cons (.e (.op .idx (.cons (.e (.op .idx (.cons (.own 2) (.cons (.e (.int 0)) .nil)))) (.cons (.e (.int 1)) .nil)))) .nil))) .nil))))
    .nil)
    .nil)
    (.cons (.retO 2)
    .nil)))))
def b_l_ticks : SL := (.cons (.own 1 (.lst .nil))
    (.cons (.for_ (.tup [2, 3]) (.seq (.frz 0))
    (.cons (.expr (.mut .extend 1 (.cons (.op .mul (.cons (.e (.lst (.cons (.frz 2) .nil))) (.cons (.own 3) .nil))) .nil)))
    .nil))
    (.cons (.ret (.op .tuple (.cons (.own 1) .nil)))
    .nil)))
def b_l_run_bytes : SL := (.cons (.own 1 (.op .list (.cons (.e (.call 28 (.val (.op .len (.cons (.own 0) .nil)) .nil))) .nil)))
    (.cons (.for_ (.tup [2, 3]) (.seq (.frz 0))
    (.cons (.expr (.mut .append 1 (.cons (.frz 2) .nil)))
    (.cons (.expr (.mut .extend 1 (.cons (.call 28 (.val (.frz 3) .nil)) .nil)))
    .nil)))
    (.cons (.ret (.op .tuple (.cons (.own 1) .nil)))
    .nil)))
def b_l_input_bytes : SL := (.cons (.own 1 (.lst .nil))
    (.cons (.asg (.nm 2) (.int 0))
    (.cons (.for_ (.nm 3) (.rng (.cons (.int 1) (.cons (.op .add (.cons (.e (.op .len (.cons (.own 0) .nil))) (.cons (.e (.int 1)) .nil))) .nil)))
    (.cons (.if_ (.or (.op .eq (.cons (.own 3) (.cons (.e (.op .len (.cons (.own 0) .nil))) .nil))) (.one (.op .ne (.cons (.e (.op .idx (.cons (.own 0) (.cons (.own 3) .nil)))) (.cons (.e (.op .idx (.cons (.own 0) (.cons (.own 2) .nil)))) .nil)))))
    (.cons (.expr (.mut .append 1 (.cons (.tup (.cons (.op .idx (.cons (.own 0) (.cons (.own 2) .nil))) (.cons (.op .sub (.cons (.own 3) (.cons (.own 2) .nil))) .nil))) .nil)))
    (.cons (.asg (.nm 2) (.frz 3))
    .nil))
    .nil)
    .nil))
    (.cons (.retW (.call 35 (.ref 1 .nil)))
    .nil))))
def b_l_parsed : SL := (.cons (.asg (.nm 2) (.call 29 (.val (.frz 0) (.val (.frz 1) .nil))))
    (.cons (.if_ (.op .is_ (.cons (.own 2) (.cons (.e .non) .nil)))
    (.cons (.ret (.tup (.cons .non (.cons (.int 0) (.cons (.frz 1) .nil)))))
    .nil)
    .nil)
    (.cons (.asg (.nm 3) (.op .idx (.cons (.own 2) (.cons (.e (.int 1)) .nil))))
    (.cons (.own 4 (.lst .nil))
    (.cons (.for_ (.nm 5) (.rng (.cons (.op .min2 (.cons (.e (.op .idx (.cons (.own 2) (.cons (.e (.int 0)) .nil)))) (.cons (.e (.op .add (.cons (.e (.op .len (.cons (.own 0) .nil))) (.cons (.e (.int 1)) .nil)))) .nil))) .nil))
    (.cons (.if_ (.op .ge (.cons (.own 3) (.cons (.e (.op .len (.cons (.own 0) .nil))) .nil)))
    (.cons (.ret (.tup (.cons .non (.cons (.int 0) (.cons (.frz 3) .nil)))))
    .nil)
    .nil)
    (.cons (.asg (.nm 6) (.call 29 (.val (.frz 0) (.val (.op .add (.cons (.own 3) (.cons (.e (.int 1)) .nil))) .nil))))
    (.cons (.if_ (.op .is_ (.cons (.own 6) (.cons (.e .non) .nil)))
    (.cons (.ret (.tup (.cons .non (.cons (.int 0) (.cons (.op .add (.cons (.own 3) (.cons (.e (.int 1)) .nil))) .nil)))))
    .nil)
    .nil)
    (.cons (.if_ (.or (.op .eq (.cons (.e (.op .idx (.cons (.own 6) (.cons (.e (.int 0)) .nil)))) (.cons (.e (.int 0)) .nil))) (.or (.op .gt (.cons (.e (.op .add (.cons (.e (.op .len (.cons (.own 4) .nil))) (.cons (.e (.op .idx (.cons (.own 6) (.cons (.e (.int 0)) .nil)))) .nil)))) (.cons (.e (.int 100000)) .nil))) (.one (.op .eq (.cons (.e (.slc (.own 4) (.yes (.op .neg (.cons (.e (.int 1)) .nil))) .no)) (.cons (.e (.lst (.cons (.op .idx (.cons (.own 0) (.cons (.own 3) .nil))) .nil))) .nil))))))
    (.cons (.ret (.tup (.cons .non (.cons (.int 0) (.cons (.frz 3) .nil)))))
    .nil)
    .nil)
    (.cons (.expr (.mut .extend 4 (.cons (.op .mul (.cons (.e (.lst (.cons (.op .idx (.cons (.own 0) (.cons (.own 3) .nil))) .nil))) (.cons (.e (.op .idx (.cons (.own 6) (.cons (.e (.int 0)) .nil)))) .nil))) .nil)))
    (.cons (.asg (.nm 3) (.op .idx (.cons (.own 6) (.cons (.e (.int 1)) .nil))))
    .nil)))))))
    (.cons (.ret (.tup (.cons (.op .tuple (.cons (.own 4) .nil)) (.cons (.frz 3) (.cons (.op .neg (.cons (.e (.int 1)) .nil)) .nil)))))
    .nil))))))
def b_l_read_told : SL := (.cons (.try_ (.cons (.ret (.tup (.cons (.str "told") (.cons (.call 23 (.val (.frz 0) (.val (.frz 1) .nil))) .nil))))
    .nil) (.ret "BadRow" 2 "place" (some (.str "bad")) (.cons "WorldError" none (.cons (.ret (.tup (.cons (.str "other") (.cons (.int 0) .nil))))
    .nil) .nil)))
    .nil)
def b_l_is_told : SL := (.cons (.asg (.tup [2, 3, 4]) (.call 37 (.val (.frz 0) (.val (.frz 1) .nil))))
    (.cons (.asg (.nm 5) (.call 38 (.val (.frz 0) (.val (.frz 1) .nil))))
    (.cons (.if_ (.op .is_ (.cons (.own 2) (.cons (.e .non) .nil)))
    (.cons (.retW (.call 27 (.val (.frz 5) (.val (.tup (.cons (.str "bad") (.cons (.frz 4) .nil))) .nil))))
    .nil)
    .nil)
    (.cons (.if_ (.or (.not (.op .isi (.cons (.e (.op .idx (.cons (.own 5) (.cons (.e (.int 1)) .nil)))) (.cons (.e (.kst (.ty "tuple"))) .nil)))) (.one (.op .ne (.cons (.own 5) (.cons (.e (.tup (.cons (.str "told") (.cons (.tup (.cons (.frz 2) (.cons (.frz 3) .nil))) .nil)))) .nil)))))
    (.cons (.ret (.bl false))
    .nil)
    .nil)
    (.cons (.ret (.op .eq (.cons (.e (.call 21 (.val (.frz 2) .nil))) (.cons (.e (.slc (.own 0) (.yes (.frz 1)) (.yes (.frz 3)))) .nil))))
    .nil)))))
def b_l_wrong_runs : SL := (.cons (.asg (.nm 2) (.call 26 (.ref 0 (.val (.op .add (.cons (.e (.op .len (.cons (.own 1) .nil))) (.cons (.e (.int 1)) .nil))) .nil))))
    (.cons (.asg (.nm 3) (.call 26 (.ref 0 (.val (.int 3) .nil))))
    (.cons (.if_ (.op .eq (.cons (.own 3) (.cons (.e (.int 0)) .nil)))
    (.cons (.ret (.op .add (.cons (.e (.op .add (.cons (.e (.slc (.own 1) .no (.yes (.frz 2)))) (.cons (.e (.lst (.cons (.tup (.cons (.call 30 (.ref 0 .nil)) (.cons (.int 0) .nil))) .nil))) .nil)))) (.cons (.e (.slc (.own 1) (.yes (.frz 2)) .no)) .nil))))
    .nil)
    .nil)
    (.cons (.if_ (.and (.op .eq (.cons (.own 3) (.cons (.e (.int 1)) .nil))) (.one (.op .gt (.cons (.own 2) (.cons (.e (.int 0)) .nil)))))
    (.cons (.ret (.op .add (.cons (.e (.op .add (.cons (.e (.slc (.own 1) .no (.yes (.frz 2)))) (.cons (.e (.lst (.cons (.tup (.cons (.op .idx (.cons (.e (.op .idx (.cons (.own 1) (.cons (.e (.op .sub (.cons (.own 2) (.cons (.e (.int 1)) .nil)))) .nil)))) (.cons (.e (.int 0)) .nil))) (.cons (.op .add (.cons (.e (.int 1)) (.cons (.e (.call 26 (.ref 0 (.val (.int 3) .nil)))) .nil))) .nil))) .nil))) .nil)))) (.cons (.e (.slc (.own 1) (.yes (.frz 2)) .no)) .nil))))
    .nil)
    .nil)
    (.cons (.ret (.op .add (.cons (.e (.op .add (.cons (.e (.slc (.own 1) .no (.yes (.frz 2)))) (.cons (.e (.lst (.cons (.tup (.cons (.call 30 (.ref 0 .nil)) (.cons (.op .idx (.cons (.e (.lst (.cons (.int 99999) (.cons (.int 100000) (.cons (.int 100001) (.cons (.op .pow (.cons (.e (.int 2)) (.cons (.e (.int 63)) .nil))) .nil)))))) (.cons (.e (.call 26 (.ref 0 (.val (.int 4) .nil)))) .nil))) .nil))) .nil))) .nil)))) (.cons (.e (.slc (.own 1) (.yes (.frz 2)) .no)) .nil))))
    .nil)))))
def b_l_is_guess : SL := (.cons (.asg (.nm 1) (.op .idx (.cons (.e (.lst (.cons .non (.cons (.int 0) (.cons (.int 255) (.cons (.call 26 (.ref 0 (.val (.int 256) .nil))) .nil)))))) (.cons (.e (.call 26 (.ref 0 (.val (.int 4) .nil)))) .nil))))
    (.cons (.asg (.nm 2) (.op .idx (.cons (.e (.lst (.cons (.int 0) (.cons (.int 1) (.cons (.int 600) (.cons (.call 26 (.ref 0 (.val (.int 601) .nil))) .nil)))))) (.cons (.e (.call 26 (.ref 0 (.val (.int 4) .nil)))) .nil))))
    (.cons (.for_ (.nm 3) (.seq (.lst (.cons (.int 0) (.cons (.frz 2) (.cons (.op .add (.cons (.own 2) (.cons (.e (.int 1)) .nil))) (.cons (.op .max2 (.cons (.e (.int 0)) (.cons (.e (.op .sub (.cons (.own 2) (.cons (.e (.int 1)) .nil)))) .nil))) (.cons (.int 100000) (.cons (.call 26 (.ref 0 (.val (.int 100001) .nil))) .nil))))))))
    (.cons (.asg (.nm 4) (.int 0))
    (.cons (.if_ (.and (.op .isnot (.cons (.own 1) (.cons (.e .non) .nil))) (.one (.op .le (.cons (.own 3) (.cons (.own 2) .nil)))))
    (.cons (.asg (.nm 4) (.frz 1))
    .nil)
    .nil)
    (.cons (.if_ (.not (.call 27 (.val (.call 24 (.val (.frz 1) (.val (.frz 3) (.val (.frz 2) .nil)))) (.val (.frz 4) .nil))))
    (.cons (.ret (.bl false))
    .nil)
    .nil)
    .nil))))
    (.cons (.ret (.bl true))
    .nil))))
def b_law : SL := (.cons (.own 1 (.call 25 (.val (.frz 0) .nil)))
    (.cons (.asg (.nm 2) (.call 26 (.ref 1 (.val (.int 4) .nil))))
    (.cons (.asg (.nm 3) (.call 33 (.ref 1 .nil)))
    (.cons (.asg (.nm 4) (.call 34 (.val (.frz 3) .nil)))
    (.cons (.asg (.nm 5) (.call 21 (.val (.frz 4) .nil)))
    (.cons (.asg (.nm 6) (.call 36 (.val (.frz 4) .nil)))
    (.cons (.if_ (.not (.call 27 (.val (.frz 5) (.val (.frz 6) .nil))))
    (.cons (.ret (.bl false))
    .nil)
    .nil)
    (.cons (.asg (.nm 7) (.call 31 (.ref 1 (.val (.int 5) .nil))))
    (.cons (.asg (.nm 8) (.call 31 (.ref 1 (.val (.int 5) .nil))))
    (.cons (.if_ (.op .ne (.cons (.e (.call 38 (.val (.op .add (.cons (.e (.op .add (.cons (.own 7) (.cons (.own 6) .nil)))) (.cons (.own 8) .nil))) (.val (.op .len (.cons (.own 7) .nil)) .nil)))) (.cons (.e (.tup (.cons (.str "told") (.cons (.tup (.cons (.frz 4) (.cons (.op .add (.cons (.e (.op .len (.cons (.own 7) .nil))) (.cons (.e (.op .len (.cons (.own 6) .nil))) .nil))) .nil))) .nil)))) .nil)))
    (.cons (.ret (.bl false))
    .nil)
    .nil)
    (.cons (.for_ (.nm 9) (.rng (.cons (.frz 2) .nil))
    (.cons (.asg (.nm 5) (.call 32 (.ref 1 (.val (.frz 5) .nil))))
    (.cons (.if_ (.not (.call 39 (.val (.op .add (.cons (.e (.op .add (.cons (.own 7) (.cons (.own 5) .nil)))) (.cons (.own 8) .nil))) (.val (.op .len (.cons (.own 7) .nil)) .nil))))
    (.cons (.ret (.bl false))
    .nil)
    .nil)
    .nil)))
    (.cons (.asg (.nm 10) (.lc (.seq (.frz 3)) (.tup [13, 14]) (.yes (.op .lt (.cons (.own 14) (.cons (.e (.int 1000)) .nil)))) (.tup (.cons (.frz 13) (.cons (.frz 14) .nil)))))
    (.cons (.if_ (.not (.call 39 (.val (.op .add (.cons (.own 7) (.cons (.e (.call 35 (.val (.call 40 (.ref 1 (.val (.frz 10) .nil))) .nil))) .nil))) (.val (.op .len (.cons (.own 7) .nil)) .nil))))
    (.cons (.ret (.bl false))
    .nil)
    .nil)
    (.cons (.asg (.nm 11) (.call 31 (.ref 1 (.val (.int 12) .nil))))
    (.cons (.for_ (.nm 12) (.rng (.cons (.op .add (.cons (.e (.op .len (.cons (.own 11) .nil))) (.cons (.e (.int 1)) .nil))) .nil))
    (.cons (.if_ (.not (.call 39 (.val (.frz 11) (.val (.frz 12) .nil))))
    (.cons (.ret (.bl false))
    .nil)
    .nil)
    .nil))
    (.cons (.ret (.and (.call 41 (.ref 1 .nil)) (.one (.op .eq (.cons (.e (.call 21 (.val (.frz 4) .nil))) (.cons (.own 6) .nil))))))
    .nil))))))))))))))))
def tabL : List (Option Fd) := [some ⟨1, 1, b__wall⟩,
  none,
  none,
  some ⟨1, 1, b_is_plain_integer⟩,
  some ⟨3, 3, b_is_between⟩,
  some ⟨1, 1, b_is_input⟩,
  some ⟨1, 1, b_is_tick⟩,
  some ⟨1, 2, b_are_told⟩,
  some ⟨1, 2, b_is_row⟩,
  some ⟨1, 3, b_whole⟩,
  some ⟨2, 6, b_whole_at⟩,
  some ⟨2, 2, b_check_place⟩,
  some ⟨3, 3, b_Reader_init⟩,
  some ⟨1, 1, b_Reader_byte⟩,
  some ⟨1, 2, b_Reader_whole⟩,
  some ⟨1, 1, b_Reader_signed⟩,
  some ⟨2, 2, b_Reader_wholes⟩,
  some ⟨2, 2, b_Reader_signeds⟩,
  some ⟨2, 2, b_Reader_stretch⟩,
  some ⟨1, 1, b_Reader_close⟩,
  some ⟨1, 3, b_runs_of⟩,
  some ⟨1, 5, b_input_row⟩,
  some ⟨1, 7, b_inputs_read⟩,
  some ⟨2, 4, b_read_inputs⟩,
  some ⟨3, 3, b_guess⟩,
  some ⟨1, 2, b_l_hand⟩,
  some ⟨2, 5, b_l_draw⟩,
  some ⟨2, 4, b_l_is⟩,
  some ⟨1, 3, b_l_whole⟩,
  some ⟨2, 5, b_l_read⟩,
  some ⟨1, 1, b_l_byte⟩,
  some ⟨2, 3, b_l_bytes⟩,
  some ⟨2, 4, b_l_spoilt⟩,
  some ⟨1, 5, b_l_runs⟩,
  some ⟨1, 4, b_l_ticks⟩,
  some ⟨1, 4, b_l_run_bytes⟩,
  some ⟨1, 4, b_l_input_bytes⟩,
  some ⟨2, 7, b_l_parsed⟩,
  some ⟨2, 3, b_l_read_told⟩,
  some ⟨2, 6, b_l_is_told⟩,
  some ⟨2, 4, b_l_wrong_runs⟩,
  some ⟨1, 5, b_l_is_guess⟩,
  some ⟨1, 15, b_law⟩]
def tab (i : Nat) : Option Fd := (tabL[i]?).getD none
def fokL : List (Str × Str) := [("Reader", "row"), ("Reader", "at")]
def isaL : List (Str × Str × Bool) := [("WorldError", "BadRow", false), ("WorldError", "WorldError", true), ("NoNumber", "BadRow", false), ("NoNumber", "WorldError", true), ("NoInputs", "BadRow", false), ("NoInputs", "WorldError", true), ("NoRow", "BadRow", false), ("NoRow", "WorldError", true), ("NoPlace", "BadRow", false), ("NoPlace", "WorldError", true), ("BadRow", "BadRow", true), ("BadRow", "WorldError", true)]
def C0 : Ct := { cal := fun _ _ => .stuck, fuel := 100000, isa := fun c d => (isaL.find? fun p => decide (p.1 = c) && decide (p.2.1 = d)).map (·.2.2), fok := fun c f => decide ((c, f) ∈ fokL) }
abbrev cx (m : Nat) : Ct := ctx tab C0 m
section
variable {P : Program} {w : World} {K : PySem.W.Frag} {mg : Str → Option Value} {base : Heap} {m : Nat}
theorem fo (T : Txt K mg) : FldOk K (cx m) := by
  intro c f h
  have h : (c, f) ∈ fokL := of_decide_eq_true h
  have all : ∀ p ∈ fokL, Cls K (ga K p.1) ∧ NoAttr K (ga K p.1) p.2 := by
    intro p hp
    simp only [fokL, List.mem_cons, List.not_mem_nil, or_false] at hp
    rcases hp with rfl | rfl
    · exact ⟨T.c_Reader.cl, T.n_Reader_row⟩
    · exact ⟨T.c_Reader.cl, T.n_Reader_at⟩
  exact all _ h
theorem io (T : Txt K mg) : IsaOk K (cx m) := by
  intro c d b h
  replace h : (isaL.find? fun p => decide (p.1 = c) && decide (p.2.1 = d)).map (·.2.2) = some b := h
  cases z : isaL.find? fun p => decide (p.1 = c) && decide (p.2.1 = d) with
  | none => rw [z] at h; cases h
  | some p =>
    rw [z] at h
    cases h
    have hm := List.mem_of_find?_eq_some z
    have hp := List.find?_some z
    simp only [Bool.and_eq_true, decide_eq_true_eq] at hp
    obtain ⟨rfl, rfl⟩ := hp
    simp only [isaL, List.mem_cons, List.not_mem_nil, or_false] at hm
    rcases hm with rfl | rfl | rfl | rfl | rfl | rfl | rfl | rfl | rfl | rfl | rfl | rfl
    · exact T.m_WorldError_BadRow
    · exact T.m_WorldError_WorldError
    · exact T.m_NoNumber_BadRow
    · exact T.m_NoNumber_WorldError
    · exact T.m_NoInputs_BadRow
    · exact T.m_NoInputs_WorldError
    · exact T.m_NoRow_BadRow
    · exact T.m_NoRow_WorldError
    · exact T.m_NoPlace_BadRow
    · exact T.m_NoPlace_WorldError
    · exact T.m_BadRow_BadRow
    · exact T.m_BadRow_WorldError
theorem ok_WorldError_init (T : Txt K mg) : FnOk P w K mg base CX0 1 (ma K (ga K "WorldError") "__init__") (fdAt K (ma K (ga K "WorldError") "__init__")) ["self"] (spErr0 K) := by
  refine T.d_WorldError_init.F.ok sc_WorldError_init (fun vs H Q E h => ?_) (fun cdv A outer s H vs Q E hr h => ?_)
  · obtain ⟨_, _, rfl, _⟩ := h
    rfl
  · obtain ⟨a, C, rfl, x, e, q⟩ := h
    refine ⟨_, (PSs.nox (pss_one (ps_expr (pe_veinit (by rfl) T.b_ValueError (by rfl) (pa_cons (pv 0) pa_nil))))), ?_⟩
    exact ⟨_, rfl, a, C, [], rfl, by decide, x, e, q⟩
theorem ok_BadRow_init (T : Txt K mg) : FnOk P w K mg base CX0 1 (ma K (ga K "BadRow") "__init__") (fdAt K (ma K (ga K "BadRow") "__init__")) ["self", "place"] (spErrF K "place") := by
  refine T.d_BadRow_init.F.ok sc_BadRow_init (fun vs H Q E h => ?_) (fun cdv A outer s H vs Q E hr h => ?_)
  · obtain ⟨_, _, _, rfl, _⟩ := h
    rfl
  · obtain ⟨a, C, v, rfl, x, na, e, q⟩ := h
    refine ⟨_, (PSs.nox (pss_one (ps_ost (pv 0) (pv 1)))), ?_⟩
    refine ⟨_, rfl, _, rfl, a, C, rfl, x, na, .inl ⟨e, fun dx h1 h2 => ?_⟩⟩
    exact q dx h1 h2
structure Gs (P : Program) (w : World) (K : PySem.W.Frag) (mg : Str → Option Value) (base : Heap) (m : Nat) : Prop where
  g__wall : FnG P w K mg base (L2.CX P w) (2 * m + 2) (ga K "_wall") (fdAt K (ga K "_wall")) ["k"] (spE K (calT tab C0 m 0) 1)
  g_WorldError_init : FnG P w K mg base (L2.CX P w) (2 * m + 2) (ma K (ga K "WorldError") "__init__") (fdAt K (ma K (ga K "WorldError") "__init__")) ["self"] (spE K (calT tab C0 m 1) 1)
  g_BadRow_init : FnG P w K mg base (L2.CX P w) (2 * m + 2) (ma K (ga K "BadRow") "__init__") (fdAt K (ma K (ga K "BadRow") "__init__")) ["self", "place"] (spE K (calT tab C0 m 2) 2)
  g_is_plain_integer : FnG P w K mg base (L2.CX P w) (2 * m + 2) (ga K "is_plain_integer") (fdAt K (ga K "is_plain_integer")) ["thing"] (spE K (calT tab C0 m 3) 1)
  g_is_between : FnG P w K mg base (L2.CX P w) (2 * m + 2) (ga K "is_between") (fdAt K (ga K "is_between")) ["least", "most", "thing"] (spE K (calT tab C0 m 4) 3)
  g_is_input : FnG P w K mg base (L2.CX P w) (2 * m + 2) (ga K "is_input") (fdAt K (ga K "is_input")) ["thing"] (spE K (calT tab C0 m 5) 1)
  g_is_tick : FnG P w K mg base (L2.CX P w) (2 * m + 2) (ga K "is_tick") (fdAt K (ga K "is_tick")) ["thing"] (spE K (calT tab C0 m 6) 1)
  g_are_told : FnG P w K mg base (L2.CX P w) (2 * m + 2) (ga K "are_told") (fdAt K (ga K "are_told")) ["thing"] (spE K (calT tab C0 m 7) 1)
  g_is_row : FnG P w K mg base (L2.CX P w) (2 * m + 2) (ga K "is_row") (fdAt K (ga K "is_row")) ["thing"] (spE K (calT tab C0 m 8) 1)
  g_whole : FnG P w K mg base (L2.CX P w) (2 * m + 2) (ga K "whole") (fdAt K (ga K "whole")) ["number"] (spE K (calT tab C0 m 9) 1)
  g_whole_at : FnG P w K mg base (L2.CX P w) (2 * m + 2) (ga K "whole_at") (fdAt K (ga K "whole_at")) ["row", "at"] (spE K (calT tab C0 m 10) 2)
  g_check_place : FnG P w K mg base (L2.CX P w) (2 * m + 2) (ga K "check_place") (fdAt K (ga K "check_place")) ["row", "at"] (spE K (calT tab C0 m 11) 2)
  g_Reader_init : FnG P w K mg base (L2.CX P w) (2 * m + 2) (ma K (ga K "Reader") "__init__") (fdAt K (ma K (ga K "Reader") "__init__")) ["self", "row", "at"] (spE K (calT tab C0 m 12) 3)
  g_Reader_byte : FnG P w K mg base (L2.CX P w) (2 * m + 2) (ma K (ga K "Reader") "byte") (fdAt K (ma K (ga K "Reader") "byte")) ["self"] (spE K (calT tab C0 m 13) 1)
  g_Reader_whole : FnG P w K mg base (L2.CX P w) (2 * m + 2) (ma K (ga K "Reader") "whole") (fdAt K (ma K (ga K "Reader") "whole")) ["self"] (spE K (calT tab C0 m 14) 1)
  g_Reader_signed : FnG P w K mg base (L2.CX P w) (2 * m + 2) (ma K (ga K "Reader") "signed") (fdAt K (ma K (ga K "Reader") "signed")) ["self"] (spE K (calT tab C0 m 15) 1)
  g_Reader_wholes : FnG P w K mg base (L2.CX P w) (2 * m + 2) (ma K (ga K "Reader") "wholes") (fdAt K (ma K (ga K "Reader") "wholes")) ["self", "many"] (spE K (calT tab C0 m 16) 2)
  g_Reader_signeds : FnG P w K mg base (L2.CX P w) (2 * m + 2) (ma K (ga K "Reader") "signeds") (fdAt K (ma K (ga K "Reader") "signeds")) ["self", "many"] (spE K (calT tab C0 m 17) 2)
  g_Reader_stretch : FnG P w K mg base (L2.CX P w) (2 * m + 2) (ma K (ga K "Reader") "stretch") (fdAt K (ma K (ga K "Reader") "stretch")) ["self", "many"] (spE K (calT tab C0 m 18) 2)
  g_Reader_close : FnG P w K mg base (L2.CX P w) (2 * m + 2) (ma K (ga K "Reader") "close") (fdAt K (ma K (ga K "Reader") "close")) ["self"] (spE K (calT tab C0 m 19) 1)
  g_runs_of : FnG P w K mg base (L2.CX P w) (2 * m + 2) (ga K "runs_of") (fdAt K (ga K "runs_of")) ["inputs"] (spE K (calT tab C0 m 20) 1)
  g_input_row : FnG P w K mg base (L2.CX P w) (2 * m + 2) (ga K "input_row") (fdAt K (ga K "input_row")) ["inputs"] (spE K (calT tab C0 m 21) 1)
  g_inputs_read : FnG P w K mg base (L2.CX P w) (2 * m + 2) (ga K "inputs_read") (fdAt K (ga K "inputs_read")) ["reader"] (spE K (calT tab C0 m 22) 1)
  g_read_inputs : FnG P w K mg base (L2.CX P w) (2 * m + 2) (ga K "read_inputs") (fdAt K (ga K "read_inputs")) ["row", "at"] (spE K (calT tab C0 m 23) 2)
  g_guess : FnG P w K mg base (L2.CX P w) (2 * m + 2) (ga K "guess") (fdAt K (ga K "guess")) ["last", "ago", "hold"] (spE K (calT tab C0 m 24) 3)
  g_l_hand : FnG P w K mg base (L2.CX P w) (2 * m + 2) (ga K "_law_hand") (fdAt K (ga K "_law_hand")) ["_law_script"] (spE K (calT tab C0 m 25) 1)
  g_l_draw : FnG P w K mg base (L2.CX P w) (2 * m + 2) (ga K "_law_draw") (fdAt K (ga K "_law_draw")) ["_law_hand_here", "_law_many"] (spE K (calT tab C0 m 26) 2)
  g_l_is : FnG P w K mg base (L2.CX P w) (2 * m + 2) (ga K "_law_is") (fdAt K (ga K "_law_is")) ["_law_told", "_law_due"] (spE K (calT tab C0 m 27) 2)
  g_l_whole : FnG P w K mg base (L2.CX P w) (2 * m + 2) (ga K "_law_whole") (fdAt K (ga K "_law_whole")) ["_law_number"] (spE K (calT tab C0 m 28) 1)
  g_l_read : FnG P w K mg base (L2.CX P w) (2 * m + 2) (ga K "_law_read") (fdAt K (ga K "_law_read")) ["_law_row", "_law_at"] (spE K (calT tab C0 m 29) 2)
  g_l_byte : FnG P w K mg base (L2.CX P w) (2 * m + 2) (ga K "_law_byte") (fdAt K (ga K "_law_byte")) ["_law_hand_here"] (spE K (calT tab C0 m 30) 1)
  g_l_bytes : FnG P w K mg base (L2.CX P w) (2 * m + 2) (ga K "_law_bytes") (fdAt K (ga K "_law_bytes")) ["_law_hand_here", "_law_most"] (spE K (calT tab C0 m 31) 2)
  g_l_spoilt : FnG P w K mg base (L2.CX P w) (2 * m + 2) (ga K "_law_spoilt") (fdAt K (ga K "_law_spoilt")) ["_law_hand_here", "_law_row"] (spE K (calT tab C0 m 32) 2)
  g_l_runs : FnG P w K mg base (L2.CX P w) (2 * m + 2) (ga K "_law_runs") (fdAt K (ga K "_law_runs")) ["_law_hand_here"] (spE K (calT tab C0 m 33) 1)
  g_l_ticks : FnG P w K mg base (L2.CX P w) (2 * m + 2) (ga K "_law_ticks") (fdAt K (ga K "_law_ticks")) ["_law_runs_here"] (spE K (calT tab C0 m 34) 1)
  g_l_run_bytes : FnG P w K mg base (L2.CX P w) (2 * m + 2) (ga K "_law_run_bytes") (fdAt K (ga K "_law_run_bytes")) ["_law_runs_here"] (spE K (calT tab C0 m 35) 1)
  g_l_input_bytes : FnG P w K mg base (L2.CX P w) (2 * m + 2) (ga K "_law_input_bytes") (fdAt K (ga K "_law_input_bytes")) ["_law_inputs"] (spE K (calT tab C0 m 36) 1)
  g_l_parsed : FnG P w K mg base (L2.CX P w) (2 * m + 2) (ga K "_law_parsed") (fdAt K (ga K "_law_parsed")) ["_law_row", "_law_at"] (spE K (calT tab C0 m 37) 2)
  g_l_read_told : FnG P w K mg base (L2.CX P w) (2 * m + 2) (ga K "_law_read_told") (fdAt K (ga K "_law_read_told")) ["_law_row", "_law_at"] (spE K (calT tab C0 m 38) 2)
  g_l_is_told : FnG P w K mg base (L2.CX P w) (2 * m + 2) (ga K "_law_is_told") (fdAt K (ga K "_law_is_told")) ["_law_row", "_law_at"] (spE K (calT tab C0 m 39) 2)
  g_l_wrong_runs : FnG P w K mg base (L2.CX P w) (2 * m + 2) (ga K "_law_wrong_runs") (fdAt K (ga K "_law_wrong_runs")) ["_law_hand_here", "_law_runs_here"] (spE K (calT tab C0 m 40) 2)
  g_l_is_guess : FnG P w K mg base (L2.CX P w) (2 * m + 2) (ga K "_law_is_guess") (fdAt K (ga K "_law_is_guess")) ["_law_hand_here"] (spE K (calT tab C0 m 41) 1)
  g_law : FnG P w K mg base (L2.CX P w) (2 * m + 2) (ga K "law") (fdAt K (ga K "law")) ["_law_script"] (spE K (calT tab C0 m 42) 1)
theorem t__wall (T : Txt K mg) (G : Gs P w K mg base m) (FO : FldOk K (cx m)) (IO : IsaOk K (cx m)) (cdv : Value) (A : Around) (outer : List Env) (s : Shared) (H : Hp) (E : XK) (pn : Nat → Bool) (hgd : A.guards = some []) (hr : Room (2 * m + 3) (A.deeper (envOfC "_wall" (defScope s__wall) s.heap.objs.size (ga K "_wall") cdv))) :
    SSs (cxOf (L2.CX P w) P w K mg base ["k"] "_wall" (defScope s__wall) (ga K "_wall") cdv A outer s H E) (fun cls d _ H => E cls d H) pn (defBody s__wall) (evSL (cx m) pn b__wall) :=
  (ss_cons (ss_while (passes_of rfl) (x_t snd_bl)
    (ss_cons ss_pass
    ss_nil))
    ss_nil)
theorem t_is_plain_integer (T : Txt K mg) (G : Gs P w K mg base m) (FO : FldOk K (cx m)) (IO : IsaOk K (cx m)) (cdv : Value) (A : Around) (outer : List Env) (s : Shared) (H : Hp) (E : XK) (pn : Nat → Bool) (hgd : A.guards = some []) (hr : Room (2 * m + 3) (A.deeper (envOfC "is_plain_integer" (defScope s_is_plain_integer) s.heap.objs.size (ga K "is_plain_integer") cdv))) :
    SSs (cxOf (L2.CX P w) P w K mg base ["thing"] "is_plain_integer" (defScope s_is_plain_integer) (ga K "is_plain_integer") cdv A outer s H E) (fun cls d _ H => E cls d H) pn (defBody s_is_plain_integer) (evSL (cx m) pn b_is_plain_integer) :=
  (ss_cons (ss_ret (snd_and (x_bt clr_isi T.b_isinstance (x_consO (x_o 0) (x_consO (snd_opd (snd_kst (pe_ty "int" T.b_int) (fun _ _ => by rw [rd]))) snd_nilO))) (snd_one (snd_not (x_bt clr_isi T.b_isinstance (x_consO (x_o 0) (x_consO (snd_opd (snd_kst (pe_ty "bool" T.b_bool) (fun _ _ => by rw [rd]))) snd_nilO)))))))
    ss_nil)
theorem t_is_between (T : Txt K mg) (G : Gs P w K mg base m) (FO : FldOk K (cx m)) (IO : IsaOk K (cx m)) (cdv : Value) (A : Around) (outer : List Env) (s : Shared) (H : Hp) (E : XK) (pn : Nat → Bool) (hgd : A.guards = some []) (hr : Room (2 * m + 3) (A.deeper (envOfC "is_between" (defScope s_is_between) s.heap.objs.size (ga K "is_between") cdv))) :
    SSs (cxOf (L2.CX P w) P w K mg base ["least", "most", "thing"] "is_between" (defScope s_is_between) (ga K "is_between") cdv A outer s H E) (fun cls d _ H => E cls d H) pn (defBody s_is_between) (evSL (cx m) pn b_is_between) :=
  (ss_cons (ss_ret (snd_and (x_call T.d_is_plain_integer (G.g_is_plain_integer) hgd (hr.mono (by omega)) (takes_of rfl rfl rfl rfl) (x_val (x_fz 2) snd_nilA)) (snd_one (x_chain opr_le opr_le (x_fz 0) (x_fz 2) (x_fz 1)))))
    ss_nil)
theorem t_is_input (T : Txt K mg) (G : Gs P w K mg base m) (FO : FldOk K (cx m)) (IO : IsaOk K (cx m)) (cdv : Value) (A : Around) (outer : List Env) (s : Shared) (H : Hp) (E : XK) (pn : Nat → Bool) (hgd : A.guards = some []) (hr : Room (2 * m + 3) (A.deeper (envOfC "is_input" (defScope s_is_input) s.heap.objs.size (ga K "is_input") cdv))) :
    SSs (cxOf (L2.CX P w) P w K mg base ["thing"] "is_input" (defScope s_is_input) (ga K "is_input") cdv A outer s H E) (fun cls d _ H => E cls d H) pn (defBody s_is_input) (evSL (cx m) pn b_is_input) :=
  (ss_cons (ss_retW (x_callW T.d_is_between (G.g_is_between) hgd (hr.mono (by omega)) (takes_of rfl rfl rfl rfl) (x_val snd_int (x_val (snd_kst (pe_kint T.k_MOST_INPUT) (fun _ _ => rd_int)) (x_val (x_fz 0) snd_nilA)))))
    ss_nil)
theorem t_is_tick (T : Txt K mg) (G : Gs P w K mg base m) (FO : FldOk K (cx m)) (IO : IsaOk K (cx m)) (cdv : Value) (A : Around) (outer : List Env) (s : Shared) (H : Hp) (E : XK) (pn : Nat → Bool) (hgd : A.guards = some []) (hr : Room (2 * m + 3) (A.deeper (envOfC "is_tick" (defScope s_is_tick) s.heap.objs.size (ga K "is_tick") cdv))) :
    SSs (cxOf (L2.CX P w) P w K mg base ["thing"] "is_tick" (defScope s_is_tick) (ga K "is_tick") cdv A outer s H E) (fun cls d _ H => E cls d H) pn (defBody s_is_tick) (evSL (cx m) pn b_is_tick) :=
  (ss_cons (ss_retW (x_callW T.d_is_between (G.g_is_between) hgd (hr.mono (by omega)) (takes_of rfl rfl rfl rfl) (x_val snd_int (x_val (snd_kst (pe_kint T.k_MOST_TICKS) (fun _ _ => rd_int)) (x_val (x_fz 0) snd_nilA)))))
    ss_nil)
theorem t_are_told (T : Txt K mg) (G : Gs P w K mg base m) (FO : FldOk K (cx m)) (IO : IsaOk K (cx m)) (cdv : Value) (A : Around) (outer : List Env) (s : Shared) (H : Hp) (E : XK) (pn : Nat → Bool) (hgd : A.guards = some []) (hr : Room (2 * m + 3) (A.deeper (envOfC "are_told" (defScope s_are_told) s.heap.objs.size (ga K "are_told") cdv))) :
    SSs (cxOf (L2.CX P w) P w K mg base ["thing", "one"] "are_told" (defScope s_are_told) (ga K "are_told") cdv A outer s H E) (fun cls d _ H => E cls d H) pn (defBody s_are_told) (evSL (cx m) pn b_are_told) :=
  (ss_cons (ss_ret (snd_and (x_bt clr_isi T.b_isinstance (x_consO (x_o 0) (x_consO (snd_opd (snd_kst (pe_ty "tuple" T.b_tuple) (fun _ _ => by rw [rd]))) snd_nilO))) (snd_and (x_cmp opr_le (snd_opd (x_bt clr_len T.b_len (x_consO (x_o 0) snd_nilO))) (snd_opd (snd_kst (pe_kint T.k_MOST_TICKS) (fun _ _ => rd_int)))) (snd_one (x_bt (clr_all rfl) T.b_all (x_consO (snd_opd (snd_lc (own := [("one", 1)]) (t := (.nm 1)) (by rfl) sc_are_told.nd (sit_seq (x_fz 0)) (blkOk_by (own := [("one", 1)]) (N := ["thing", "one"]) (sc := defScope s_are_told) (by decide +kernel)) (by rfl) (fun _ z => by cases z) (fun _ _ _ _ _ => (x_gn 1 sc_are_told.nd)) (fun _ _ _ _ _ => ifs_no) (fun _ _ _ _ _ => (x_call T.d_is_input (G.g_is_input) hgd (hr.mono (by omega)) takesN (x_val (x_fz 1) snd_nilA))) (by intro _; rfl))) snd_nilO))))))
    ss_nil)
theorem t_is_row (T : Txt K mg) (G : Gs P w K mg base m) (FO : FldOk K (cx m)) (IO : IsaOk K (cx m)) (cdv : Value) (A : Around) (outer : List Env) (s : Shared) (H : Hp) (E : XK) (pn : Nat → Bool) (hgd : A.guards = some []) (hr : Room (2 * m + 3) (A.deeper (envOfC "is_row" (defScope s_is_row) s.heap.objs.size (ga K "is_row") cdv))) :
    SSs (cxOf (L2.CX P w) P w K mg base ["thing", "byte"] "is_row" (defScope s_is_row) (ga K "is_row") cdv A outer s H E) (fun cls d _ H => E cls d H) pn (defBody s_is_row) (evSL (cx m) pn b_is_row) :=
  (ss_cons (ss_if (x_w (snd_orT (snd_notT (x_t (x_bt clr_isi T.b_isinstance (x_consO (x_o 0) (x_consO (snd_opd (snd_kst (pe_ty "tuple" T.b_tuple) (fun _ _ => by rw [rd]))) snd_nilO))))) (snd_oneT (x_cmpT opr_gt (snd_opd (x_bt clr_len T.b_len (x_consO (x_o 0) snd_nilO))) (snd_opd (snd_kst (pe_kint T.k_MOST_BYTES) (fun _ _ => rd_int)))))))
    (ss_cons (ss_ret snd_bl)
    ss_nil)
    ss_nil)
    (ss_cons (x_for (t := (.nm 1)) (passes_of rfl) (sit_seq (x_fz 0)) (x_gn 1 sc_is_row.nd)
    (ss_cons (ss_if (x_w (snd_orT (snd_notT (x_t (x_bt clr_isi T.b_isinstance (x_consO (x_o 1) (x_consO (snd_opd (snd_kst (pe_ty "int" T.b_int) (fun _ _ => by rw [rd]))) snd_nilO))))) (snd_orT (x_t (x_bt clr_isi T.b_isinstance (x_consO (x_o 1) (x_consO (snd_opd (snd_kst (pe_ty "bool" T.b_bool) (fun _ _ => by rw [rd]))) snd_nilO)))) (snd_orT (x_cmpT opr_lt (x_o 1) (snd_opd snd_int)) (snd_oneT (x_cmpT opr_gt (x_o 1) (snd_opd (snd_kst (pe_kint T.k_MOST_BYTE) (fun _ _ => rd_int)))))))))
    (ss_cons (ss_ret snd_bl)
    ss_nil)
    ss_nil)
    ss_nil))
    (ss_cons (ss_ret snd_bl)
    ss_nil)))
theorem t_whole (T : Txt K mg) (G : Gs P w K mg base m) (FO : FldOk K (cx m)) (IO : IsaOk K (cx m)) (cdv : Value) (A : Around) (outer : List Env) (s : Shared) (H : Hp) (E : XK) (pn : Nat → Bool) (hgd : A.guards = some []) (hr : Room (2 * m + 3) (A.deeper (envOfC "whole" (defScope s_whole) s.heap.objs.size (ga K "whole") cdv))) :
    SSs (cxOf (L2.CX P w) P w K mg base ["number", "figures", "left"] "whole" (defScope s_whole) (ga K "whole") cdv A outer s H E) (fun cls d _ H => E cls d H) pn (defBody s_whole) (evSL (cx m) pn b_whole) :=
  (ss_cons (ss_if (snd_notT (x_t (x_call T.d_is_between (G.g_is_between) hgd (hr.mono (by omega)) (takes_of rfl rfl rfl rfl) (x_val snd_int (x_val (snd_kst (pe_kint T.k_MOST_WHOLE) (fun _ _ => rd_int)) (x_val (x_fz 0) snd_nilA))))))
    (ss_cons (ss_raise0 rfl (takes_of rfl rfl rfl rfl) T.x_NoNumber T.i_NoNumber (ok_WorldError_init T) (hr.mono (by omega)) T.d_WorldError_init.b pass0 T.g_NoNumber (by rfl) (by decide))
    ss_nil)
    ss_nil)
    (ss_cons (x_own 1 sc_whole.nd (swv_lst snd_nilL))
    (ss_cons (x_set 2 sc_whole.nd (x_fz 0))
    (ss_cons (ss_while (passes_of rfl) (x_cmpT opr_ge (x_o 2) (snd_opd (snd_kst (pe_kint T.k_FIGURES) (fun _ _ => rd_int))))
    (ss_cons (x_expr (x_mut 1 PySem.F.slot_list_append PySem.F.type_list_append mu_append (x_cons (snd_bin opr_add (snd_opd (snd_bin opr_mod (x_o 2) (snd_opd (snd_kst (pe_kint T.k_FIGURES) (fun _ _ => rd_int))))) (snd_opd (snd_kst (pe_kint T.k_FIGURES) (fun _ _ => rd_int)))) snd_nilL)))
    (ss_cons (x_set 2 sc_whole.nd (snd_bin opr_fdiv (x_o 2) (snd_opd (snd_kst (pe_kint T.k_FIGURES) (fun _ _ => rd_int)))))
    ss_nil)))
    (ss_cons (ss_ret (snd_dispT (x_starS (x_fz 1) (x_consS (x_fz 2) snd_nilS))))
    ss_nil)))))
theorem t_whole_at (T : Txt K mg) (G : Gs P w K mg base m) (FO : FldOk K (cx m)) (IO : IsaOk K (cx m)) (cdv : Value) (A : Around) (outer : List Env) (s : Shared) (H : Hp) (E : XK) (pn : Nat → Bool) (hgd : A.guards = some []) (hr : Room (2 * m + 3) (A.deeper (envOfC "whole_at" (defScope s_whole_at) s.heap.objs.size (ga K "whole_at") cdv))) :
    SSs (cxOf (L2.CX P w) P w K mg base ["row", "at", "number", "worth", "place", "byte"] "whole_at" (defScope s_whole_at) (ga K "whole_at") cdv A outer s H E) (fun cls d _ H => E cls d H) pn (defBody s_whole_at) (evSL (cx m) pn b_whole_at) :=
  (ss_cons (x_set 2 sc_whole_at.nd snd_int)
    (ss_cons (x_set 3 sc_whole_at.nd snd_int)
    (ss_cons (x_for (t := (.nm 4)) (passes_of rfl) (sit_rng2 (by rfl) T.b_range (x_cons (x_fz 1) (x_cons (x_bt (clr_min2 rfl) T.b_min (x_consO (snd_opd (snd_bin opr_add (x_o 1) (snd_opd (snd_kst (pe_kint T.k_MOST_FIGURES) (fun _ _ => rd_int))))) (x_consO (snd_opd (x_bt clr_len T.b_len (x_consO (x_o 0) snd_nilO))) snd_nilO))) snd_nilL)) (by rfl) (by rfl) (by rfl)) (x_gn 4 sc_whole_at.nd)
    (ss_cons (x_set 5 sc_whole_at.nd (x_idx (x_o 0) (x_o 4)))
    (ss_cons (x_set 2 sc_whole_at.nd (snd_bin opr_add (x_o 2) (snd_opd (snd_bin opr_mul (snd_opd (snd_bin opr_mod (x_o 5) (snd_opd (snd_kst (pe_kint T.k_FIGURES) (fun _ _ => rd_int))))) (x_o 3)))))
    (ss_cons (x_set 3 sc_whole_at.nd (snd_bin opr_mul (x_o 3) (snd_opd (snd_kst (pe_kint T.k_FIGURES) (fun _ _ => rd_int)))))
    (ss_cons (ss_if (x_cmpT opr_lt (x_o 5) (snd_opd (snd_kst (pe_kint T.k_FIGURES) (fun _ _ => rd_int))))
    (ss_cons (ss_if (x_w (snd_orT (x_cmpT opr_gt (x_o 2) (snd_opd (snd_kst (pe_kint T.k_MOST_WHOLE) (fun _ _ => rd_int)))) (snd_oneT (x_w (snd_andT (x_cmpT (opr_eq hr.u64) (x_o 5) (snd_opd snd_int)) (snd_oneT (x_cmpT opr_gt (x_o 4) (x_o 1))))))))
    (ss_cons (ss_raise1 rfl (takes_of rfl rfl rfl rfl) T.x_BadRow T.n_BadRow_place T.i_BadRow (ok_BadRow_init T) (hr.mono (by omega)) T.d_BadRow_init.b pass0 T.g_BadRow (by rfl) (by decide) (by rfl) (by rfl) (x_cons (x_fz 1) snd_nilL))
    ss_nil)
    ss_nil)
    (ss_cons (ss_ret (snd_tup (x_cons (x_fz 2) (x_cons (snd_bin opr_add (x_o 4) (snd_opd snd_int)) snd_nilL))))
    ss_nil))
    ss_nil)
    ss_nil)))))
    (ss_cons (ss_raise1 rfl (takes_of rfl rfl rfl rfl) T.x_BadRow T.n_BadRow_place T.i_BadRow (ok_BadRow_init T) (hr.mono (by omega)) T.d_BadRow_init.b pass0 T.g_BadRow (by rfl) (by decide) (by rfl) (by rfl) (x_cons (x_fz 1) snd_nilL))
    ss_nil))))
theorem t_check_place (T : Txt K mg) (G : Gs P w K mg base m) (FO : FldOk K (cx m)) (IO : IsaOk K (cx m)) (cdv : Value) (A : Around) (outer : List Env) (s : Shared) (H : Hp) (E : XK) (pn : Nat → Bool) (hgd : A.guards = some []) (hr : Room (2 * m + 3) (A.deeper (envOfC "check_place" (defScope s_check_place) s.heap.objs.size (ga K "check_place") cdv))) :
    SSs (cxOf (L2.CX P w) P w K mg base ["row", "at"] "check_place" (defScope s_check_place) (ga K "check_place") cdv A outer s H E) (fun cls d _ H => E cls d H) pn (defBody s_check_place) (evSL (cx m) pn b_check_place) :=
  (ss_cons (ss_if (snd_notT (x_t (x_call T.d_is_row (G.g_is_row) hgd (hr.mono (by omega)) (takes_of rfl rfl rfl rfl) (x_val (x_fz 0) snd_nilA))))
    (ss_cons (ss_raise0 rfl (takes_of rfl rfl rfl rfl) T.x_NoRow T.i_NoRow (ok_WorldError_init T) (hr.mono (by omega)) T.d_WorldError_init.b pass0 T.g_NoRow (by rfl) (by decide))
    ss_nil)
    ss_nil)
    (ss_cons (ss_if (snd_notT (x_t (x_call T.d_is_between (G.g_is_between) hgd (hr.mono (by omega)) (takes_of rfl rfl rfl rfl) (x_val snd_int (x_val (x_bt clr_len T.b_len (x_consO (x_o 0) snd_nilO)) (x_val (x_fz 1) snd_nilA))))))
    (ss_cons (ss_raise0 rfl (takes_of rfl rfl rfl rfl) T.x_NoPlace T.i_NoPlace (ok_WorldError_init T) (hr.mono (by omega)) T.d_WorldError_init.b pass0 T.g_NoPlace (by rfl) (by decide))
    ss_nil)
    ss_nil)
    ss_nil))
theorem t_Reader_init (T : Txt K mg) (G : Gs P w K mg base m) (FO : FldOk K (cx m)) (IO : IsaOk K (cx m)) (cdv : Value) (A : Around) (outer : List Env) (s : Shared) (H : Hp) (E : XK) (pn : Nat → Bool) (hgd : A.guards = some []) (hr : Room (2 * m + 3) (A.deeper (envOfC ("Reader" ++ ⟨#[46]⟩ ++ "__init__") (defScope s_Reader_init) s.heap.objs.size (ma K (ga K "Reader") "__init__") cdv))) :
    SSs (cxOf (L2.CX P w) P w K mg base ["self", "row", "at"] ("Reader" ++ ⟨#[46]⟩ ++ "__init__") (defScope s_Reader_init) (ma K (ga K "Reader") "__init__") cdv A outer s H E) (fun cls d _ H => E cls d H) pn (defBody s_Reader_init) (evSL (cx m) pn b_Reader_init) :=
  (ss_cons (x_setf 0 FO (x_fz 1))
    (ss_cons (x_setf 0 FO (x_fz 2))
    ss_nil))
theorem t_Reader_byte (T : Txt K mg) (G : Gs P w K mg base m) (FO : FldOk K (cx m)) (IO : IsaOk K (cx m)) (cdv : Value) (A : Around) (outer : List Env) (s : Shared) (H : Hp) (E : XK) (pn : Nat → Bool) (hgd : A.guards = some []) (hr : Room (2 * m + 3) (A.deeper (envOfC ("Reader" ++ ⟨#[46]⟩ ++ "byte") (defScope s_Reader_byte) s.heap.objs.size (ma K (ga K "Reader") "byte") cdv))) :
    SSs (cxOf (L2.CX P w) P w K mg base ["self"] ("Reader" ++ ⟨#[46]⟩ ++ "byte") (defScope s_Reader_byte) (ma K (ga K "Reader") "byte") cdv A outer s H E) (fun cls d _ H => E cls d H) pn (defBody s_Reader_byte) (evSL (cx m) pn b_Reader_byte) :=
  (ss_cons (ss_if (x_cmpT (opr_eq hr.u64) (snd_opd (x_fld FO (x_o 0))) (snd_opd (x_bt clr_len T.b_len (x_consO (snd_opd (x_fld FO (x_o 0))) snd_nilO))))
    (ss_cons (ss_raise1 rfl (takes_of rfl rfl rfl rfl) T.x_BadRow T.n_BadRow_place T.i_BadRow (ok_BadRow_init T) (hr.mono (by omega)) T.d_BadRow_init.b pass0 T.g_BadRow (by rfl) (by decide) (by rfl) (by rfl) (x_cons (x_fld FO (x_o 0)) snd_nilL))
    ss_nil)
    ss_nil)
    (ss_cons (x_setf 0 FO (snd_bin opr_add (snd_opd (x_fld FO (x_o 0))) (snd_opd snd_int)))
    (ss_cons (ss_ret (x_idx (snd_opd (x_fld FO (x_o 0))) (snd_opd (snd_bin opr_sub (snd_opd (x_fld FO (x_o 0))) (snd_opd snd_int)))))
    ss_nil)))
theorem t_Reader_whole (T : Txt K mg) (G : Gs P w K mg base m) (FO : FldOk K (cx m)) (IO : IsaOk K (cx m)) (cdv : Value) (A : Around) (outer : List Env) (s : Shared) (H : Hp) (E : XK) (pn : Nat → Bool) (hgd : A.guards = some []) (hr : Room (2 * m + 3) (A.deeper (envOfC ("Reader" ++ ⟨#[46]⟩ ++ "whole") (defScope s_Reader_whole) s.heap.objs.size (ma K (ga K "Reader") "whole") cdv))) :
    SSs (cxOf (L2.CX P w) P w K mg base ["self", "number"] ("Reader" ++ ⟨#[46]⟩ ++ "whole") (defScope s_Reader_whole) (ma K (ga K "Reader") "whole") cdv A outer s H E) (fun cls d _ H => E cls d H) pn (defBody s_Reader_whole) (evSL (cx m) pn b_Reader_whole) :=
  (ss_cons (x_asgf 1 0 FO (x_call T.d_whole_at (G.g_whole_at) hgd (hr.mono (by omega)) (takes_of rfl rfl rfl rfl) (x_val (x_fld FO (x_o 0)) (x_val (x_fld FO (x_o 0)) snd_nilA))) (pg_tup (by rfl) (pgs_cons (x_gn 1 sc_Reader_whole.nd) (pgs_cons (x_ga 0) pgs_nil))))
    (ss_cons (ss_ret (x_fz 1))
    ss_nil))
theorem t_Reader_signed (T : Txt K mg) (G : Gs P w K mg base m) (FO : FldOk K (cx m)) (IO : IsaOk K (cx m)) (cdv : Value) (A : Around) (outer : List Env) (s : Shared) (H : Hp) (E : XK) (pn : Nat → Bool) (hgd : A.guards = some []) (hr : Room (2 * m + 3) (A.deeper (envOfC ("Reader" ++ ⟨#[46]⟩ ++ "signed") (defScope s_Reader_signed) s.heap.objs.size (ma K (ga K "Reader") "signed") cdv))) :
    SSs (cxOf (L2.CX P w) P w K mg base ["self"] ("Reader" ++ ⟨#[46]⟩ ++ "signed") (defScope s_Reader_signed) (ma K (ga K "Reader") "signed") cdv A outer s H E) (fun cls d _ H => E cls d H) pn (defBody s_Reader_signed) (evSL (cx m) pn b_Reader_signed) :=
  (ss_cons (x_expr (x_call T.d__wall (G.g__wall) hgd (hr.mono (by omega)) (takes_of rfl rfl rfl rfl) (x_val snd_int snd_nilA)))
    ss_nil)
theorem t_Reader_wholes (T : Txt K mg) (G : Gs P w K mg base m) (FO : FldOk K (cx m)) (IO : IsaOk K (cx m)) (cdv : Value) (A : Around) (outer : List Env) (s : Shared) (H : Hp) (E : XK) (pn : Nat → Bool) (hgd : A.guards = some []) (hr : Room (2 * m + 3) (A.deeper (envOfC ("Reader" ++ ⟨#[46]⟩ ++ "wholes") (defScope s_Reader_wholes) s.heap.objs.size (ma K (ga K "Reader") "wholes") cdv))) :
    SSs (cxOf (L2.CX P w) P w K mg base ["self", "many"] ("Reader" ++ ⟨#[46]⟩ ++ "wholes") (defScope s_Reader_wholes) (ma K (ga K "Reader") "wholes") cdv A outer s H E) (fun cls d _ H => E cls d H) pn (defBody s_Reader_wholes) (evSL (cx m) pn b_Reader_wholes) :=
  (ss_cons (x_expr (x_call T.d__wall (G.g__wall) hgd (hr.mono (by omega)) (takes_of rfl rfl rfl rfl) (x_val snd_int snd_nilA)))
    ss_nil)
theorem t_Reader_signeds (T : Txt K mg) (G : Gs P w K mg base m) (FO : FldOk K (cx m)) (IO : IsaOk K (cx m)) (cdv : Value) (A : Around) (outer : List Env) (s : Shared) (H : Hp) (E : XK) (pn : Nat → Bool) (hgd : A.guards = some []) (hr : Room (2 * m + 3) (A.deeper (envOfC ("Reader" ++ ⟨#[46]⟩ ++ "signeds") (defScope s_Reader_signeds) s.heap.objs.size (ma K (ga K "Reader") "signeds") cdv))) :
    SSs (cxOf (L2.CX P w) P w K mg base ["self", "many"] ("Reader" ++ ⟨#[46]⟩ ++ "signeds") (defScope s_Reader_signeds) (ma K (ga K "Reader") "signeds") cdv A outer s H E) (fun cls d _ H => E cls d H) pn (defBody s_Reader_signeds) (evSL (cx m) pn b_Reader_signeds) :=
  (ss_cons (x_expr (x_call T.d__wall (G.g__wall) hgd (hr.mono (by omega)) (takes_of rfl rfl rfl rfl) (x_val snd_int snd_nilA)))
    ss_nil)
theorem t_Reader_stretch (T : Txt K mg) (G : Gs P w K mg base m) (FO : FldOk K (cx m)) (IO : IsaOk K (cx m)) (cdv : Value) (A : Around) (outer : List Env) (s : Shared) (H : Hp) (E : XK) (pn : Nat → Bool) (hgd : A.guards = some []) (hr : Room (2 * m + 3) (A.deeper (envOfC ("Reader" ++ ⟨#[46]⟩ ++ "stretch") (defScope s_Reader_stretch) s.heap.objs.size (ma K (ga K "Reader") "stretch") cdv))) :
    SSs (cxOf (L2.CX P w) P w K mg base ["self", "many"] ("Reader" ++ ⟨#[46]⟩ ++ "stretch") (defScope s_Reader_stretch) (ma K (ga K "Reader") "stretch") cdv A outer s H E) (fun cls d _ H => E cls d H) pn (defBody s_Reader_stretch) (evSL (cx m) pn b_Reader_stretch) :=
  (ss_cons (x_expr (x_call T.d__wall (G.g__wall) hgd (hr.mono (by omega)) (takes_of rfl rfl rfl rfl) (x_val snd_int snd_nilA)))
    ss_nil)
theorem t_Reader_close (T : Txt K mg) (G : Gs P w K mg base m) (FO : FldOk K (cx m)) (IO : IsaOk K (cx m)) (cdv : Value) (A : Around) (outer : List Env) (s : Shared) (H : Hp) (E : XK) (pn : Nat → Bool) (hgd : A.guards = some []) (hr : Room (2 * m + 3) (A.deeper (envOfC ("Reader" ++ ⟨#[46]⟩ ++ "close") (defScope s_Reader_close) s.heap.objs.size (ma K (ga K "Reader") "close") cdv))) :
    SSs (cxOf (L2.CX P w) P w K mg base ["self"] ("Reader" ++ ⟨#[46]⟩ ++ "close") (defScope s_Reader_close) (ma K (ga K "Reader") "close") cdv A outer s H E) (fun cls d _ H => E cls d H) pn (defBody s_Reader_close) (evSL (cx m) pn b_Reader_close) :=
  (ss_cons (ss_if (x_cmpT opr_lt (snd_opd (x_fld FO (x_o 0))) (snd_opd (x_bt clr_len T.b_len (x_consO (snd_opd (x_fld FO (x_o 0))) snd_nilO))))
    (ss_cons (ss_raise1 rfl (takes_of rfl rfl rfl rfl) T.x_BadRow T.n_BadRow_place T.i_BadRow (ok_BadRow_init T) (hr.mono (by omega)) T.d_BadRow_init.b pass0 T.g_BadRow (by rfl) (by decide) (by rfl) (by rfl) (x_cons (x_fld FO (x_o 0)) snd_nilL))
    ss_nil)
    ss_nil)
    ss_nil)
theorem t_runs_of (T : Txt K mg) (G : Gs P w K mg base m) (FO : FldOk K (cx m)) (IO : IsaOk K (cx m)) (cdv : Value) (A : Around) (outer : List Env) (s : Shared) (H : Hp) (E : XK) (pn : Nat → Bool) (hgd : A.guards = some []) (hr : Room (2 * m + 3) (A.deeper (envOfC "runs_of" (defScope s_runs_of) s.heap.objs.size (ga K "runs_of") cdv))) :
    SSs (cxOf (L2.CX P w) P w K mg base ["inputs", "runs", "one"] "runs_of" (defScope s_runs_of) (ga K "runs_of") cdv A outer s H E) (fun cls d _ H => E cls d H) pn (defBody s_runs_of) (evSL (cx m) pn b_runs_of) :=
  (ss_cons (x_own 1 sc_runs_of.nd (swv_lst snd_nilL))
    (ss_cons (x_for (t := (.nm 2)) (passes_of rfl) (sit_seq (x_fz 0)) (x_gn 2 sc_runs_of.nd)
    (ss_cons (ss_if (x_w (snd_andT (x_tru 1) (snd_oneT (x_cmpT (opr_eq hr.u64) (snd_opd (x_ix2 1 (snd_neg (snd_opd snd_int)) pe_int)) (x_o 2)))))
    (ss_cons (x_set2 1 (snd_bin opr_add (snd_opd (x_ix2 1 (snd_neg (snd_opd snd_int)) pe_int)) (snd_opd snd_int)) (snd_neg (snd_opd snd_int)) pe_int)
    ss_nil)
    (ss_cons (x_app2 1 (swv_lst (x_cons (x_fz 2) (x_cons snd_int snd_nilL))) rfl)
    ss_nil))
    ss_nil))
    (ss_cons (x_retO 1)
    ss_nil)))
theorem t_input_row (T : Txt K mg) (G : Gs P w K mg base m) (FO : FldOk K (cx m)) (IO : IsaOk K (cx m)) (cdv : Value) (A : Around) (outer : List Env) (s : Shared) (H : Hp) (E : XK) (pn : Nat → Bool) (hgd : A.guards = some []) (hr : Room (2 * m + 3) (A.deeper (envOfC "input_row" (defScope s_input_row) s.heap.objs.size (ga K "input_row") cdv))) :
    SSs (cxOf (L2.CX P w) P w K mg base ["inputs", "runs", "row", "one", "many"] "input_row" (defScope s_input_row) (ga K "input_row") cdv A outer s H E) (fun cls d _ H => E cls d H) pn (defBody s_input_row) (evSL (cx m) pn b_input_row) :=
  (ss_cons (ss_if (snd_notT (x_t (x_call T.d_are_told (G.g_are_told) hgd (hr.mono (by omega)) (takes_of rfl rfl rfl rfl) (x_val (x_fz 0) snd_nilA))))
    (ss_cons (ss_raise0 rfl (takes_of rfl rfl rfl rfl) T.x_NoInputs T.i_NoInputs (ok_WorldError_init T) (hr.mono (by omega)) T.d_WorldError_init.b pass0 T.g_NoInputs (by rfl) (by decide))
    ss_nil)
    ss_nil)
    (ss_cons (x_set 1 sc_input_row.nd (x_call T.d_runs_of (G.g_runs_of) hgd (hr.mono (by omega)) (takes_of rfl rfl rfl rfl) (x_val (x_fz 0) snd_nilA)))
    (ss_cons (x_own 2 sc_input_row.nd (swv_disp (x_starS (x_call T.d_whole (G.g_whole) hgd (hr.mono (by omega)) (takes_of rfl rfl rfl rfl) (x_val (x_bt clr_len T.b_len (x_consO (x_o 1) snd_nilO)) snd_nilA)) snd_nilS)))
    (ss_cons (x_for (t := (.tup [3, 4])) (passes_of rfl) (sit_seq (x_fz 1)) (pg_any (by rfl) (pgs_cons (x_gn 3 sc_input_row.nd) (pgs_cons (x_gn 4 sc_input_row.nd) pgs_nil)))
    (ss_cons (x_expr (x_mut 2 PySem.F.slot_list_append PySem.F.type_list_append mu_append (x_cons (x_fz 3) snd_nilL)))
    (ss_cons (x_expr (x_mut 2 PySem.F.slot_list_extend PySem.F.type_list_extend mu_extend (x_cons (x_call T.d_whole (G.g_whole) hgd (hr.mono (by omega)) (takes_of rfl rfl rfl rfl) (x_val (x_fz 4) snd_nilA)) snd_nilL)))
    ss_nil)))
    (ss_cons (ss_ret (x_ty clr_tuple T.b_tuple (x_consO (x_o 2) snd_nilO)))
    ss_nil)))))
theorem t_inputs_read (T : Txt K mg) (G : Gs P w K mg base m) (FO : FldOk K (cx m)) (IO : IsaOk K (cx m)) (cdv : Value) (A : Around) (outer : List Env) (s : Shared) (H : Hp) (E : XK) (pn : Nat → Bool) (hgd : A.guards = some []) (hr : Room (2 * m + 3) (A.deeper (envOfC "inputs_read" (defScope s_inputs_read) s.heap.objs.size (ga K "inputs_read") cdv))) :
    SSs (cxOf (L2.CX P w) P w K mg base ["reader", "inputs", "last", "_", "place", "one", "many"] "inputs_read" (defScope s_inputs_read) (ga K "inputs_read") cdv A outer s H E) (fun cls d _ H => E cls d H) pn (defBody s_inputs_read) (evSL (cx m) pn b_inputs_read) :=
  (ss_cons (x_own 1 sc_inputs_read.nd (swv_lst snd_nilL))
    (ss_cons (x_set 2 sc_inputs_read.nd snd_non)
    (ss_cons (x_for (t := (.nm 3)) (passes_of rfl) (sit_rng1 (by rfl) T.b_range (x_cons (x_meth0 T.c_Reader.cl T.h_Reader_whole T.d_Reader_whole (G.g_Reader_whole) hgd (hr.mono (by omega)) (takes_of rfl rfl rfl rfl) (x_o 0) _) snd_nilL) (by rfl) (by rfl)) (x_gn 3 sc_inputs_read.nd)
    (ss_cons (x_set 4 sc_inputs_read.nd (x_fld FO (x_o 0)))
    (ss_cons (x_set 5 sc_inputs_read.nd (x_meth0 T.c_Reader.cl T.h_Reader_byte T.d_Reader_byte (G.g_Reader_byte) hgd (hr.mono (by omega)) (takes_of rfl rfl rfl rfl) (x_o 0) _))
    (ss_cons (x_set 6 sc_inputs_read.nd (x_meth0 T.c_Reader.cl T.h_Reader_whole T.d_Reader_whole (G.g_Reader_whole) hgd (hr.mono (by omega)) (takes_of rfl rfl rfl rfl) (x_o 0) _))
    (ss_cons (ss_if (x_w (snd_orT (x_cmpT (opr_eq hr.u64) (x_o 6) (snd_opd snd_int)) (snd_orT (x_cmpT (opr_eq hr.u64) (x_o 5) (x_o 2)) (snd_oneT (x_cmpT opr_gt (snd_opd (snd_bin opr_add (snd_opd (x_bt clr_len T.b_len (x_consO (x_o 1) snd_nilO))) (x_o 6))) (snd_opd (snd_kst (pe_kint T.k_MOST_TICKS) (fun _ _ => rd_int))))))))
    (ss_cons (ss_raise1 rfl (takes_of rfl rfl rfl rfl) T.x_BadRow T.n_BadRow_place T.i_BadRow (ok_BadRow_init T) (hr.mono (by omega)) T.d_BadRow_init.b pass0 T.g_BadRow (by rfl) (by decide) (by rfl) (by rfl) (x_cons (x_fz 4) snd_nilL))
    ss_nil)
    ss_nil)
    (ss_cons (x_expr (x_mut 1 PySem.F.slot_list_extend PySem.F.type_list_extend mu_extend (x_cons (snd_bin opr_mul (snd_opd (snd_lst (x_cons (x_fz 5) snd_nilL))) (x_o 6)) snd_nilL)))
    (ss_cons (x_set 2 sc_inputs_read.nd (x_fz 5))
    ss_nil)))))))
    (ss_cons (ss_ret (x_ty clr_tuple T.b_tuple (x_consO (x_o 1) snd_nilO)))
    ss_nil))))
theorem t_read_inputs (T : Txt K mg) (G : Gs P w K mg base m) (FO : FldOk K (cx m)) (IO : IsaOk K (cx m)) (cdv : Value) (A : Around) (outer : List Env) (s : Shared) (H : Hp) (E : XK) (pn : Nat → Bool) (hgd : A.guards = some []) (hr : Room (2 * m + 3) (A.deeper (envOfC "read_inputs" (defScope s_read_inputs) s.heap.objs.size (ga K "read_inputs") cdv))) :
    SSs (cxOf (L2.CX P w) P w K mg base ["row", "at", "reader", "inputs"] "read_inputs" (defScope s_read_inputs) (ga K "read_inputs") cdv A outer s H E) (fun cls d _ H => E cls d H) pn (defBody s_read_inputs) (evSL (cx m) pn b_read_inputs) :=
  (ss_cons (x_expr (x_call T.d_check_place (G.g_check_place) hgd (hr.mono (by omega)) (takes_of rfl rfl rfl rfl) (x_val (x_fz 0) (x_val (x_fz 1) snd_nilA))))
    (ss_cons (x_own 2 sc_read_inputs.nd (x_makeW T.c_Reader.mkr T.d_Reader_init (G.g_Reader_init) hgd (hr.mono (by omega)) (takes_of rfl rfl rfl rfl) T.g_Reader (x_val (x_fz 0) (x_val (x_fz 1) snd_nilA))))
    (ss_cons (x_set 3 sc_read_inputs.nd (x_call T.d_inputs_read (G.g_inputs_read) hgd (hr.mono (by omega)) (takes_of rfl rfl rfl rfl) (x_ref 2 snd_nilA)))
    (ss_cons (ss_ret (snd_tup (x_cons (x_fz 3) (x_cons (x_fld FO (x_o 2)) snd_nilL))))
    ss_nil))))
theorem t_guess (T : Txt K mg) (G : Gs P w K mg base m) (FO : FldOk K (cx m)) (IO : IsaOk K (cx m)) (cdv : Value) (A : Around) (outer : List Env) (s : Shared) (H : Hp) (E : XK) (pn : Nat → Bool) (hgd : A.guards = some []) (hr : Room (2 * m + 3) (A.deeper (envOfC "guess" (defScope s_guess) s.heap.objs.size (ga K "guess") cdv))) :
    SSs (cxOf (L2.CX P w) P w K mg base ["last", "ago", "hold"] "guess" (defScope s_guess) (ga K "guess") cdv A outer s H E) (fun cls d _ H => E cls d H) pn (defBody s_guess) (evSL (cx m) pn b_guess) :=
  (ss_cons (ss_if (x_w (snd_andT (x_cmpT opr_isnot (x_o 0) (snd_opd snd_non)) (snd_oneT (snd_notT (x_t (x_call T.d_is_input (G.g_is_input) hgd (hr.mono (by omega)) (takes_of rfl rfl rfl rfl) (x_val (x_fz 0) snd_nilA)))))))
    (ss_cons (ss_raise0 rfl (takes_of rfl rfl rfl rfl) T.x_NoInputs T.i_NoInputs (ok_WorldError_init T) (hr.mono (by omega)) T.d_WorldError_init.b pass0 T.g_NoInputs (by rfl) (by decide))
    ss_nil)
    ss_nil)
    (ss_cons (ss_if (x_w (snd_orT (snd_notT (x_t (x_call T.d_is_tick (G.g_is_tick) hgd (hr.mono (by omega)) (takes_of rfl rfl rfl rfl) (x_val (x_fz 1) snd_nilA)))) (snd_oneT (snd_notT (x_t (x_call T.d_is_between (G.g_is_between) hgd (hr.mono (by omega)) (takes_of rfl rfl rfl rfl) (x_val snd_int (x_val (snd_kst (pe_kint T.k_MOST_HOLD) (fun _ _ => rd_int)) (x_val (x_fz 2) snd_nilA)))))))))
    (ss_cons (ss_raise0 rfl (takes_of rfl rfl rfl rfl) T.x_NoNumber T.i_NoNumber (ok_WorldError_init T) (hr.mono (by omega)) T.d_WorldError_init.b pass0 T.g_NoNumber (by rfl) (by decide))
    ss_nil)
    ss_nil)
    (ss_cons (ss_ret (snd_ite (x_w (snd_orT (x_cmpT opr_is (x_o 0) (snd_opd snd_non)) (snd_oneT (x_cmpT opr_gt (x_o 1) (x_o 2))))) (snd_kst (pe_kint T.k_NO_INPUT) (fun _ _ => rd_int)) (x_fz 0)))
    ss_nil)))
theorem t_l_hand (T : Txt K mg) (G : Gs P w K mg base m) (FO : FldOk K (cx m)) (IO : IsaOk K (cx m)) (cdv : Value) (A : Around) (outer : List Env) (s : Shared) (H : Hp) (E : XK) (pn : Nat → Bool) (hgd : A.guards = some []) (hr : Room (2 * m + 3) (A.deeper (envOfC "_law_hand" (defScope s_l_hand) s.heap.objs.size (ga K "_law_hand") cdv))) :
    SSs (cxOf (L2.CX P w) P w K mg base ["_law_script", "_law_cell"] "_law_hand" (defScope s_l_hand) (ga K "_law_hand") cdv A outer s H E) (fun cls d _ H => E cls d H) pn (defBody s_l_hand) (evSL (cx m) pn b_l_hand) :=
  (ss_cons (ss_retW (swv_lst (x_cons (snd_lc (own := [("_law_cell", 1)]) (t := (.nm 1)) (by rfl) sc_l_hand.nd (sit_seq (snd_slc (x_o 0) snd_ptN (snd_pt snd_int))) (blkOk_by (own := [("_law_cell", 1)]) (N := ["_law_script", "_law_cell"]) (sc := defScope s_l_hand) (by decide +kernel)) (by rfl) (fun _ z => by cases z) (fun _ _ _ _ _ => (x_gn 1 sc_l_hand.nd)) (fun _ _ _ _ _ => ifs_no) (fun _ _ _ _ _ => (x_ty clr_int T.b_int (x_consO (x_o 1) snd_nilO))) (by intro _; rfl)) (x_cons snd_int (x_cons snd_int (x_cons (snd_bin opr_add (snd_opd snd_int) (snd_opd (x_bt clr_len T.b_len (x_consO (snd_opd (snd_slc (x_o 0) snd_ptN (snd_pt snd_int))) snd_nilO)))) (x_cons snd_int snd_nilL)))))))
    ss_nil)
theorem t_l_draw (T : Txt K mg) (G : Gs P w K mg base m) (FO : FldOk K (cx m)) (IO : IsaOk K (cx m)) (cdv : Value) (A : Around) (outer : List Env) (s : Shared) (H : Hp) (E : XK) (pn : Nat → Bool) (hgd : A.guards = some []) (hr : Room (2 * m + 3) (A.deeper (envOfC "_law_draw" (defScope s_l_draw) s.heap.objs.size (ga K "_law_draw") cdv))) :
    SSs (cxOf (L2.CX P w) P w K mg base ["_law_hand_here", "_law_many", "_law_cell", "_law_digit", "_law_number"] "_law_draw" (defScope s_l_draw) (ga K "_law_draw") cdv A outer s H E) (fun cls d _ H => E cls d H) pn (defBody s_l_draw) (evSL (cx m) pn b_l_draw) :=
  (ss_cons (ss_if (x_w (snd_andT (x_cmpT (opr_eq hr.u64) (snd_opd (x_idx (x_o 0) (snd_opd snd_int))) (snd_opd snd_int)) (snd_oneT (x_cmpT opr_lt (snd_opd (x_idx (x_o 0) (snd_opd snd_int))) (snd_opd (x_bt clr_len T.b_len (x_consO (snd_opd (x_idx (x_o 0) (snd_opd snd_int))) snd_nilO)))))))
    (ss_cons (x_set 2 sc_l_draw.nd (x_idx (snd_opd (x_idx (x_o 0) (snd_opd snd_int))) (snd_opd (x_idx (x_o 0) (snd_opd snd_int)))))
    (ss_cons (x_setix 0 (snd_bin opr_add (snd_opd (x_idx (x_o 0) (snd_opd snd_int))) (snd_opd snd_int)) snd_int)
    (ss_cons (x_setix 0 (snd_bin opr_mod (snd_opd (x_ty clr_int T.b_int (x_consO (snd_opd (snd_bin opr_add (snd_opd (snd_bin opr_add (snd_opd (snd_bin opr_mul (snd_opd (x_idx (x_o 0) (snd_opd snd_int))) (snd_opd snd_int))) (snd_opd (snd_bin opr_mul (x_o 2) (snd_opd snd_int))))) (snd_opd snd_int))) snd_nilO))) (snd_opd snd_int)) snd_int)
    (ss_cons (ss_if (x_cmpT opr_ge (x_o 2) (snd_opd (snd_bin opr_pow (snd_opd snd_int) (snd_opd snd_int))))
    (ss_cons (x_setix 0 (x_fz 2) snd_int)
    ss_nil)
    ss_nil)
    ss_nil))))
    ss_nil)
    (ss_cons (ss_if (x_cmpT opr_gt (snd_opd (x_idx (x_o 0) (snd_opd snd_int))) (snd_opd snd_int))
    (ss_cons (x_set 3 sc_l_draw.nd (snd_bin opr_mod (snd_opd (x_ty clr_int T.b_int (x_consO (snd_opd (x_idx (x_o 0) (snd_opd snd_int))) snd_nilO))) (x_o 1)))
    (ss_cons (x_setix 0 (snd_bin opr_fdiv (snd_opd (x_idx (x_o 0) (snd_opd snd_int))) (x_o 1)) snd_int)
    (ss_cons (ss_ret (x_fz 3))
    ss_nil)))
    ss_nil)
    (ss_cons (x_setix 0 (snd_bin opr_add (snd_opd (x_idx (x_o 0) (snd_opd snd_int))) (snd_opd snd_int)) snd_int)
    (ss_cons (x_set 4 sc_l_draw.nd (snd_bin opr_mod (snd_opd (x_ty clr_int T.b_int (x_consO (snd_opd (snd_bin opr_mul (snd_opd (x_ty clr_int T.b_int (x_consO (snd_opd (snd_bin opr_add (snd_opd (x_idx (x_o 0) (snd_opd snd_int))) (snd_opd (snd_bin opr_mul (snd_opd snd_int) (snd_opd (x_idx (x_o 0) (snd_opd snd_int))))))) snd_nilO))) (snd_opd snd_int))) snd_nilO))) (snd_opd snd_int)))
    (ss_cons (x_set 4 sc_l_draw.nd (snd_bin opr_mod (snd_opd (x_ty clr_int T.b_int (x_consO (snd_opd (snd_bin opr_mul (x_o 4) (snd_opd (snd_bin opr_add (snd_opd (snd_bin opr_fdiv (x_o 4) (snd_opd snd_int))) (snd_opd snd_int))))) snd_nilO))) (snd_opd snd_int)))
    (ss_cons (x_set 4 sc_l_draw.nd (snd_bin opr_mod (snd_opd (x_ty clr_int T.b_int (x_consO (snd_opd (snd_bin opr_mul (x_o 4) (snd_opd (snd_bin opr_add (snd_opd (snd_bin opr_fdiv (x_o 4) (snd_opd snd_int))) (snd_opd snd_int))))) snd_nilO))) (snd_opd snd_int)))
    (ss_cons (ss_ret (snd_bin opr_mod (snd_opd (x_ty clr_int T.b_int (x_consO (snd_opd (snd_bin opr_fdiv (x_o 4) (snd_opd snd_int))) snd_nilO))) (x_o 1)))
    ss_nil)))))))
theorem t_l_is (T : Txt K mg) (G : Gs P w K mg base m) (FO : FldOk K (cx m)) (IO : IsaOk K (cx m)) (cdv : Value) (A : Around) (outer : List Env) (s : Shared) (H : Hp) (E : XK) (pn : Nat → Bool) (hgd : A.guards = some []) (hr : Room (2 * m + 3) (A.deeper (envOfC "_law_is" (defScope s_l_is) s.heap.objs.size (ga K "_law_is") cdv))) :
    SSs (cxOf (L2.CX P w) P w K mg base ["_law_told", "_law_due", "_law_one", "_law_two"] "_law_is" (defScope s_l_is) (ga K "_law_is") cdv A outer s H E) (fun cls d _ H => E cls d H) pn (defBody s_l_is) (evSL (cx m) pn b_l_is) :=
  (ss_cons (ss_if (x_t (x_bt clr_isi T.b_isinstance (x_consO (x_o 1) (x_consO (snd_opd (snd_tup (x_cons (snd_kst (pe_ty "tuple" T.b_tuple) (fun _ _ => by rw [rd])) (x_cons (snd_kst (pe_ty "list" T.b_list) (fun _ _ => by rw [rd])) snd_nilL)))) snd_nilO))))
    (ss_cons (ss_if (x_w (snd_orT (x_cmpT (opr_ne hr.u64) (snd_opd (x_bt clr_isi T.b_isinstance (x_consO (x_o 0) (x_consO (snd_opd (snd_kst (pe_ty "tuple" T.b_tuple) (fun _ _ => by rw [rd]))) snd_nilO)))) (snd_opd (x_bt clr_isi T.b_isinstance (x_consO (x_o 1) (x_consO (snd_opd (snd_kst (pe_ty "tuple" T.b_tuple) (fun _ _ => by rw [rd]))) snd_nilO))))) (snd_oneT (snd_notT (x_t (x_bt clr_isi T.b_isinstance (x_consO (x_o 0) (x_consO (snd_opd (snd_tup (x_cons (snd_kst (pe_ty "tuple" T.b_tuple) (fun _ _ => by rw [rd])) (x_cons (snd_kst (pe_ty "list" T.b_list) (fun _ _ => by rw [rd])) snd_nilL)))) snd_nilO))))))))
    (ss_cons (ss_ret snd_bl)
    ss_nil)
    ss_nil)
    (ss_cons (ss_ret (snd_and (x_cmp (opr_eq hr.u64) (snd_opd (x_bt clr_len T.b_len (x_consO (x_o 0) snd_nilO))) (snd_opd (x_bt clr_len T.b_len (x_consO (x_o 1) snd_nilO)))) (snd_one (x_bt (clr_all rfl) T.b_all (x_consO (snd_opd (snd_lc (own := [("_law_one", 2), ("_law_two", 3)]) (t := (.tup [2, 3])) (by rfl) sc_l_is.nd (sit_zip (by rfl) T.b_zip (x_cons (x_fz 0) (x_cons (x_fz 1) snd_nilL)) (by rfl) (by rfl) (by rfl)) (blkOk_by (own := [("_law_one", 2), ("_law_two", 3)]) (N := ["_law_told", "_law_due", "_law_one", "_law_two"]) (sc := defScope s_l_is) (by decide +kernel)) (by rfl) (fun _ z => by cases z) (fun _ _ _ _ _ => (pg_any (by rfl) (pgs_cons (x_gn 2 sc_l_is.nd) (pgs_cons (x_gn 3 sc_l_is.nd) pgs_nil)))) (fun _ _ _ _ _ => ifs_no) (fun _ _ _ _ _ => (x_call T.d_l_is (G.g_l_is) hgd (hr.mono (by omega)) takesN (x_val (x_fz 2) (x_val (x_fz 3) snd_nilA)))) (by intro _; rfl))) snd_nilO)))))
    ss_nil))
    ss_nil)
    (ss_cons (ss_ret (snd_and (x_cmp (opr_eq hr.u64) (snd_opd (x_bt clr_isi T.b_isinstance (x_consO (x_o 0) (x_consO (snd_opd (snd_kst (pe_ty "bool" T.b_bool) (fun _ _ => by rw [rd]))) snd_nilO)))) (snd_opd (x_bt clr_isi T.b_isinstance (x_consO (x_o 1) (x_consO (snd_opd (snd_kst (pe_ty "bool" T.b_bool) (fun _ _ => by rw [rd]))) snd_nilO))))) (snd_one (x_cmp (opr_eq hr.u64) (x_o 0) (x_o 1)))))
    ss_nil))
theorem t_l_whole (T : Txt K mg) (G : Gs P w K mg base m) (FO : FldOk K (cx m)) (IO : IsaOk K (cx m)) (cdv : Value) (A : Around) (outer : List Env) (s : Shared) (H : Hp) (E : XK) (pn : Nat → Bool) (hgd : A.guards = some []) (hr : Room (2 * m + 3) (A.deeper (envOfC "_law_whole" (defScope s_l_whole) s.heap.objs.size (ga K "_law_whole") cdv))) :
    SSs (cxOf (L2.CX P w) P w K mg base ["_law_number", "_law_found", "_law_turn"] "_law_whole" (defScope s_l_whole) (ga K "_law_whole") cdv A outer s H E) (fun cls d _ H => E cls d H) pn (defBody s_l_whole) (evSL (cx m) pn b_l_whole) :=
  (ss_cons (x_own 1 sc_l_whole.nd (swv_lst snd_nilL))
    (ss_cons (x_for (t := (.nm 2)) (passes_of rfl) (sit_rng1 (by rfl) T.b_range (x_cons snd_int snd_nilL) (by rfl) (by rfl)) (x_gn 2 sc_l_whole.nd)
    (ss_cons (ss_if (x_cmpT opr_lt (x_o 0) (snd_opd snd_int))
    (ss_cons ss_brk
    ss_nil)
    ss_nil)
    (ss_cons (x_expr (x_mut 1 PySem.F.slot_list_append PySem.F.type_list_append mu_append (x_cons (snd_bin opr_add (snd_opd (snd_bin opr_mod (snd_opd (x_ty clr_int T.b_int (x_consO (x_o 0) snd_nilO))) (snd_opd snd_int))) (snd_opd snd_int)) snd_nilL)))
    (ss_cons (x_set 0 sc_l_whole.nd (snd_bin opr_fdiv (x_o 0) (snd_opd snd_int)))
    ss_nil))))
    (ss_cons (ss_ret (x_ty clr_tuple T.b_tuple (x_consO (snd_opd (snd_bin opr_add (x_o 1) (snd_opd (snd_lst (x_cons (x_fz 0) snd_nilL))))) snd_nilO)))
    ss_nil)))
theorem t_l_read (T : Txt K mg) (G : Gs P w K mg base m) (FO : FldOk K (cx m)) (IO : IsaOk K (cx m)) (cdv : Value) (A : Around) (outer : List Env) (s : Shared) (H : Hp) (E : XK) (pn : Nat → Bool) (hgd : A.guards = some []) (hr : Room (2 * m + 3) (A.deeper (envOfC "_law_read" (defScope s_l_read) s.heap.objs.size (ga K "_law_read") cdv))) :
    SSs (cxOf (L2.CX P w) P w K mg base ["_law_row", "_law_at", "_law_turn", "_law_number", "_law_place"] "_law_read" (defScope s_l_read) (ga K "_law_read") cdv A outer s H E) (fun cls d _ H => E cls d H) pn (defBody s_l_read) (evSL (cx m) pn b_l_read) :=
  (ss_cons (x_for (t := (.nm 2)) (passes_of rfl) (sit_rng1 (by rfl) T.b_range (x_cons snd_int snd_nilL) (by rfl) (by rfl)) (x_gn 2 sc_l_read.nd)
    (ss_cons (ss_if (x_cmpT opr_ge (snd_opd (snd_bin opr_add (x_o 1) (x_o 2))) (snd_opd (x_bt clr_len T.b_len (x_consO (x_o 0) snd_nilO))))
    (ss_cons (ss_ret snd_non)
    ss_nil)
    ss_nil)
    (ss_cons (ss_if (x_cmpT opr_lt (snd_opd (x_idx (x_o 0) (snd_opd (snd_bin opr_add (x_o 1) (x_o 2))))) (snd_opd snd_int))
    (ss_cons (ss_if (x_w (snd_andT (x_cmpT opr_gt (x_o 2) (snd_opd snd_int)) (snd_oneT (x_cmpT (opr_eq hr.u64) (snd_opd (x_idx (x_o 0) (snd_opd (snd_bin opr_add (x_o 1) (x_o 2))))) (snd_opd snd_int)))))
    (ss_cons (ss_ret snd_non)
    ss_nil)
    ss_nil)
    (ss_cons (x_set 3 sc_l_read.nd snd_int)
    (ss_cons (x_for (t := (.nm 4)) (passes_of rfl) (sit_rng3 (by rfl) T.b_range (x_cons (snd_bin opr_add (x_o 1) (x_o 2)) (x_cons (snd_bin opr_sub (x_o 1) (snd_opd snd_int)) (x_cons (snd_neg (snd_opd snd_int)) snd_nilL))) (by rfl) (by rfl) (by rfl)) (x_gn 4 sc_l_read.nd)
    (ss_cons (x_set 3 sc_l_read.nd (snd_bin opr_add (snd_opd (snd_bin opr_mul (x_o 3) (snd_opd snd_int))) (snd_opd (snd_bin opr_mod (snd_opd (x_ty clr_int T.b_int (x_consO (snd_opd (x_idx (x_o 0) (x_o 4))) snd_nilO))) (snd_opd snd_int)))))
    ss_nil))
    (ss_cons (ss_if (x_cmpT opr_ge (x_o 3) (snd_opd (snd_bin opr_pow (snd_opd snd_int) (snd_opd snd_int))))
    (ss_cons (ss_ret snd_non)
    ss_nil)
    ss_nil)
    (ss_cons (ss_ret (snd_tup (x_cons (x_fz 3) (x_cons (snd_bin opr_add (snd_opd (snd_bin opr_add (x_o 1) (x_o 2))) (snd_opd snd_int)) snd_nilL))))
    ss_nil)))))
    ss_nil)
    ss_nil)))
    (ss_cons (ss_ret snd_non)
    ss_nil))
theorem t_l_byte (T : Txt K mg) (G : Gs P w K mg base m) (FO : FldOk K (cx m)) (IO : IsaOk K (cx m)) (cdv : Value) (A : Around) (outer : List Env) (s : Shared) (H : Hp) (E : XK) (pn : Nat → Bool) (hgd : A.guards = some []) (hr : Room (2 * m + 3) (A.deeper (envOfC "_law_byte" (defScope s_l_byte) s.heap.objs.size (ga K "_law_byte") cdv))) :
    SSs (cxOf (L2.CX P w) P w K mg base ["_law_hand_here"] "_law_byte" (defScope s_l_byte) (ga K "_law_byte") cdv A outer s H E) (fun cls d _ H => E cls d H) pn (defBody s_l_byte) (evSL (cx m) pn b_l_byte) :=
  (ss_cons (ss_if (x_cmpT (opr_eq hr.u64) (snd_opd (x_call T.d_l_draw (G.g_l_draw) hgd (hr.mono (by omega)) (takes_of rfl rfl rfl rfl) (x_ref 0 (x_val snd_int snd_nilA)))) (snd_opd snd_int))
    (ss_cons (ss_ret (x_idx (snd_opd (snd_lst (x_cons snd_int (x_cons snd_int (x_cons snd_int (x_cons snd_int (x_cons snd_int (x_cons snd_int snd_nilL)))))))) (snd_opd (x_call T.d_l_draw (G.g_l_draw) hgd (hr.mono (by omega)) (takes_of rfl rfl rfl rfl) (x_ref 0 (x_val snd_int snd_nilA))))))
    ss_nil)
    ss_nil)
    (ss_cons (ss_retW (x_callW T.d_l_draw (G.g_l_draw) hgd (hr.mono (by omega)) (takes_of rfl rfl rfl rfl) (x_ref 0 (x_val snd_int snd_nilA))))
    ss_nil))
theorem t_l_bytes (T : Txt K mg) (G : Gs P w K mg base m) (FO : FldOk K (cx m)) (IO : IsaOk K (cx m)) (cdv : Value) (A : Around) (outer : List Env) (s : Shared) (H : Hp) (E : XK) (pn : Nat → Bool) (hgd : A.guards = some []) (hr : Room (2 * m + 3) (A.deeper (envOfC "_law_bytes" (defScope s_l_bytes) s.heap.objs.size (ga K "_law_bytes") cdv))) :
    SSs (cxOf (L2.CX P w) P w K mg base ["_law_hand_here", "_law_most", "_law_turn"] "_law_bytes" (defScope s_l_bytes) (ga K "_law_bytes") cdv A outer s H E) (fun cls d _ H => E cls d H) pn (defBody s_l_bytes) (evSL (cx m) pn b_l_bytes) :=
  (ss_cons (ss_ret (x_ty clr_tuple T.b_tuple (x_consO (snd_opd (snd_lc (own := [("_law_turn", 2)]) (t := (.nm 2)) (by rfl) sc_l_bytes.nd (sit_rng1 (by rfl) T.b_range (x_cons (x_call T.d_l_draw (G.g_l_draw) hgd (hr.mono (by omega)) (takes_of rfl rfl rfl rfl) (x_ref 0 (x_val (snd_bin opr_add (x_o 1) (snd_opd snd_int)) snd_nilA))) snd_nilL) (by rfl) (by rfl)) (blkOk_by (own := [("_law_turn", 2)]) (N := ["_law_hand_here", "_law_most", "_law_turn"]) (sc := defScope s_l_bytes) (by decide +kernel)) (by rfl) (fun _ z => by cases z) (fun _ _ _ _ _ => (x_gn 2 sc_l_bytes.nd)) (fun _ _ _ _ _ => ifs_no) (fun _ _ _ _ _ => (x_call T.d_l_byte (G.g_l_byte) hgd (hr.mono (by omega)) takesN (x_ref 0 snd_nilA))) (by intro _; rfl))) snd_nilO)))
    ss_nil)
theorem t_l_spoilt (T : Txt K mg) (G : Gs P w K mg base m) (FO : FldOk K (cx m)) (IO : IsaOk K (cx m)) (cdv : Value) (A : Around) (outer : List Env) (s : Shared) (H : Hp) (E : XK) (pn : Nat → Bool) (hgd : A.guards = some []) (hr : Room (2 * m + 3) (A.deeper (envOfC "_law_spoilt" (defScope s_l_spoilt) s.heap.objs.size (ga K "_law_spoilt") cdv))) :
    SSs (cxOf (L2.CX P w) P w K mg base ["_law_hand_here", "_law_row", "_law_kind", "_law_at"] "_law_spoilt" (defScope s_l_spoilt) (ga K "_law_spoilt") cdv A outer s H E) (fun cls d _ H => E cls d H) pn (defBody s_l_spoilt) (evSL (cx m) pn b_l_spoilt) :=
  (ss_cons (x_set 2 sc_l_spoilt.nd (x_call T.d_l_draw (G.g_l_draw) hgd (hr.mono (by omega)) (takes_of rfl rfl rfl rfl) (x_ref 0 (x_val snd_int snd_nilA))))
    (ss_cons (x_set 3 sc_l_spoilt.nd (x_call T.d_l_draw (G.g_l_draw) hgd (hr.mono (by omega)) (takes_of rfl rfl rfl rfl) (x_ref 0 (x_val (snd_bin opr_add (snd_opd (x_bt clr_len T.b_len (x_consO (x_o 1) snd_nilO))) (snd_opd snd_int)) snd_nilA))))
    (ss_cons (ss_if (x_cmpT (opr_eq hr.u64) (x_o 2) (snd_opd snd_int))
    (ss_cons (ss_ret (snd_bin opr_add (snd_opd (snd_bin opr_add (snd_opd (snd_slc (x_o 1) snd_ptN (snd_pt (x_fz 3)))) (snd_opd (snd_tup (x_cons (x_call T.d_l_byte (G.g_l_byte) hgd (hr.mono (by omega)) (takes_of rfl rfl rfl rfl) (x_ref 0 snd_nilA)) snd_nilL))))) (snd_opd (snd_slc (x_o 1) (snd_pt (snd_bin opr_add (x_o 3) (snd_opd snd_int))) snd_ptN))))
    ss_nil)
    ss_nil)
    (ss_cons (ss_if (x_cmpT (opr_eq hr.u64) (x_o 2) (snd_opd snd_int))
    (ss_cons (ss_ret (snd_bin opr_add (snd_opd (snd_bin opr_add (snd_opd (snd_slc (x_o 1) snd_ptN (snd_pt (x_fz 3)))) (snd_opd (snd_tup (x_cons (x_call T.d_l_byte (G.g_l_byte) hgd (hr.mono (by omega)) (takes_of rfl rfl rfl rfl) (x_ref 0 snd_nilA)) snd_nilL))))) (snd_opd (snd_slc (x_o 1) (snd_pt (x_fz 3)) snd_ptN))))
    ss_nil)
    ss_nil)
    (ss_cons (ss_if (x_cmpT (opr_eq hr.u64) (x_o 2) (snd_opd snd_int))
    (ss_cons (ss_ret (snd_bin opr_add (snd_opd (snd_slc (x_o 1) snd_ptN (snd_pt (x_fz 3)))) (snd_opd (snd_slc (x_o 1) (snd_pt (snd_bin opr_add (x_o 3) (snd_opd snd_int))) snd_ptN))))
    ss_nil)
    ss_nil)
    (ss_cons (ss_if (x_cmpT (opr_eq hr.u64) (x_o 2) (snd_opd snd_int))
    (ss_cons (ss_ret (snd_slc (x_o 1) snd_ptN (snd_pt (x_fz 3))))
    ss_nil)
    ss_nil)
    (ss_cons (ss_ret (snd_bin opr_add (x_o 1) (snd_opd (x_call T.d_l_bytes (G.g_l_bytes) hgd (hr.mono (by omega)) (takes_of rfl rfl rfl rfl) (x_ref 0 (x_val snd_int snd_nilA))))))
    ss_nil)))))))
theorem t_l_runs (T : Txt K mg) (G : Gs P w K mg base m) (FO : FldOk K (cx m)) (IO : IsaOk K (cx m)) (cdv : Value) (A : Around) (outer : List Env) (s : Shared) (H : Hp) (E : XK) (pn : Nat → Bool) (hgd : A.guards = some []) (hr : Room (2 * m + 3) (A.deeper (envOfC "_law_runs" (defScope s_l_runs) s.heap.objs.size (ga K "_law_runs") cdv))) :
    SSs (cxOf (L2.CX P w) P w K mg base ["_law_hand_here", "_law_great", "_law_found", "_law_turn", "_law_many"] "_law_runs" (defScope s_l_runs) (ga K "_law_runs") cdv A outer s H E) (fun cls d _ H => E cls d H) pn (defBody s_l_runs) (evSL (cx m) pn b_l_runs) :=
  (ss_cons (x_set 1 sc_l_runs.nd (x_call T.d_l_draw (G.g_l_draw) hgd (hr.mono (by omega)) (takes_of rfl rfl rfl rfl) (x_ref 0 (x_val snd_int snd_nilA))))
    (ss_cons (x_own 2 sc_l_runs.nd (swv_lst snd_nilL))
    (ss_cons (x_for (t := (.nm 3)) (passes_of rfl) (sit_rng1 (by rfl) T.b_range (x_cons (x_call T.d_l_draw (G.g_l_draw) hgd (hr.mono (by omega)) (takes_of rfl rfl rfl rfl) (x_ref 0 (x_val snd_int snd_nilA))) snd_nilL) (by rfl) (by rfl)) (x_gn 3 sc_l_runs.nd)
    (ss_cons (x_set 4 sc_l_runs.nd (snd_bin opr_add (snd_opd snd_int) (snd_opd (x_call T.d_l_draw (G.g_l_draw) hgd (hr.mono (by omega)) (takes_of rfl rfl rfl rfl) (x_ref 0 (x_val (x_idx (snd_opd (snd_lst (x_cons snd_int (x_cons snd_int (x_cons snd_int snd_nilL))))) (snd_opd (x_call T.d_l_draw (G.g_l_draw) hgd (hr.mono (by omega)) (takes_of rfl rfl rfl rfl) (x_ref 0 (x_val snd_int snd_nilA))))) snd_nilA))))))
    (ss_cons (x_expr (x_mut 2 PySem.F.slot_list_append PySem.F.type_list_append mu_append (x_cons (snd_tup (x_cons (x_call T.d_l_byte (G.g_l_byte) hgd (hr.mono (by omega)) (takes_of rfl rfl rfl rfl) (x_ref 0 snd_nilA)) (x_cons (x_fz 4) snd_nilL))) snd_nilL)))
    ss_nil)))
    (ss_cons (ss_if (x_w (snd_andT (x_cmpT (opr_eq hr.u64) (x_o 1) (snd_opd snd_int)) (snd_oneT (x_cmpT opr_gt (snd_opd (x_bt clr_len T.b_len (x_consO (x_o 2) snd_nilO))) (snd_opd snd_int)))))
    (ss_cons (x_setix 2 (snd_tup (x_cons (x_idx (snd_opd (x_idx (x_o 2) (snd_opd snd_int))) (snd_opd snd_int)) (x_cons (snd_bin opr_add (snd_opd snd_int) (snd_opd (x_idx (snd_opd (x_idx (x_o 2) (snd_opd snd_int))) (snd_opd snd_int)))) snd_nilL))) snd_int)
    ss_nil)
    ss_nil)
    (ss_cons (x_retO 2)
    ss_nil)))))
theorem t_l_ticks (T : Txt K mg) (G : Gs P w K mg base m) (FO : FldOk K (cx m)) (IO : IsaOk K (cx m)) (cdv : Value) (A : Around) (outer : List Env) (s : Shared) (H : Hp) (E : XK) (pn : Nat → Bool) (hgd : A.guards = some []) (hr : Room (2 * m + 3) (A.deeper (envOfC "_law_ticks" (defScope s_l_ticks) s.heap.objs.size (ga K "_law_ticks") cdv))) :
    SSs (cxOf (L2.CX P w) P w K mg base ["_law_runs_here", "_law_found", "_law_item", "_law_many"] "_law_ticks" (defScope s_l_ticks) (ga K "_law_ticks") cdv A outer s H E) (fun cls d _ H => E cls d H) pn (defBody s_l_ticks) (evSL (cx m) pn b_l_ticks) :=
  (ss_cons (x_own 1 sc_l_ticks.nd (swv_lst snd_nilL))
    (ss_cons (x_for (t := (.tup [2, 3])) (passes_of rfl) (sit_seq (x_fz 0)) (pg_any (by rfl) (pgs_cons (x_gn 2 sc_l_ticks.nd) (pgs_cons (x_gn 3 sc_l_ticks.nd) pgs_nil)))
    (ss_cons (x_expr (x_mut 1 PySem.F.slot_list_extend PySem.F.type_list_extend mu_extend (x_cons (snd_bin opr_mul (snd_opd (snd_lst (x_cons (x_fz 2) snd_nilL))) (x_o 3)) snd_nilL)))
    ss_nil))
    (ss_cons (ss_ret (x_ty clr_tuple T.b_tuple (x_consO (x_o 1) snd_nilO)))
    ss_nil)))
theorem t_l_run_bytes (T : Txt K mg) (G : Gs P w K mg base m) (FO : FldOk K (cx m)) (IO : IsaOk K (cx m)) (cdv : Value) (A : Around) (outer : List Env) (s : Shared) (H : Hp) (E : XK) (pn : Nat → Bool) (hgd : A.guards = some []) (hr : Room (2 * m + 3) (A.deeper (envOfC "_law_run_bytes" (defScope s_l_run_bytes) s.heap.objs.size (ga K "_law_run_bytes") cdv))) :
    SSs (cxOf (L2.CX P w) P w K mg base ["_law_runs_here", "_law_found", "_law_item", "_law_many"] "_law_run_bytes" (defScope s_l_run_bytes) (ga K "_law_run_bytes") cdv A outer s H E) (fun cls d _ H => E cls d H) pn (defBody s_l_run_bytes) (evSL (cx m) pn b_l_run_bytes) :=
  (ss_cons (x_own 1 sc_l_run_bytes.nd (x_listW T.b_list (x_consO (snd_opd (x_call T.d_l_whole (G.g_l_whole) hgd (hr.mono (by omega)) (takes_of rfl rfl rfl rfl) (x_val (x_bt clr_len T.b_len (x_consO (x_o 0) snd_nilO)) snd_nilA))) snd_nilO)))
    (ss_cons (x_for (t := (.tup [2, 3])) (passes_of rfl) (sit_seq (x_fz 0)) (pg_any (by rfl) (pgs_cons (x_gn 2 sc_l_run_bytes.nd) (pgs_cons (x_gn 3 sc_l_run_bytes.nd) pgs_nil)))
    (ss_cons (x_expr (x_mut 1 PySem.F.slot_list_append PySem.F.type_list_append mu_append (x_cons (x_fz 2) snd_nilL)))
    (ss_cons (x_expr (x_mut 1 PySem.F.slot_list_extend PySem.F.type_list_extend mu_extend (x_cons (x_call T.d_l_whole (G.g_l_whole) hgd (hr.mono (by omega)) (takes_of rfl rfl rfl rfl) (x_val (x_fz 3) snd_nilA)) snd_nilL)))
    ss_nil)))
    (ss_cons (ss_ret (x_ty clr_tuple T.b_tuple (x_consO (x_o 1) snd_nilO)))
    ss_nil)))
theorem t_l_input_bytes (T : Txt K mg) (G : Gs P w K mg base m) (FO : FldOk K (cx m)) (IO : IsaOk K (cx m)) (cdv : Value) (A : Around) (outer : List Env) (s : Shared) (H : Hp) (E : XK) (pn : Nat → Bool) (hgd : A.guards = some []) (hr : Room (2 * m + 3) (A.deeper (envOfC "_law_input_bytes" (defScope s_l_input_bytes) s.heap.objs.size (ga K "_law_input_bytes") cdv))) :
    SSs (cxOf (L2.CX P w) P w K mg base ["_law_inputs", "_law_runs_here", "_law_begin", "_law_at"] "_law_input_bytes" (defScope s_l_input_bytes) (ga K "_law_input_bytes") cdv A outer s H E) (fun cls d _ H => E cls d H) pn (defBody s_l_input_bytes) (evSL (cx m) pn b_l_input_bytes) :=
  (ss_cons (x_own 1 sc_l_input_bytes.nd (swv_lst snd_nilL))
    (ss_cons (x_set 2 sc_l_input_bytes.nd snd_int)
    (ss_cons (x_for (t := (.nm 3)) (passes_of rfl) (sit_rng2 (by rfl) T.b_range (x_cons snd_int (x_cons (snd_bin opr_add (snd_opd (x_bt clr_len T.b_len (x_consO (x_o 0) snd_nilO))) (snd_opd snd_int)) snd_nilL)) (by rfl) (by rfl) (by rfl)) (x_gn 3 sc_l_input_bytes.nd)
    (ss_cons (ss_if (x_w (snd_orT (x_cmpT (opr_eq hr.u64) (x_o 3) (snd_opd (x_bt clr_len T.b_len (x_consO (x_o 0) snd_nilO)))) (snd_oneT (x_cmpT (opr_ne hr.u64) (snd_opd (x_idx (x_o 0) (x_o 3))) (snd_opd (x_idx (x_o 0) (x_o 2)))))))
    (ss_cons (x_expr (x_mut 1 PySem.F.slot_list_append PySem.F.type_list_append mu_append (x_cons (snd_tup (x_cons (x_idx (x_o 0) (x_o 2)) (x_cons (snd_bin opr_sub (x_o 3) (x_o 2)) snd_nilL))) snd_nilL)))
    (ss_cons (x_set 2 sc_l_input_bytes.nd (x_fz 3))
    ss_nil))
    ss_nil)
    ss_nil))
    (ss_cons (ss_retW (x_callW T.d_l_run_bytes (G.g_l_run_bytes) hgd (hr.mono (by omega)) (takes_of rfl rfl rfl rfl) (x_ref 1 snd_nilA)))
    ss_nil))))
theorem t_l_parsed (T : Txt K mg) (G : Gs P w K mg base m) (FO : FldOk K (cx m)) (IO : IsaOk K (cx m)) (cdv : Value) (A : Around) (outer : List Env) (s : Shared) (H : Hp) (E : XK) (pn : Nat → Bool) (hgd : A.guards = some []) (hr : Room (2 * m + 3) (A.deeper (envOfC "_law_parsed" (defScope s_l_parsed) s.heap.objs.size (ga K "_law_parsed") cdv))) :
    SSs (cxOf (L2.CX P w) P w K mg base ["_law_row", "_law_at", "_law_head", "_law_here", "_law_found", "_law_turn", "_law_part"] "_law_parsed" (defScope s_l_parsed) (ga K "_law_parsed") cdv A outer s H E) (fun cls d _ H => E cls d H) pn (defBody s_l_parsed) (evSL (cx m) pn b_l_parsed) :=
  (ss_cons (x_set 2 sc_l_parsed.nd (x_call T.d_l_read (G.g_l_read) hgd (hr.mono (by omega)) (takes_of rfl rfl rfl rfl) (x_val (x_fz 0) (x_val (x_fz 1) snd_nilA))))
    (ss_cons (ss_if (x_cmpT opr_is (x_o 2) (snd_opd snd_non))
    (ss_cons (ss_ret (snd_tup (x_cons snd_non (x_cons snd_int (x_cons (x_fz 1) snd_nilL)))))
    ss_nil)
    ss_nil)
    (ss_cons (x_set 3 sc_l_parsed.nd (x_idx (x_o 2) (snd_opd snd_int)))
    (ss_cons (x_own 4 sc_l_parsed.nd (swv_lst snd_nilL))
    (ss_cons (x_for (t := (.nm 5)) (passes_of rfl) (sit_rng1 (by rfl) T.b_range (x_cons (x_bt (clr_min2 rfl) T.b_min (x_consO (snd_opd (x_idx (x_o 2) (snd_opd snd_int))) (x_consO (snd_opd (snd_bin opr_add (snd_opd (x_bt clr_len T.b_len (x_consO (x_o 0) snd_nilO))) (snd_opd snd_int))) snd_nilO))) snd_nilL) (by rfl) (by rfl)) (x_gn 5 sc_l_parsed.nd)
    (ss_cons (ss_if (x_cmpT opr_ge (x_o 3) (snd_opd (x_bt clr_len T.b_len (x_consO (x_o 0) snd_nilO))))
    (ss_cons (ss_ret (snd_tup (x_cons snd_non (x_cons snd_int (x_cons (x_fz 3) snd_nilL)))))
    ss_nil)
    ss_nil)
    (ss_cons (x_set 6 sc_l_parsed.nd (x_call T.d_l_read (G.g_l_read) hgd (hr.mono (by omega)) (takes_of rfl rfl rfl rfl) (x_val (x_fz 0) (x_val (snd_bin opr_add (x_o 3) (snd_opd snd_int)) snd_nilA))))
    (ss_cons (ss_if (x_cmpT opr_is (x_o 6) (snd_opd snd_non))
    (ss_cons (ss_ret (snd_tup (x_cons snd_non (x_cons snd_int (x_cons (snd_bin opr_add (x_o 3) (snd_opd snd_int)) snd_nilL)))))
    ss_nil)
    ss_nil)
    (ss_cons (ss_if (x_w (snd_orT (x_cmpT (opr_eq hr.u64) (snd_opd (x_idx (x_o 6) (snd_opd snd_int))) (snd_opd snd_int)) (snd_orT (x_cmpT opr_gt (snd_opd (snd_bin opr_add (snd_opd (x_bt clr_len T.b_len (x_consO (x_o 4) snd_nilO))) (snd_opd (x_idx (x_o 6) (snd_opd snd_int))))) (snd_opd snd_int)) (snd_oneT (x_cmpT (opr_eq hr.u64) (snd_opd (snd_slc (x_o 4) (snd_pt (snd_neg (snd_opd snd_int))) snd_ptN)) (snd_opd (snd_lst (x_cons (x_idx (x_o 0) (x_o 3)) snd_nilL))))))))
    (ss_cons (ss_ret (snd_tup (x_cons snd_non (x_cons snd_int (x_cons (x_fz 3) snd_nilL)))))
    ss_nil)
    ss_nil)
    (ss_cons (x_expr (x_mut 4 PySem.F.slot_list_extend PySem.F.type_list_extend mu_extend (x_cons (snd_bin opr_mul (snd_opd (snd_lst (x_cons (x_idx (x_o 0) (x_o 3)) snd_nilL))) (snd_opd (x_idx (x_o 6) (snd_opd snd_int)))) snd_nilL)))
    (ss_cons (x_set 3 sc_l_parsed.nd (x_idx (x_o 6) (snd_opd snd_int)))
    ss_nil)))))))
    (ss_cons (ss_ret (snd_tup (x_cons (x_ty clr_tuple T.b_tuple (x_consO (x_o 4) snd_nilO)) (x_cons (x_fz 3) (x_cons (snd_neg (snd_opd snd_int)) snd_nilL)))))
    ss_nil))))))
theorem t_l_read_told (T : Txt K mg) (G : Gs P w K mg base m) (FO : FldOk K (cx m)) (IO : IsaOk K (cx m)) (cdv : Value) (A : Around) (outer : List Env) (s : Shared) (H : Hp) (E : XK) (pn : Nat → Bool) (hgd : A.guards = some []) (hr : Room (2 * m + 3) (A.deeper (envOfC "_law_read_told" (defScope s_l_read_told) s.heap.objs.size (ga K "_law_read_told") cdv))) :
    SSs (cxOf (L2.CX P w) P w K mg base ["_law_row", "_law_at", "error"] "_law_read_told" (defScope s_l_read_told) (ga K "_law_read_told") cdv A outer s H E) (fun cls d _ H => E cls d H) pn (defBody s_l_read_told) (evSL (cx m) pn b_l_read_told) :=
  (ss_cons (ss_tryN rfl rfl (takes_of rfl rfl rfl rfl) (fun W pns xe tk tkP => (ss_cons (ss_ret (snd_tup (x_cons snd_str (x_cons (x_call T.d_read_inputs (G.g_read_inputs) hgd (hr.mono (by omega)) tk (x_val (x_fz 0) (x_val (x_fz 1) snd_nilA))) snd_nilL))))
    ss_nil)) (xn_P (i := 2) IO T.f_BadRow T.n_BadRow_place sc_l_read_told.nd rfl rfl ⟨by rfl, by decide, .inl T.g_BadRow⟩ (fun _ _ => pe_str) (fun _ _ => by rw [rd]) (hn_cons IO ⟨by rfl, by decide, .inl T.g_WorldError⟩ (fun a pns => (ss_cons (ss_ret (snd_tup (x_cons snd_str (x_cons snd_int snd_nilL))))
    ss_nil)) hn_nil)))
    ss_nil)
theorem t_l_is_told (T : Txt K mg) (G : Gs P w K mg base m) (FO : FldOk K (cx m)) (IO : IsaOk K (cx m)) (cdv : Value) (A : Around) (outer : List Env) (s : Shared) (H : Hp) (E : XK) (pn : Nat → Bool) (hgd : A.guards = some []) (hr : Room (2 * m + 3) (A.deeper (envOfC "_law_is_told" (defScope s_l_is_told) s.heap.objs.size (ga K "_law_is_told") cdv))) :
    SSs (cxOf (L2.CX P w) P w K mg base ["_law_row", "_law_at", "_law_inputs", "_law_behind", "_law_place", "_law_told"] "_law_is_told" (defScope s_l_is_told) (ga K "_law_is_told") cdv A outer s H E) (fun cls d _ H => E cls d H) pn (defBody s_l_is_told) (evSL (cx m) pn b_l_is_told) :=
  (ss_cons (x_asg (t := (.tup [2, 3, 4])) (x_call T.d_l_parsed (G.g_l_parsed) hgd (hr.mono (by omega)) (takes_of rfl rfl rfl rfl) (x_val (x_fz 0) (x_val (x_fz 1) snd_nilA))) (pg_any (by rfl) (pgs_cons (x_gn 2 sc_l_is_told.nd) (pgs_cons (x_gn 3 sc_l_is_told.nd) (pgs_cons (x_gn 4 sc_l_is_told.nd) pgs_nil)))))
    (ss_cons (x_set 5 sc_l_is_told.nd (x_call T.d_l_read_told (G.g_l_read_told) hgd (hr.mono (by omega)) (takes_of rfl rfl rfl rfl) (x_val (x_fz 0) (x_val (x_fz 1) snd_nilA))))
    (ss_cons (ss_if (x_cmpT opr_is (x_o 2) (snd_opd snd_non))
    (ss_cons (ss_retW (x_callW T.d_l_is (G.g_l_is) hgd (hr.mono (by omega)) (takes_of rfl rfl rfl rfl) (x_val (x_fz 5) (x_val (snd_tup (x_cons snd_str (x_cons (x_fz 4) snd_nilL))) snd_nilA))))
    ss_nil)
    ss_nil)
    (ss_cons (ss_if (x_w (snd_orT (snd_notT (x_t (x_bt clr_isi T.b_isinstance (x_consO (snd_opd (x_idx (x_o 5) (snd_opd snd_int))) (x_consO (snd_opd (snd_kst (pe_ty "tuple" T.b_tuple) (fun _ _ => by rw [rd]))) snd_nilO))))) (snd_oneT (x_cmpT (opr_ne hr.u64) (x_o 5) (snd_opd (snd_tup (x_cons snd_str (x_cons (snd_tup (x_cons (x_fz 2) (x_cons (x_fz 3) snd_nilL))) snd_nilL))))))))
    (ss_cons (ss_ret snd_bl)
    ss_nil)
    ss_nil)
    (ss_cons (ss_ret (x_cmp (opr_eq hr.u64) (snd_opd (x_call T.d_input_row (G.g_input_row) hgd (hr.mono (by omega)) (takes_of rfl rfl rfl rfl) (x_val (x_fz 2) snd_nilA))) (snd_opd (snd_slc (x_o 0) (snd_pt (x_fz 1)) (snd_pt (x_fz 3))))))
    ss_nil)))))
theorem t_l_wrong_runs (T : Txt K mg) (G : Gs P w K mg base m) (FO : FldOk K (cx m)) (IO : IsaOk K (cx m)) (cdv : Value) (A : Around) (outer : List Env) (s : Shared) (H : Hp) (E : XK) (pn : Nat → Bool) (hgd : A.guards = some []) (hr : Room (2 * m + 3) (A.deeper (envOfC "_law_wrong_runs" (defScope s_l_wrong_runs) s.heap.objs.size (ga K "_law_wrong_runs") cdv))) :
    SSs (cxOf (L2.CX P w) P w K mg base ["_law_hand_here", "_law_runs_here", "_law_at", "_law_kind"] "_law_wrong_runs" (defScope s_l_wrong_runs) (ga K "_law_wrong_runs") cdv A outer s H E) (fun cls d _ H => E cls d H) pn (defBody s_l_wrong_runs) (evSL (cx m) pn b_l_wrong_runs) :=
  (ss_cons (x_set 2 sc_l_wrong_runs.nd (x_call T.d_l_draw (G.g_l_draw) hgd (hr.mono (by omega)) (takes_of rfl rfl rfl rfl) (x_ref 0 (x_val (snd_bin opr_add (snd_opd (x_bt clr_len T.b_len (x_consO (x_o 1) snd_nilO))) (snd_opd snd_int)) snd_nilA))))
    (ss_cons (x_set 3 sc_l_wrong_runs.nd (x_call T.d_l_draw (G.g_l_draw) hgd (hr.mono (by omega)) (takes_of rfl rfl rfl rfl) (x_ref 0 (x_val snd_int snd_nilA))))
    (ss_cons (ss_if (x_cmpT (opr_eq hr.u64) (x_o 3) (snd_opd snd_int))
    (ss_cons (ss_ret (snd_bin opr_add (snd_opd (snd_bin opr_add (snd_opd (snd_slc (x_o 1) snd_ptN (snd_pt (x_fz 2)))) (snd_opd (snd_lst (x_cons (snd_tup (x_cons (x_call T.d_l_byte (G.g_l_byte) hgd (hr.mono (by omega)) (takes_of rfl rfl rfl rfl) (x_ref 0 snd_nilA)) (x_cons snd_int snd_nilL))) snd_nilL))))) (snd_opd (snd_slc (x_o 1) (snd_pt (x_fz 2)) snd_ptN))))
    ss_nil)
    ss_nil)
    (ss_cons (ss_if (x_w (snd_andT (x_cmpT (opr_eq hr.u64) (x_o 3) (snd_opd snd_int)) (snd_oneT (x_cmpT opr_gt (x_o 2) (snd_opd snd_int)))))
    (ss_cons (ss_ret (snd_bin opr_add (snd_opd (snd_bin opr_add (snd_opd (snd_slc (x_o 1) snd_ptN (snd_pt (x_fz 2)))) (snd_opd (snd_lst (x_cons (snd_tup (x_cons (x_idx (snd_opd (x_idx (x_o 1) (snd_opd (snd_bin opr_sub (x_o 2) (snd_opd snd_int))))) (snd_opd snd_int)) (x_cons (snd_bin opr_add (snd_opd snd_int) (snd_opd (x_call T.d_l_draw (G.g_l_draw) hgd (hr.mono (by omega)) (takes_of rfl rfl rfl rfl) (x_ref 0 (x_val snd_int snd_nilA))))) snd_nilL))) snd_nilL))))) (snd_opd (snd_slc (x_o 1) (snd_pt (x_fz 2)) snd_ptN))))
    ss_nil)
    ss_nil)
    (ss_cons (ss_ret (snd_bin opr_add (snd_opd (snd_bin opr_add (snd_opd (snd_slc (x_o 1) snd_ptN (snd_pt (x_fz 2)))) (snd_opd (snd_lst (x_cons (snd_tup (x_cons (x_call T.d_l_byte (G.g_l_byte) hgd (hr.mono (by omega)) (takes_of rfl rfl rfl rfl) (x_ref 0 snd_nilA)) (x_cons (x_idx (snd_opd (snd_lst (x_cons snd_int (x_cons snd_int (x_cons snd_int (x_cons (snd_bin opr_pow (snd_opd snd_int) (snd_opd snd_int)) snd_nilL)))))) (snd_opd (x_call T.d_l_draw (G.g_l_draw) hgd (hr.mono (by omega)) (takes_of rfl rfl rfl rfl) (x_ref 0 (x_val snd_int snd_nilA))))) snd_nilL))) snd_nilL))))) (snd_opd (snd_slc (x_o 1) (snd_pt (x_fz 2)) snd_ptN))))
    ss_nil)))))
theorem t_l_is_guess (T : Txt K mg) (G : Gs P w K mg base m) (FO : FldOk K (cx m)) (IO : IsaOk K (cx m)) (cdv : Value) (A : Around) (outer : List Env) (s : Shared) (H : Hp) (E : XK) (pn : Nat → Bool) (hgd : A.guards = some []) (hr : Room (2 * m + 3) (A.deeper (envOfC "_law_is_guess" (defScope s_l_is_guess) s.heap.objs.size (ga K "_law_is_guess") cdv))) :
    SSs (cxOf (L2.CX P w) P w K mg base ["_law_hand_here", "_law_last", "_law_hold", "_law_ago", "_law_due"] "_law_is_guess" (defScope s_l_is_guess) (ga K "_law_is_guess") cdv A outer s H E) (fun cls d _ H => E cls d H) pn (defBody s_l_is_guess) (evSL (cx m) pn b_l_is_guess) :=
  (ss_cons (x_set 1 sc_l_is_guess.nd (x_idx (snd_opd (snd_lst (x_cons snd_non (x_cons snd_int (x_cons snd_int (x_cons (x_call T.d_l_draw (G.g_l_draw) hgd (hr.mono (by omega)) (takes_of rfl rfl rfl rfl) (x_ref 0 (x_val snd_int snd_nilA))) snd_nilL)))))) (snd_opd (x_call T.d_l_draw (G.g_l_draw) hgd (hr.mono (by omega)) (takes_of rfl rfl rfl rfl) (x_ref 0 (x_val snd_int snd_nilA))))))
    (ss_cons (x_set 2 sc_l_is_guess.nd (x_idx (snd_opd (snd_lst (x_cons snd_int (x_cons snd_int (x_cons snd_int (x_cons (x_call T.d_l_draw (G.g_l_draw) hgd (hr.mono (by omega)) (takes_of rfl rfl rfl rfl) (x_ref 0 (x_val snd_int snd_nilA))) snd_nilL)))))) (snd_opd (x_call T.d_l_draw (G.g_l_draw) hgd (hr.mono (by omega)) (takes_of rfl rfl rfl rfl) (x_ref 0 (x_val snd_int snd_nilA))))))
    (ss_cons (x_for (t := (.nm 3)) (passes_of rfl) (sit_seq (snd_lst (x_cons snd_int (x_cons (x_fz 2) (x_cons (snd_bin opr_add (x_o 2) (snd_opd snd_int)) (x_cons (x_bt (clr_max2 rfl) T.b_max (x_consO (snd_opd snd_int) (x_consO (snd_opd (snd_bin opr_sub (x_o 2) (snd_opd snd_int))) snd_nilO))) (x_cons snd_int (x_cons (x_call T.d_l_draw (G.g_l_draw) hgd (hr.mono (by omega)) (takes_of rfl rfl rfl rfl) (x_ref 0 (x_val snd_int snd_nilA))) snd_nilL)))))))) (x_gn 3 sc_l_is_guess.nd)
    (ss_cons (x_set 4 sc_l_is_guess.nd snd_int)
    (ss_cons (ss_if (x_w (snd_andT (x_cmpT opr_isnot (x_o 1) (snd_opd snd_non)) (snd_oneT (x_cmpT opr_le (x_o 3) (x_o 2)))))
    (ss_cons (x_set 4 sc_l_is_guess.nd (x_fz 1))
    ss_nil)
    ss_nil)
    (ss_cons (ss_if (snd_notT (x_t (x_call T.d_l_is (G.g_l_is) hgd (hr.mono (by omega)) (takes_of rfl rfl rfl rfl) (x_val (x_call T.d_guess (G.g_guess) hgd (hr.mono (by omega)) (takes_of rfl rfl rfl rfl) (x_val (x_fz 1) (x_val (x_fz 3) (x_val (x_fz 2) snd_nilA)))) (x_val (x_fz 4) snd_nilA)))))
    (ss_cons (ss_ret snd_bl)
    ss_nil)
    ss_nil)
    ss_nil))))
    (ss_cons (ss_ret snd_bl)
    ss_nil))))
theorem t_law (T : Txt K mg) (G : Gs P w K mg base m) (FO : FldOk K (cx m)) (IO : IsaOk K (cx m)) (cdv : Value) (A : Around) (outer : List Env) (s : Shared) (H : Hp) (E : XK) (pn : Nat → Bool) (hgd : A.guards = some []) (hr : Room (2 * m + 3) (A.deeper (envOfC "law" (defScope s_law) s.heap.objs.size (ga K "law") cdv))) :
    SSs (cxOf (L2.CX P w) P w K mg base ["_law_script", "_law_hand_here", "_law_many", "_law_runs_here", "_law_inputs", "_law_row", "_law_due", "_law_ahead", "_law_behind", "_law_turn", "_law_few", "_law_some", "_law_at", "_law_item", "_law_ticks_here"] "law" (defScope s_law) (ga K "law") cdv A outer s H E) (fun cls d _ H => E cls d H) pn (defBody s_law) (evSL (cx m) pn b_law) :=
  (ss_cons (x_own 1 sc_law.nd (x_callW T.d_l_hand (G.g_l_hand) hgd (hr.mono (by omega)) (takes_of rfl rfl rfl rfl) (x_val (x_fz 0) snd_nilA)))
    (ss_cons (x_set 2 sc_law.nd (x_call T.d_l_draw (G.g_l_draw) hgd (hr.mono (by omega)) (takes_of rfl rfl rfl rfl) (x_ref 1 (x_val snd_int snd_nilA))))
    (ss_cons (x_set 3 sc_law.nd (x_call T.d_l_runs (G.g_l_runs) hgd (hr.mono (by omega)) (takes_of rfl rfl rfl rfl) (x_ref 1 snd_nilA)))
    (ss_cons (x_set 4 sc_law.nd (x_call T.d_l_ticks (G.g_l_ticks) hgd (hr.mono (by omega)) (takes_of rfl rfl rfl rfl) (x_val (x_fz 3) snd_nilA)))
    (ss_cons (x_set 5 sc_law.nd (x_call T.d_input_row (G.g_input_row) hgd (hr.mono (by omega)) (takes_of rfl rfl rfl rfl) (x_val (x_fz 4) snd_nilA)))
    (ss_cons (x_set 6 sc_law.nd (x_call T.d_l_input_bytes (G.g_l_input_bytes) hgd (hr.mono (by omega)) (takes_of rfl rfl rfl rfl) (x_val (x_fz 4) snd_nilA)))
    (ss_cons (ss_if (snd_notT (x_t (x_call T.d_l_is (G.g_l_is) hgd (hr.mono (by omega)) (takes_of rfl rfl rfl rfl) (x_val (x_fz 5) (x_val (x_fz 6) snd_nilA)))))
    (ss_cons (ss_ret snd_bl)
    ss_nil)
    ss_nil)
    (ss_cons (x_set 7 sc_law.nd (x_call T.d_l_bytes (G.g_l_bytes) hgd (hr.mono (by omega)) (takes_of rfl rfl rfl rfl) (x_ref 1 (x_val snd_int snd_nilA))))
    (ss_cons (x_set 8 sc_law.nd (x_call T.d_l_bytes (G.g_l_bytes) hgd (hr.mono (by omega)) (takes_of rfl rfl rfl rfl) (x_ref 1 (x_val snd_int snd_nilA))))
    (ss_cons (ss_if (x_cmpT (opr_ne hr.u64) (snd_opd (x_call T.d_l_read_told (G.g_l_read_told) hgd (hr.mono (by omega)) (takes_of rfl rfl rfl rfl) (x_val (snd_bin opr_add (snd_opd (snd_bin opr_add (x_o 7) (x_o 6))) (x_o 8)) (x_val (x_bt clr_len T.b_len (x_consO (x_o 7) snd_nilO)) snd_nilA)))) (snd_opd (snd_tup (x_cons snd_str (x_cons (snd_tup (x_cons (x_fz 4) (x_cons (snd_bin opr_add (snd_opd (x_bt clr_len T.b_len (x_consO (x_o 7) snd_nilO))) (snd_opd (x_bt clr_len T.b_len (x_consO (x_o 6) snd_nilO)))) snd_nilL))) snd_nilL)))))
    (ss_cons (ss_ret snd_bl)
    ss_nil)
    ss_nil)
    (ss_cons (x_for (t := (.nm 9)) (passes_of rfl) (sit_rng1 (by rfl) T.b_range (x_cons (x_fz 2) snd_nilL) (by rfl) (by rfl)) (x_gn 9 sc_law.nd)
    (ss_cons (x_set 5 sc_law.nd (x_call T.d_l_spoilt (G.g_l_spoilt) hgd (hr.mono (by omega)) (takes_of rfl rfl rfl rfl) (x_ref 1 (x_val (x_fz 5) snd_nilA))))
    (ss_cons (ss_if (snd_notT (x_t (x_call T.d_l_is_told (G.g_l_is_told) hgd (hr.mono (by omega)) (takes_of rfl rfl rfl rfl) (x_val (snd_bin opr_add (snd_opd (snd_bin opr_add (x_o 7) (x_o 5))) (x_o 8)) (x_val (x_bt clr_len T.b_len (x_consO (x_o 7) snd_nilO)) snd_nilA)))))
    (ss_cons (ss_ret snd_bl)
    ss_nil)
    ss_nil)
    ss_nil)))
    (ss_cons (ss_setLc (i := 10) (own := [("_law_item", 13), ("_law_ticks_here", 14)]) (t := (.tup [13, 14])) (by rfl) sc_law.nd (by rfl) (by rfl) (by rfl) (sit_seq (x_fz 3)) (blkOk_by (own := [("_law_item", 13), ("_law_ticks_here", 14)]) (N := ["_law_script", "_law_hand_here", "_law_many", "_law_runs_here", "_law_inputs", "_law_row", "_law_due", "_law_ahead", "_law_behind", "_law_turn", "_law_few", "_law_some", "_law_at", "_law_item", "_law_ticks_here"]) (sc := defScope s_law) (by decide +kernel)) (by rfl) (fun _ z => by cases z) (fun _ _ _ _ _ => (pg_any (by rfl) (pgs_cons (x_gn 13 sc_law.nd) (pgs_cons (x_gn 14 sc_law.nd) pgs_nil)))) (fun _ _ _ _ _ => (ifs_yes (x_cmpT opr_lt (x_o 14) (snd_opd snd_int)))) (fun _ _ _ _ _ => (snd_tup (x_cons (x_fz 13) (x_cons (x_fz 14) snd_nilL)))) (by intro _; rfl))
    (ss_cons (ss_if (snd_notT (x_t (x_call T.d_l_is_told (G.g_l_is_told) hgd (hr.mono (by omega)) (takes_of rfl rfl rfl rfl) (x_val (snd_bin opr_add (x_o 7) (snd_opd (x_call T.d_l_run_bytes (G.g_l_run_bytes) hgd (hr.mono (by omega)) (takes_of rfl rfl rfl rfl) (x_val (x_call T.d_l_wrong_runs (G.g_l_wrong_runs) hgd (hr.mono (by omega)) (takes_of rfl rfl rfl rfl) (x_ref 1 (x_val (x_fz 10) snd_nilA))) snd_nilA)))) (x_val (x_bt clr_len T.b_len (x_consO (x_o 7) snd_nilO)) snd_nilA)))))
    (ss_cons (ss_ret snd_bl)
    ss_nil)
    ss_nil)
    (ss_cons (x_set 11 sc_law.nd (x_call T.d_l_bytes (G.g_l_bytes) hgd (hr.mono (by omega)) (takes_of rfl rfl rfl rfl) (x_ref 1 (x_val snd_int snd_nilA))))
    (ss_cons (x_for (t := (.nm 12)) (passes_of rfl) (sit_rng1 (by rfl) T.b_range (x_cons (snd_bin opr_add (snd_opd (x_bt clr_len T.b_len (x_consO (x_o 11) snd_nilO))) (snd_opd snd_int)) snd_nilL) (by rfl) (by rfl)) (x_gn 12 sc_law.nd)
    (ss_cons (ss_if (snd_notT (x_t (x_call T.d_l_is_told (G.g_l_is_told) hgd (hr.mono (by omega)) (takes_of rfl rfl rfl rfl) (x_val (x_fz 11) (x_val (x_fz 12) snd_nilA)))))
    (ss_cons (ss_ret snd_bl)
    ss_nil)
    ss_nil)
    ss_nil))
    (ss_cons (ss_ret (snd_and (x_call T.d_l_is_guess (G.g_l_is_guess) hgd (hr.mono (by omega)) (takes_of rfl rfl rfl rfl) (x_ref 1 snd_nilA)) (snd_one (x_cmp (opr_eq hr.u64) (snd_opd (x_call T.d_input_row (G.g_input_row) hgd (hr.mono (by omega)) (takes_of rfl rfl rfl rfl) (x_val (x_fz 4) snd_nilA))) (x_o 6)))))
    ss_nil))))))))))))))))
theorem gs0 : Gs P w K mg base 0 := ⟨Ev.fn0, Ev.fn0, Ev.fn0, Ev.fn0, Ev.fn0, Ev.fn0, Ev.fn0, Ev.fn0, Ev.fn0, Ev.fn0, Ev.fn0, Ev.fn0, Ev.fn0, Ev.fn0, Ev.fn0, Ev.fn0, Ev.fn0, Ev.fn0, Ev.fn0, Ev.fn0, Ev.fn0, Ev.fn0, Ev.fn0, Ev.fn0, Ev.fn0, Ev.fn0, Ev.fn0, Ev.fn0, Ev.fn0, Ev.fn0, Ev.fn0, Ev.fn0, Ev.fn0, Ev.fn0, Ev.fn0, Ev.fn0, Ev.fn0, Ev.fn0, Ev.fn0, Ev.fn0, Ev.fn0, Ev.fn0, Ev.fn0⟩
theorem gsS (T : Txt K mg) (G : Gs P w K mg base m) : Gs P w K mg base (m + 1) := ⟨
  fnS (by rfl) (fnE T.d__wall.F sc__wall (by decide) (t__wall T G (fo T) (io T))),
  fnX (by rfl),
  fnX (by rfl),
  fnS (by rfl) (fnE T.d_is_plain_integer.F sc_is_plain_integer (by decide) (t_is_plain_integer T G (fo T) (io T))),
  fnS (by rfl) (fnE T.d_is_between.F sc_is_between (by decide) (t_is_between T G (fo T) (io T))),
  fnS (by rfl) (fnE T.d_is_input.F sc_is_input (by decide) (t_is_input T G (fo T) (io T))),
  fnS (by rfl) (fnE T.d_is_tick.F sc_is_tick (by decide) (t_is_tick T G (fo T) (io T))),
  fnS (by rfl) (fnE T.d_are_told.F sc_are_told (by decide) (t_are_told T G (fo T) (io T))),
  fnS (by rfl) (fnE T.d_is_row.F sc_is_row (by decide) (t_is_row T G (fo T) (io T))),
  fnS (by rfl) (fnE T.d_whole.F sc_whole (by decide) (t_whole T G (fo T) (io T))),
  fnS (by rfl) (fnE T.d_whole_at.F sc_whole_at (by decide) (t_whole_at T G (fo T) (io T))),
  fnS (by rfl) (fnE T.d_check_place.F sc_check_place (by decide) (t_check_place T G (fo T) (io T))),
  fnS (by rfl) (fnE T.d_Reader_init.F sc_Reader_init (by decide) (t_Reader_init T G (fo T) (io T))),
  fnS (by rfl) (fnE T.d_Reader_byte.F sc_Reader_byte (by decide) (t_Reader_byte T G (fo T) (io T))),
  fnS (by rfl) (fnE T.d_Reader_whole.F sc_Reader_whole (by decide) (t_Reader_whole T G (fo T) (io T))),
  fnS (by rfl) (fnE T.d_Reader_signed.F sc_Reader_signed (by decide) (t_Reader_signed T G (fo T) (io T))),
  fnS (by rfl) (fnE T.d_Reader_wholes.F sc_Reader_wholes (by decide) (t_Reader_wholes T G (fo T) (io T))),
  fnS (by rfl) (fnE T.d_Reader_signeds.F sc_Reader_signeds (by decide) (t_Reader_signeds T G (fo T) (io T))),
  fnS (by rfl) (fnE T.d_Reader_stretch.F sc_Reader_stretch (by decide) (t_Reader_stretch T G (fo T) (io T))),
  fnS (by rfl) (fnE T.d_Reader_close.F sc_Reader_close (by decide) (t_Reader_close T G (fo T) (io T))),
  fnS (by rfl) (fnE T.d_runs_of.F sc_runs_of (by decide) (t_runs_of T G (fo T) (io T))),
  fnS (by rfl) (fnE T.d_input_row.F sc_input_row (by decide) (t_input_row T G (fo T) (io T))),
  fnS (by rfl) (fnE T.d_inputs_read.F sc_inputs_read (by decide) (t_inputs_read T G (fo T) (io T))),
  fnS (by rfl) (fnE T.d_read_inputs.F sc_read_inputs (by decide) (t_read_inputs T G (fo T) (io T))),
  fnS (by rfl) (fnE T.d_guess.F sc_guess (by decide) (t_guess T G (fo T) (io T))),
  fnS (by rfl) (fnE T.d_l_hand.F sc_l_hand (by decide) (t_l_hand T G (fo T) (io T))),
  fnS (by rfl) (fnE T.d_l_draw.F sc_l_draw (by decide) (t_l_draw T G (fo T) (io T))),
  fnS (by rfl) (fnE T.d_l_is.F sc_l_is (by decide) (t_l_is T G (fo T) (io T))),
  fnS (by rfl) (fnE T.d_l_whole.F sc_l_whole (by decide) (t_l_whole T G (fo T) (io T))),
  fnS (by rfl) (fnE T.d_l_read.F sc_l_read (by decide) (t_l_read T G (fo T) (io T))),
  fnS (by rfl) (fnE T.d_l_byte.F sc_l_byte (by decide) (t_l_byte T G (fo T) (io T))),
  fnS (by rfl) (fnE T.d_l_bytes.F sc_l_bytes (by decide) (t_l_bytes T G (fo T) (io T))),
  fnS (by rfl) (fnE T.d_l_spoilt.F sc_l_spoilt (by decide) (t_l_spoilt T G (fo T) (io T))),
  fnS (by rfl) (fnE T.d_l_runs.F sc_l_runs (by decide) (t_l_runs T G (fo T) (io T))),
  fnS (by rfl) (fnE T.d_l_ticks.F sc_l_ticks (by decide) (t_l_ticks T G (fo T) (io T))),
  fnS (by rfl) (fnE T.d_l_run_bytes.F sc_l_run_bytes (by decide) (t_l_run_bytes T G (fo T) (io T))),
  fnS (by rfl) (fnE T.d_l_input_bytes.F sc_l_input_bytes (by decide) (t_l_input_bytes T G (fo T) (io T))),
  fnS (by rfl) (fnE T.d_l_parsed.F sc_l_parsed (by decide) (t_l_parsed T G (fo T) (io T))),
  fnS (by rfl) (fnE T.d_l_read_told.F sc_l_read_told (by decide) (t_l_read_told T G (fo T) (io T))),
  fnS (by rfl) (fnE T.d_l_is_told.F sc_l_is_told (by decide) (t_l_is_told T G (fo T) (io T))),
  fnS (by rfl) (fnE T.d_l_wrong_runs.F sc_l_wrong_runs (by decide) (t_l_wrong_runs T G (fo T) (io T))),
  fnS (by rfl) (fnE T.d_l_is_guess.F sc_l_is_guess (by decide) (t_l_is_guess T G (fo T) (io T))),
  fnS (by rfl) (fnE T.d_law.F sc_law (by decide) (t_law T G (fo T) (io T)))⟩
theorem gs (T : Txt K mg) : ∀ m, Gs P w K mg base m
  | 0 => gs0
  | m + 1 => gsS T (gs T m)
end
end K26

set_option Elab.async false
set_option linter.all false
set_option maxRecDepth 100000
set_option maxHeartbeats 400000
namespace K26
open PySem PySem.Spec PyProof.Rows L2 He Gw Ev
local macro_rules | `(tactic| walk_at "evs") => `(tactic| first | exact Nat.le_of_ble_eq_true rfl | omega | exact Ev.mulOk_r (by omega) | exact Ev.mulOk_l (by omega) | rfl | assumption | exact ⟨by omega, by omega⟩ | exact ⟨rfl, Nat.le_of_ble_eq_true rfl⟩ | (refine Ev.sizeLine_le ?_; omega))
local macro_rules | `(tactic| walk_at "ev1") => `(tactic| (conv => whnf) <;> first
  | refine Ev.ex_some rfl ?_
  | refine Ev.nd (by walk_at "evs") ?_
  | refine Ev.br_t rfl ?_
  | refine Ev.br_f rfl ?_)
local macro_rules | `(tactic| walk_at "ev") => `(tactic| ((repeat walk_at "ev1"); (try (conv => whnf))))
local macro_rules | `(tactic| walk_at "evn") => `(tactic| first | exact List.nodup_nil | exact Ev.nd1)

abbrev hd (cells : List Int) (i b s c : Int) : Wv := .ol [.lst (cells.map .int), .int i, .int b, .int s, .int c]
def HandOk (w : Wv) : Prop := ∃ cells i b s c, w = hd cells i b s c ∧ 0 ≤ i
theorem draw (m : Nat) {w : Wv} (many : Int) (hw : HandOk w) (hm : 0 < many) (hm2 : many < 2 ^ 66) : Calls (cx (m + 1)) 26 [w, .fz (.int many)] (fun r outs => ∃ x w', r = .fz (.int x) ∧ outs = [w', .fz (.int many)] ∧ HandOk w' ∧ 0 ≤ x ∧ x < many) (fun _ _ => False) := by
  obtain ⟨cells, i, b, s, c, rfl, hi⟩ := hw
  have e1 : ∀ x : Int, 0 ≤ x % many := fun x => Int.emod_nonneg x (by omega)
  have e2 : ∀ x : Int, x % many < many := fun x => Int.emod_lt_of_pos x hm
  refine calls_of (by rfl) (by rfl) ?_
  walk_at "ev"
  first | refine br_b (fun hb => ?_) (fun hb => ?_) | refine br_n (fun hb => ?_) (fun hb => ?_) | refine br (fun hb => ?_) (fun hb => ?_)
  · walk_at "ev"
    first | refine br_b (fun hl => ?_) (fun hl => ?_) | refine br_n (fun hl => ?_) (fun hl => ?_) | refine br (fun hl => ?_) (fun hl => ?_)
    · obtain ⟨x, ex⟩ := idx_ints hi hl
      walk_at "ev"
      refine ex_some ex ?_
      walk_at "ev"
      first | refine br_b (fun hx => ?_) (fun hx => ?_) | refine br_n (fun hx => ?_) (fun hx => ?_) | refine br (fun hx => ?_) (fun hx => ?_)
      · walk_at "ev"
        first | refine br_b (fun hp => ?_) (fun hp => ?_) | refine br_n (fun hp => ?_) (fun hp => ?_) | refine br (fun hp => ?_) (fun hp => ?_)
        · walk_at "ev"
          exact ⟨_, _, rfl, rfl, ⟨_, _, _, _, _, rfl, by omega⟩, e1 _, e2 _⟩
        · walk_at "ev"
          exact ⟨_, _, rfl, rfl, ⟨_, _, _, _, _, rfl, by omega⟩, e1 _, e2 _⟩
      · walk_at "ev"
        first | refine br_b (fun hp => ?_) (fun hp => ?_) | refine br_n (fun hp => ?_) (fun hp => ?_) | refine br (fun hp => ?_) (fun hp => ?_)
        · walk_at "ev"
          exact ⟨_, _, rfl, rfl, ⟨_, _, _, _, _, rfl, by omega⟩, e1 _, e2 _⟩
        · walk_at "ev"
          exact ⟨_, _, rfl, rfl, ⟨_, _, _, _, _, rfl, by omega⟩, e1 _, e2 _⟩
    · walk_at "ev"
      first | refine br_b (fun hp => ?_) (fun hp => ?_) | refine br_n (fun hp => ?_) (fun hp => ?_) | refine br (fun hp => ?_) (fun hp => ?_)
      · walk_at "ev"
        exact ⟨_, _, rfl, rfl, ⟨_, _, _, _, _, rfl, by omega⟩, e1 _, e2 _⟩
      · walk_at "ev"
        exact ⟨_, _, rfl, rfl, ⟨_, _, _, _, _, rfl, by omega⟩, e1 _, e2 _⟩
  · walk_at "ev"
    first | refine br_b (fun hp => ?_) (fun hp => ?_) | refine br_n (fun hp => ?_) (fun hp => ?_) | refine br (fun hp => ?_) (fun hp => ?_)
    · walk_at "ev"
      exact ⟨_, _, rfl, rfl, ⟨_, _, _, _, _, rfl, by omega⟩, e1 _, e2 _⟩
    · walk_at "ev"
      exact ⟨_, _, rfl, rfl, ⟨_, _, _, _, _, rfl, by omega⟩, e1 _, e2 _⟩
end K26

set_option Elab.async false
set_option linter.all false
set_option maxRecDepth 100000
set_option maxHeartbeats 400000
namespace K26
open PySem PySem.Spec PyProof.Rows L2 He Gw Ev
local macro_rules | `(tactic| walk_at "evs") => `(tactic| first | exact Nat.le_of_ble_eq_true rfl | omega | exact Ev.mulOk_r (by omega) | exact Ev.mulOk_l (by omega) | rfl | assumption | exact ⟨by omega, by omega⟩ | exact ⟨rfl, Nat.le_of_ble_eq_true rfl⟩ | (refine Ev.sizeLine_le ?_; omega))
local macro_rules | `(tactic| walk_at "ev1") => `(tactic| (conv => whnf) <;> first
  | refine Ev.ex_some rfl ?_
  | refine Ev.nd (by walk_at "evs") ?_
  | refine Ev.br_t rfl ?_
  | refine Ev.br_f rfl ?_)
local macro_rules | `(tactic| walk_at "ev") => `(tactic| ((repeat walk_at "ev1"); (try (conv => whnf))))
local macro_rules | `(tactic| walk_at "evn") => `(tactic| first | exact List.nodup_nil | exact Ev.nd1)

abbrev row (xs : List Int) : D := .tup (xs.map .int)
theorem isrow (m : Nat) (xs : List Int) (hb : Bytes xs) (hl : xs.length ≤ 300000) : Ret (cx (m + 1)) 8 [.fz (row xs)] (.fz (.bl true)) := by
  refine calls_of (by rfl) (by rfl) ?_
  walk_at "ev"
  refine br_f (decide_eq_false (by simp; omega)) ?_
  walk_at "ev"
  refine for_inv (fun k e => ∃ o, e = [some (.fz (row xs)), o]) ⟨_, rfl⟩ (fun k d e hd ⟨o, he⟩ => ?_) fun e ⟨o, he⟩ => ?_
  · subst he
    obtain ⟨x, hx, rfl⟩ := map_get hd
    have hb := hb x (List.mem_of_getElem? hx)
    walk_at "ev"
    refine br_f (decide_eq_false (by omega)) ?_
    walk_at "ev"
    refine br_f (decide_eq_false (by omega)) ?_
    walk_at "ev"
    exact ⟨_, rfl⟩
  · subst he
    walk_at "ev"
    exact ⟨rfl, rfl⟩
theorem plain (m : Nat) (i : Int) : Ret (cx (m + 1)) 3 [.fz (.int i)] (.fz (.bl true)) := by
  refine calls_of (by rfl) (by rfl) ?_
  walk_at "ev"
  exact ⟨rfl, rfl⟩
theorem between (m : Nat) (a b i : Int) (h1 : a ≤ i) (h2 : i ≤ b) : Ret (cx (m + 2)) 4 [.fz (.int a), .fz (.int b), .fz (.int i)] (.fz (.bl true)) := by
  refine calls_of (by rfl) (by rfl) ?_
  walk_at "ev"
  refine call_ret (plain m i) (by walk_at "evn") rfl ?_
  walk_at "ev"
  refine br_t (decide_eq_true h1) ?_
  walk_at "ev"
  exact ⟨by rw [decide_eq_true h2], rfl⟩
theorem hand (m : Nat) (ns : List Int) (hn : ns.length ≤ 63) : Calls (cx (m + 1)) 25 [.fz (.scr ns)] (fun r o => HandOk r ∧ o = [.fz (.scr ns)]) fun _ _ => False := by
  refine calls_of (by rfl) (by rfl) ?_
  walk_at "ev"
  refine nd (sizeLine_le ?_) ?_
  · rw [List.length_map]
    have := cutL_len ns none (some 63)
    omega
  refine tu_inv (fun k rs e => ∃ xs : List Int, rs = xs.map .int ∧ e = [some (.fz (.scr ns)), none]) ⟨[], rfl, rfl⟩ (fun k d rs e hd ⟨xs, h1, h2⟩ => ?_) fun rs e ⟨xs, h1, h2⟩ => ?_
  · subst h1 h2
    obtain ⟨x, hx, rfl⟩ := map_get hd
    walk_at "ev"
    exact ⟨xs ++ [_], by rw [List.map_append]; rfl, rfl⟩
  · subst h1 h2
    walk_at "ev"
    exact ⟨⟨_, _, _, _, _, rfl, by omega⟩, rfl⟩
theorem idx_mem {xs : List Int} {i : Int} (h0 : 0 ≤ i) (h1 : i < xs.length) : ∃ y, y ∈ xs ∧ opD .idx [.lst (xs.map .int), .int i] = some (.int y) := by
  obtain ⟨k, rfl⟩ := Int.eq_ofNat_of_zero_le h0
  have hk : k < xs.length := by omega
  exact ⟨xs[k], List.getElem_mem hk, atI_nat (by rw [List.getElem?_map, List.getElem?_eq_getElem hk] <;> rfl)⟩
theorem byte (m : Nat) {w : Wv} (hw : HandOk w) : Calls (cx (m + 2)) 30 [w] (fun r o => ∃ x w', r = .fz (.int x) ∧ o = [w'] ∧ HandOk w' ∧ 0 ≤ x ∧ x ≤ 255) fun _ _ => False := by
  obtain ⟨cells, i, b, s, c, rfl, hi⟩ := hw
  refine calls_of (by rfl) (by rfl) ?_
  walk_at "ev"
  refine call_by (draw m 2 ⟨_, _, _, _, _, rfl, hi⟩ (by decide) (by decide)) (by walk_at "evn") rfl ?_
  intro r o ⟨x, w', e1, e2, ⟨cells, i, b, s, c, ew, hi⟩, hx0, hx1⟩
  subst e1 e2 ew
  walk_at "ev"
  first | refine br_b (fun h => ?_) (fun h => ?_) | refine br_n (fun h => ?_) (fun h => ?_) | refine br (fun h => ?_) (fun h => ?_)
  · walk_at "ev"
    refine call_by (draw m 6 ⟨_, _, _, _, _, rfl, hi⟩ (by decide) (by decide)) (by walk_at "evn") rfl ?_
    intro r o ⟨x, w', e1, e2, ⟨cells, i, b, s, c, ew, hi⟩, hx0, hx1⟩
    subst e1 e2 ew
    obtain ⟨y, hy, e⟩ := idx_mem (xs := [0, 1, 127, 128, 129, 255]) hx0 hx1
    walk_at "ev"
    refine ex_some e ?_
    walk_at "ev"
    simp only [List.mem_cons, List.not_mem_nil, or_false] at hy
    exact ⟨_, _, rfl, rfl, ⟨_, _, _, _, _, rfl, hi⟩, by omega, by omega⟩
  · walk_at "ev"
    refine call_by (draw m 256 ⟨_, _, _, _, _, rfl, hi⟩ (by decide) (by decide)) (by walk_at "evn") rfl ?_
    intro r o ⟨x, w', e1, e2, ⟨cells, i, b, s, c, ew, hi⟩, hx0, hx1⟩
    subst e1 e2 ew
    walk_at "ev"
    exact ⟨_, _, rfl, rfl, ⟨_, _, _, _, _, rfl, hi⟩, by omega, by omega⟩
theorem bytes (m : Nat) {w : Wv} (most : Int) (hw : HandOk w) (h0 : 0 ≤ most) (h1 : most < 1000) : Calls (cx (m + 3)) 31 [w, .fz (.int most)] (fun r o => ∃ xs w', r = .fz (row xs) ∧ o = [w', .fz (.int most)] ∧ HandOk w' ∧ Bytes xs ∧ (xs.length : Int) ≤ most) fun _ _ => False := by
  obtain ⟨cells, i, b, s, c, rfl, hi⟩ := hw
  refine calls_of (by rfl) (by rfl) ?_
  walk_at "ev"
  refine call_by (draw (m + 1) (most + 1) ⟨_, _, _, _, _, rfl, hi⟩ (by omega) (by omega)) (by walk_at "evn") rfl ?_
  intro r o ⟨x, w', e1, e2, hw', hx0, hx1⟩
  subst e1 e2
  walk_at "ev"
  refine ex_some (rng_ok (by omega) hx0) ?_
  walk_at "ev"
  refine nd (sizeLine_le ?_) ?_
  · rw [List.length_map, List.length_range]
    omega
  refine tu_inv (fun k rs e => ∃ w ys, HandOk w ∧ Bytes ys ∧ ys.length = k ∧ rs = ys.map .int ∧ e = [some w, some (.fz (.int most)), none]) ⟨_, [], hw', fun _ z => (by cases z), rfl, rfl, rfl⟩ (fun k d' rs e hd' ⟨w, ys, hw, hys, hk, h1, h2⟩ => ?_) fun rs e ⟨w, ys, hw, hys, hk, h1, h2⟩ => ?_
  · subst h1 h2
    walk_at "ev"
    refine call_by (byte m hw) (by walk_at "evn") rfl ?_
    intro r o ⟨x, w', e1, e2, hw', hx0, hx1⟩
    subst e1 e2
    walk_at "ev"
    exact ⟨_, ys ++ [x], hw', hys.app (.one hx0 hx1), by rw [List.length_append, hk]; rfl, by rw [List.map_append]; rfl, rfl⟩
  · subst h1 h2
    rw [List.length_map, List.length_range] at hk
    obtain ⟨cells, i, b, s, c, rfl, hi⟩ := hw
    walk_at "ev"
    exact ⟨ys, _, rfl, rfl, ⟨_, _, _, _, _, rfl, hi⟩, hys, by omega⟩
theorem between_f (m : Nat) (a b i : Int) (h : ¬ (a ≤ i ∧ i ≤ b)) : Ret (cx (m + 2)) 4 [.fz (.int a), .fz (.int b), .fz (.int i)] (.fz (.bl false)) := by
  refine calls_of (by rfl) (by rfl) ?_
  walk_at "ev"
  refine call_ret (plain m i) (by walk_at "evn") rfl ?_
  walk_at "ev"
  first | refine br_b (fun h1 => ?_) (fun h1 => ?_) | refine br_n (fun h1 => ?_) (fun h1 => ?_) | refine br (fun h1 => ?_) (fun h1 => ?_)
  · walk_at "ev"
    exact ⟨by rw [decide_eq_false (fun h2 => h ⟨h1, h2⟩)], rfl⟩
  · walk_at "ev"
    exact ⟨rfl, rfl⟩
/-! ### equal through and through -/
inductive Pl : Nat → D → Prop
  | int {k : Nat} (i : Int) : Pl k (.int i)
  | str {k : Nat} (x : Str) (h : opD .eq [.str x, .str x] = some (.bl true)) : Pl k (.str x)
  | tup {k : Nat} (ds : List D) (hl : ds.length ≤ 300000) (h : ∀ d ∈ ds, Pl k d) : Pl (k + 1) (.tup ds)
theorem all_true (n : Nat) : opD .all [.lst (List.replicate n (.bl true))] = some (.bl true) := by
  have e : ∀ n : Nat, blL (List.replicate n (D.bl true)) = some (List.replicate n true) := fun n => by
    induction n with
    | zero => rfl
    | succ n ih => rw [List.replicate_succ, blL, ih]; rfl
  show (((blL _).map fun bs => bs.all id)).map D.bl = _
  rw [e]
  show some (D.bl ((List.replicate n true).all id)) = _
  congr 2
  induction n with
  | zero => rfl
  | succ n ih => rw [List.replicate_succ, List.all_cons, ih]; rfl
theorem is_refl (k : Nat) : ∀ (m : Nat) (d : D), Pl k d → Ret (cx (m + k + 1)) 27 [.fz d, .fz d] (.fz (.bl true)) := by
  induction k with
  | zero =>
    intro m d h
    cases h with
    | int i =>
      refine calls_of (by rfl) (by rfl) ?_
      walk_at "ev"
      exact ⟨by rw [decide_eq_true rfl], rfl⟩
    | str x h =>
      refine calls_of (by rfl) (by rfl) ?_
      walk_at "ev"
      refine ex_some h ?_
      walk_at "ev"
      exact ⟨rfl, rfl⟩
  | succ k ih =>
    intro m d h
    cases h with
    | int i =>
      refine calls_of (by rfl) (by rfl) ?_
      walk_at "ev"
      exact ⟨by rw [decide_eq_true rfl], rfl⟩
    | str x h =>
      refine calls_of (by rfl) (by rfl) ?_
      walk_at "ev"
      refine ex_some h ?_
      walk_at "ev"
      exact ⟨rfl, rfl⟩
    | tup ds hl h =>
      refine calls_of (by rfl) (by rfl) ?_
      walk_at "ev"
      refine br_t (by simp) ?_
      walk_at "ev"
      refine nd (sizeLine_le ?_) ?_
      · rw [List.length_zipWith]
        omega
      refine tu_inv (fun j rs e => rs = List.replicate j (.bl true) ∧ e = [some (.fz (.tup ds)), some (.fz (.tup ds)), none, none]) ⟨rfl, rfl⟩ (fun j d' rs e hd ⟨h1, h2⟩ => ?_) fun rs e ⟨h1, h2⟩ => ?_
      · subst h1 h2
        rw [List.getElem?_zipWith] at hd
        cases z : ds[j]? with
        | none => rw [z] at hd; cases hd
        | some x =>
          rw [z] at hd
          cases hd
          walk_at "ev"
          refine call_ret (ih m x (h x (List.mem_of_getElem? z))) (by walk_at "evn") rfl ?_
          walk_at "ev"
          exact ⟨by rw [List.replicate_succ'], rfl⟩
      · subst h1 h2
        walk_at "ev"
        refine ex_some (all_true _) ?_
        walk_at "ev"
        exact ⟨rfl, rfl⟩
end K26

set_option Elab.async false
set_option linter.all false
set_option maxRecDepth 100000
set_option maxHeartbeats 400000
namespace K26
open PySem PySem.Spec PyProof.Rows L2 He Gw Ev
local macro_rules | `(tactic| walk_at "evs") => `(tactic| first | exact Nat.le_of_ble_eq_true rfl | omega | exact Ev.mulOk_r (by omega) | exact Ev.mulOk_l (by omega) | rfl | assumption | exact ⟨by omega, by omega⟩ | exact ⟨rfl, Nat.le_of_ble_eq_true rfl⟩ | (refine Ev.sizeLine_le ?_; omega))
local macro_rules | `(tactic| walk_at "ev1") => `(tactic| (conv => whnf) <;> first
  | refine Ev.ex_some rfl ?_
  | refine Ev.nd (by walk_at "evs") ?_
  | refine Ev.br_t rfl ?_
  | refine Ev.br_f rfl ?_)
local macro_rules | `(tactic| walk_at "ev") => `(tactic| ((repeat walk_at "ev1"); (try (conv => whnf))))
local macro_rules | `(tactic| walk_at "evn") => `(tactic| first | exact List.nodup_nil | exact Ev.nd1)

/-! ### numbers as bytes -/
def whF : Nat → Int → List Int
  | 0, n => [n]
  | k + 1, n => if n < 128 then [n] else (n % 128 + 128) :: whF k (n / 128)
def wh (n : Int) : List Int := whF 9 n
theorem whF_ge {k : Nat} {n : Int} (h : ¬ n < 128) : whF (k + 1) n = (n % 128 + 128) :: whF k (n / 128) := by rw [whF, if_neg h]
theorem whF_lt {k : Nat} {n : Int} (h : n < 128) : whF k n = [n] := by cases k <;> simp [whF, h]
theorem whF_len (k : Nat) (n : Int) : (whF k n).length ≤ k + 1 := by
  induction k generalizing n with
  | zero => simp [whF]
  | succ k ih =>
    rw [whF]
    split
    · simp
    · rw [List.length_cons]
      have := ih (n / 128)
      omega
theorem whF_bytes (k : Nat) (n : Int) (h0 : 0 ≤ n) (h : n < 128 ^ (k + 1)) : Bytes (whF k n) := by
  induction k generalizing n with
  | zero =>
    intro x hx
    rw [whF, List.mem_singleton] at hx
    subst hx
    have : (128 : Int) ^ (0 + 1) = 128 := by decide
    omega
  | succ k ih =>
    rw [whF]
    split
    · intro x hx
      rw [List.mem_singleton] at hx
      subst hx
      omega
    · intro x hx
      rcases List.mem_cons.mp hx with rfl | hx
      · omega
      · refine ih (n / 128) (by omega) ?_ x hx
        have e : (128 : Int) ^ (k + 1 + 1) = 128 ^ (k + 1) * 128 := Int.pow_succ _ _
        exact Int.ediv_lt_of_lt_mul (by decide) (by omega)
theorem lt_pow {n : Int} (h : n < 18446744073709551616) : n < 128 ^ (9 + 1) := Int.lt_trans h (by decide)
theorem wh_bytes {n : Int} (h0 : 0 ≤ n) (h : n < 18446744073709551616) : Bytes (wh n) := whF_bytes 9 n h0 (lt_pow h)
theorem wh_len (n : Int) : (wh n).length ≤ 10 := whF_len 9 n
theorem whole (m : Nat) (n : Int) (h0 : 0 ≤ n) (h : n < 18446744073709551616) : Ret (cx (m + 3)) 9 [.fz (.int n)] (.fz (row (wh n))) := by
  refine calls_of (by rfl) (by rfl) ?_
  walk_at "ev"
  refine call_ret (between m 0 18446744073709551615 n h0 (by omega)) (by walk_at "evn") rfl ?_
  walk_at "ev"
  refine while_inv (fun k e => ∃ fs l, fs ++ whF k l = wh n ∧ fs.length + k = 9 ∧ 0 ≤ l ∧ l < 128 ^ (k + 1) ∧ e = [some (.fz (.int n)), some (.ol (fs.map .int)), some (.fz (.int l))]) 9 (by show 9 < 100000; decide) ⟨[], n, rfl, rfl, h0, lt_pow h, rfl⟩ fun k e ⟨fs, l, h1, h2, h3, h4, he⟩ => ?_
  subst he
  walk_at "ev"
  first | refine br_b (fun hl => ?_) (fun hl => ?_) | refine br_n (fun hl => ?_) (fun hl => ?_) | refine br (fun hl => ?_) (fun hl => ?_)
  · have hl : ¬ l < 128 := by omega
    cases k with
    | zero =>
      have : (128 : Int) ^ (0 + 1) = 128 := by decide
      omega
    | succ k =>
      rw [whF_ge hl] at h1
      walk_at "ev"
      refine ex_some (by show (if _ then _ else _) = _; rw [if_pos (by rw [List.length_map]; exact Nat.lt_of_lt_of_le (by omega) (sizeLine_le (n := 10) (by decide)))]) ?_
      walk_at "ev"
      refine ⟨k, Nat.lt_succ_self k, fs ++ [l % 128 + 128], l / 128, by rw [List.append_assoc]; exact h1, by rw [List.length_append]; show fs.length + 1 + k = 9; omega, by omega, ?_, by rw [List.map_append]; rfl⟩
      have e : (128 : Int) ^ (k + 1 + 1) = 128 ^ (k + 1) * 128 := Int.pow_succ _ _
      exact Int.ediv_lt_of_lt_mul (by decide) (by omega)
  · have hl : l < 128 := by omega
    rw [whF_lt hl] at h1
    walk_at "ev"
    refine nd (sizeLine_le ?_) ?_
    · rw [List.length_append, List.length_map]
      show fs.length + 1 ≤ _
      omega
    walk_at "ev"
    exact ⟨by rw [← h1]; unfold row; rw [List.map_append]; rfl, rfl⟩
theorem lwhole (m : Nat) (n : Int) (h0 : 0 ≤ n) (h : n < 18446744073709551616) : Ret (cx (m + 1)) 28 [.fz (.int n)] (.fz (row (wh n))) := by
  refine calls_of (by rfl) (by rfl) ?_
  walk_at "ev"
  refine for_inv (fun k e => ∃ fs l o, fs ++ whF (9 - k) l = wh n ∧ 0 ≤ l ∧ fs.length ≤ k ∧ (k ≤ 9 → l < 128 ^ (9 - k + 1)) ∧ (9 < k → False) ∧ e = [some (.fz (.int l)), some (.ol (fs.map .int)), o]) ⟨[], n, none, rfl, h0, Nat.le_refl _, fun _ => lt_pow h, fun z => absurd z (by decide), rfl⟩ (fun k d e hd ⟨fs, l, o, h1, h2, h3, h4, h5, he⟩ => ?_) fun e ⟨fs, l, o, h1, h2, h3, h4, h5, he⟩ => ?_
  · subst he
    have hk : k < 10 := (List.getElem?_eq_some_iff.mp hd).1
    walk_at "ev"
    first | refine br_b (fun hl => ?_) (fun hl => ?_) | refine br_n (fun hl => ?_) (fun hl => ?_) | refine br (fun hl => ?_) (fun hl => ?_)
    · rw [whF_lt hl] at h1
      have hl := wh_len n
      rw [← h1, List.length_append] at hl
      have hs : (fs.map D.int).length + ([D.int l] : List D).length ≤ sizeLine := sizeLine_le (by
        rw [List.length_map]
        have e1 : ([D.int l] : List D).length = 1 := rfl
        have e2 : ([l] : List Int).length = 1 := rfl
        omega)
      walk_at "ev"
      exact ⟨by rw [← h1]; unfold row; rw [List.map_append]; rfl, rfl⟩
    · have h4 := h4 (by omega)
      have hk9 : k ≠ 9 := fun z => by
        subst z
        have : (128 : Int) ^ (9 - 9 + 1) = 128 := by decide
        omega
      obtain ⟨j, hj⟩ : ∃ j, 9 - k = j + 1 := ⟨8 - k, by omega⟩
      rw [hj] at h1 h4
      rw [whF_ge hl] at h1
      walk_at "ev"
      refine ex_some (by show (if _ then _ else _) = _; rw [if_pos (by rw [List.length_map]; exact Nat.lt_of_lt_of_le (by omega) (sizeLine_le (n := 11) (by decide)))]) ?_
      walk_at "ev"
      have hj2 : 9 - (k + 1) = j := by omega
      refine ⟨fs ++ [l % 128 + 128], l / 128, _, by rw [List.append_assoc, hj2]; exact h1, by omega, by rw [List.length_append]; show fs.length + 1 ≤ _; omega, fun _ => ?_, fun z => by omega, by rw [List.map_append]; rfl⟩
      rw [hj2]
      have e : (128 : Int) ^ (j + 1 + 1) = 128 ^ (j + 1) * 128 := Int.pow_succ _ _
      exact Int.ediv_lt_of_lt_mul (by decide) (by omega)
  · exact (h5 (by show 9 < 10; decide)).elim
end K26

set_option Elab.async false
set_option linter.all false
set_option maxRecDepth 100000
set_option maxHeartbeats 400000
namespace K26
open PySem PySem.Spec PyProof.Rows L2 He Gw Ev
local macro_rules | `(tactic| walk_at "evs") => `(tactic| first | exact Nat.le_of_ble_eq_true rfl | omega | exact Ev.mulOk_r (by omega) | exact Ev.mulOk_l (by omega) | rfl | assumption | exact ⟨by omega, by omega⟩ | exact ⟨rfl, Nat.le_of_ble_eq_true rfl⟩ | (refine Ev.sizeLine_le ?_; omega))
local macro_rules | `(tactic| walk_at "ev1") => `(tactic| (conv => whnf) <;> first
  | refine Ev.ex_some rfl ?_
  | refine Ev.nd (by walk_at "evs") ?_
  | refine Ev.br_t rfl ?_
  | refine Ev.br_f rfl ?_)
local macro_rules | `(tactic| walk_at "ev") => `(tactic| ((repeat walk_at "ev1"); (try (conv => whnf))))
local macro_rules | `(tactic| walk_at "evn") => `(tactic| first | exact List.nodup_nil | exact Ev.nd1)

/-! ### numbers read -/
def stop : Nat → List Int → Option Nat
  | 0, _ => none
  | _ + 1, [] => none
  | f + 1, y :: ys => if y < 128 then some 0 else (stop f ys).map (· + 1)
def val : List Int → Int
  | [] => 0
  | y :: ys => y % 128 + 128 * val ys
def rdw (ys : List Int) : Option (Int × Nat) := (stop 10 ys).bind fun t => if (0 < t ∧ ys[t]? = some 0) ∨ 18446744073709551616 ≤ val (ys.take (t + 1)) then none else some (val (ys.take (t + 1)), t + 1)
theorem stop_of {f k : Nat} {ys : List Int} {y : Int} (h : ∀ i < k, ∃ z, ys[i]? = some z ∧ ¬ z < 128) (hk : k < f) (hy : ys[k]? = some y) (h2 : y < 128) : stop f ys = some k := by
  induction f generalizing k ys with
  | zero => omega
  | succ f ih =>
    cases ys with
    | nil => simp at hy
    | cons z ys =>
      rw [stop]
      cases k with
      | zero =>
        simp at hy
        subst hy
        rw [if_pos h2]
      | succ k =>
        obtain ⟨z', e, hz⟩ := h 0 (by omega)
        simp at e
        subst e
        rw [if_neg hz, ih (k := k) (fun i hi => by simpa using h (i + 1) (by omega)) (by omega) (by simpa using hy)]
        rfl
theorem stop_no {f : Nat} {ys : List Int} (h : ∀ i < f, ∀ z, ys[i]? = some z → ¬ z < 128) : stop f ys = none := by
  induction f generalizing ys with
  | zero => rfl
  | succ f ih =>
    cases ys with
    | nil => rfl
    | cons z ys =>
      rw [stop, if_neg (h 0 (by omega) z (by simp)), ih fun i hi z hz => h (i + 1) (by omega) z (by simpa using hz)]
      rfl
theorem val_snoc (zs : List Int) (y : Int) : val (zs ++ [y]) = val zs + y % 128 * 128 ^ zs.length := by
  induction zs with
  | nil =>
    show y % 128 + 128 * 0 = 0 + y % 128 * 1
    omega
  | cons z zs ih =>
    show z % 128 + 128 * val (zs ++ [y]) = z % 128 + 128 * val zs + y % 128 * 128 ^ (zs.length + 1)
    rw [ih, Int.pow_succ]
    generalize (128 : Int) ^ zs.length = p
    rw [Int.mul_add, ← Int.mul_assoc (y % 128), Int.mul_comm 128 (y % 128 * p)]
    omega
theorem idx_row {xs : List Int} {i : Nat} {y : Int} (h : xs[i]? = some y) : opD .idx [row xs, .int (i : Int)] = some (.int y) := atI_nat (by rw [List.getElem?_map, h]; rfl)
theorem whole_at (m : Nat) (xs : List Int) (at' : Nat) (hat : at' ≤ xs.length) : Calls (cx (m + 1)) 10 [.fz (row xs), .fz (.int (at' : Int))]
    (fun r o => ∃ v t, rdw (xs.drop at') = some (v, t) ∧ r = .fz (.tup [.int v, .int ((at' : Int) + (t : Int))]) ∧ o = [.fz (row xs), .fz (.int (at' : Int))])
    (fun x o => rdw (xs.drop at') = none ∧ x = ⟨"BadRow", ["place"], [.int (at' : Int)]⟩ ∧ o = [.fz (row xs), .fz (.int (at' : Int))]) := by
  refine calls_of (by rfl) (by rfl) ?_
  walk_at "ev"
  generalize hq : (if ((xs.map D.int).length : Int) < (at' : Int) + 10 then ((xs.map D.int).length : Int) else (at' : Int) + 10) = q
  have hq1 : q ≤ (at' : Int) + 10 ∧ q ≤ xs.length ∧ (at' : Int) ≤ q ∧ (q < (at' : Int) + 10 → q = xs.length) := by
    rw [List.length_map] at hq
    split at hq <;> omega
  refine for_inv (fun k e => (∀ i < k, ∃ z, (xs.drop at')[i]? = some z ∧ ¬ z < 128) ∧ ∃ o4 o5, e = [some (.fz (row xs)), some (.fz (.int (at' : Int))), some (.fz (.int (val ((xs.drop at').take k)))), some (.fz (.int (128 ^ k))), o4, o5]) ⟨fun i z => absurd z (by omega), _, _, rfl⟩ (fun k d e hd ⟨hi, o4, o5, he⟩ => ?_) fun e ⟨hi, o4, o5, he⟩ => ?_
  · subst he
    obtain ⟨hk, ed⟩ := List.getElem?_eq_some_iff.mp hd
    rw [List.length_map, List.length_range] at hk
    rw [List.getElem_map, List.getElem_range] at ed
    subst ed
    have hlt : at' + k < xs.length := by omega
    obtain ⟨y, hy⟩ : ∃ y, xs[at' + k]? = some y := ⟨_, List.getElem?_eq_getElem hlt⟩
    have hy2 : (xs.drop at')[k]? = some y := by rw [List.getElem?_drop]; exact hy
    have e1 := idx_row hy
    rw [show ((at' + k : Nat) : Int) = (at' : Int) + (k : Int) by omega] at e1
    have hs : val ((xs.drop at').take k) + y % 128 * 128 ^ k = val ((xs.drop at').take (k + 1)) := by
      rw [take_succ' hy2, val_snoc, List.length_take, Nat.min_eq_left (by rw [List.length_drop]; omega)]
    walk_at "ev"
    refine ex_some e1 ?_
    walk_at "ev"
    rw [hs]
    first | refine br_b (fun hlow => ?_) (fun hlow => ?_) | refine br_n (fun hlow => ?_) (fun hlow => ?_) | refine br (fun hlow => ?_) (fun hlow => ?_)
    · have st := stop_of hi (show k < 10 by omega) hy2 hlow
      have bad : (0 < k ∧ (xs.drop at')[k]? = some 0) ∨ 18446744073709551616 ≤ val ((xs.drop at').take (k + 1)) → rdw (xs.drop at') = none := fun h => by
        unfold rdw
        rw [st]
        exact if_pos h
      have good : ¬ ((0 < k ∧ (xs.drop at')[k]? = some 0) ∨ 18446744073709551616 ≤ val ((xs.drop at').take (k + 1))) → rdw (xs.drop at') = some (val ((xs.drop at').take (k + 1)), k + 1) := fun h => by
        unfold rdw
        rw [st]
        exact if_neg h
      walk_at "ev"
      first | refine br_b (fun hbig => ?_) (fun hbig => ?_) | refine br_n (fun hbig => ?_) (fun hbig => ?_) | refine br (fun hbig => ?_) (fun hbig => ?_)
      · walk_at "ev"
        exact ⟨bad (.inr (by omega)), rfl, rfl⟩
      · walk_at "ev"
        first | refine br_b (fun hz => ?_) (fun hz => ?_) | refine br_n (fun hz => ?_) (fun hz => ?_) | refine br (fun hz => ?_) (fun hz => ?_)
        · subst hz
          walk_at "ev"
          first | refine br_b (fun hp => ?_) (fun hp => ?_) | refine br_n (fun hp => ?_) (fun hp => ?_) | refine br (fun hp => ?_) (fun hp => ?_)
          · walk_at "ev"
            exact ⟨bad (.inl ⟨by omega, hy2⟩), rfl, rfl⟩
          · walk_at "ev"
            exact ⟨_, _, good (fun h => by rcases h with h | h <;> omega), by rw [show (at' : Int) + (k : Int) + 1 = (at' : Int) + ((k + 1 : Nat) : Int) by omega], rfl⟩
        · walk_at "ev"
          exact ⟨_, _, good (fun h => by
            rcases h with ⟨_, h⟩ | h
            · rw [hy2] at h
              cases h
              exact hz rfl
            · omega), by rw [show (at' : Int) + (k : Int) + 1 = (at' : Int) + ((k + 1 : Nat) : Int) by omega], rfl⟩
    · walk_at "ev"
      exact ⟨fun i h => by
        by_cases e : i = k
        · subst e
          exact ⟨y, hy2, hlow⟩
        · exact hi i (by omega), _, _, rfl⟩
  · subst he
    rw [List.length_map, List.length_range] at hi
    walk_at "ev"
    refine ⟨?_, rfl, rfl⟩
    unfold rdw
    rw [stop_no fun i h z hz => ?_]
    · rfl
    · have hl := (List.getElem?_eq_some_iff.mp hz).1
      rw [List.length_drop] at hl
      obtain ⟨z', e1, e2⟩ := hi i (by omega)
      rw [hz] at e1
      cases e1
      exact e2
end K26

set_option Elab.async false
set_option linter.all false
set_option maxRecDepth 100000
set_option maxHeartbeats 400000
namespace K26
open PySem PySem.Spec PyProof.Rows L2 He Gw Ev
local macro_rules | `(tactic| walk_at "evs") => `(tactic| first | exact Nat.le_of_ble_eq_true rfl | omega | exact Ev.mulOk_r (by omega) | exact Ev.mulOk_l (by omega) | rfl | assumption | exact ⟨by omega, by omega⟩ | exact ⟨rfl, Nat.le_of_ble_eq_true rfl⟩ | (refine Ev.sizeLine_le ?_; omega))
local macro_rules | `(tactic| walk_at "ev1") => `(tactic| (conv => whnf) <;> first
  | refine Ev.ex_some rfl ?_
  | refine Ev.nd (by walk_at "evs") ?_
  | refine Ev.br_t rfl ?_
  | refine Ev.br_f rfl ?_)
local macro_rules | `(tactic| walk_at "ev") => `(tactic| ((repeat walk_at "ev1"); (try (conv => whnf))))
local macro_rules | `(tactic| walk_at "evn") => `(tactic| first | exact List.nodup_nil | exact Ev.nd1)

theorem call_ex {C : Ct} {f : Nat} {os : List Ov} {env : En} {ws : List Wv} {R : Wv → List Wv → Prop} {E : Xc → List Wv → Prop} {Q : Wv → En → Prop} {X : XP} (h : Calls C f ws R E) (hn : (slots os).Nodup) (ha : Ev.resA env os = some ws) (q : ∀ r o, R r o → Q r (putA env os o)) (x : ∀ r o, E r o → X r (putA env os o)) : Post (callR C f os env) Q X :=
  post_call hn ha (Calls.imp h q x)
theorem place_ok (m : Nat) (xs : List Int) (hb : Bytes xs) (hl : xs.length ≤ 300000) (a : Nat) (hat : a ≤ xs.length) : Ret (cx (m + 3)) 11 [.fz (row xs), .fz (.int (a : Int))] (.fz .non) := by
  refine calls_of (by rfl) (by rfl) ?_
  walk_at "ev"
  refine call_ret (isrow (m + 1) xs hb hl) (by walk_at "evn") rfl ?_
  walk_at "ev"
  refine call_ret (between m 0 _ a (by omega) (by rw [List.length_map]; omega)) (by walk_at "evn") rfl ?_
  walk_at "ev"
  exact ⟨rfl, rfl⟩
def pairD (a : Nat) : Option (Int × Nat) → D
  | none => .non
  | some (v, t) => .tup [.int v, .int ((a : Int) + (t : Int))]
theorem stop_none {f k : Nat} {ys : List Int} (h : ∀ i < k, ∃ z, ys[i]? = some z ∧ ¬ z < 128) (hk : f ≤ k ∨ ys.length ≤ k) : stop f ys = none := stop_no fun i hi z hz => by
  have hl := (List.getElem?_eq_some_iff.mp hz).1
  obtain ⟨z', e1, e2⟩ := h i (by omega)
  rw [hz] at e1
  cases e1
  exact e2
theorem rng_dn (i j : Int) (h1 : -(2 ^ 62) ≤ i) (h2 : i < 2 ^ 62) (h3 : -(2 ^ 62) ≤ j) (h4 : j < 2 ^ 62) : rngI [.int i, .int j, .int (-1)] = some ((List.range (i - j).toNat).map fun k : Nat => .int (i - (k : Int))) := by
  unfold rngI
  dsimp only
  rw [if_pos ⟨rfl, h1, h2, h3, h4⟩]
theorem lread (m : Nat) (xs : List Int) (a : Nat) (hl : xs.length ≤ 300000) (hat : a ≤ xs.length) : Ret (cx (m + 1)) 29 [.fz (row xs), .fz (.int (a : Int))] (.fz (pairD a (rdw (xs.drop a)))) := by
  refine calls_of (by rfl) (by rfl) ?_
  walk_at "ev"
  refine for_inv (fun k e => (∀ i < k, ∃ z, (xs.drop a)[i]? = some z ∧ ¬ z < 128) ∧ ∃ o2 o3 o4, e = [some (.fz (row xs)), some (.fz (.int (a : Int))), o2, o3, o4]) ⟨fun i z => absurd z (by omega), _, _, _, rfl⟩ (fun k d e hd ⟨hi, o2, o3, o4, he⟩ => ?_) fun e ⟨hi, o2, o3, o4, he⟩ => ?_
  · subst he
    obtain ⟨hk, ed⟩ := List.getElem?_eq_some_iff.mp hd
    replace hk : k < 10 := hk
    rw [List.getElem_map, List.getElem_range] at ed
    subst ed
    walk_at "ev"
    first | refine br_b (fun hout => ?_) (fun hout => ?_) | refine br_n (fun hout => ?_) (fun hout => ?_) | refine br (fun hout => ?_) (fun hout => ?_)
    · rw [List.length_map] at hout
      walk_at "ev"
      refine ⟨?_, rfl⟩
      unfold rdw
      rw [stop_none hi (.inr (by rw [List.length_drop]; omega))]
      rfl
    · rw [List.length_map] at hout
      have hlt : a + k < xs.length := by omega
      obtain ⟨y, hy⟩ : ∃ y, xs[a + k]? = some y := ⟨_, List.getElem?_eq_getElem hlt⟩
      have hy2 : (xs.drop a)[k]? = some y := by rw [List.getElem?_drop]; exact hy
      have e1 := idx_row hy
      rw [show ((a + k : Nat) : Int) = (a : Int) + (k : Int) by omega] at e1
      walk_at "ev"
      refine ex_some e1 ?_
      walk_at "ev"
      first | refine br_b (fun hlow => ?_) (fun hlow => ?_) | refine br_n (fun hlow => ?_) (fun hlow => ?_) | refine br (fun hlow => ?_) (fun hlow => ?_)
      · have st := stop_of hi hk hy2 hlow
        have bad : (0 < k ∧ (xs.drop a)[k]? = some 0) ∨ 18446744073709551616 ≤ val ((xs.drop a).take (k + 1)) → rdw (xs.drop a) = none := fun h => by
          unfold rdw
          rw [st]
          exact if_pos h
        have good : ¬ ((0 < k ∧ (xs.drop a)[k]? = some 0) ∨ 18446744073709551616 ≤ val ((xs.drop a).take (k + 1))) → rdw (xs.drop a) = some (val ((xs.drop a).take (k + 1)), k + 1) := fun h => by
          unfold rdw
          rw [st]
          exact if_neg h
        walk_at "ev"
        first | refine br_b (fun hk0 => ?_) (fun hk0 => ?_) | refine br_n (fun hk0 => ?_) (fun hk0 => ?_) | refine br (fun hk0 => ?_) (fun hk0 => ?_)
        · walk_at "ev"
          refine ex_some e1 ?_
          walk_at "ev"
          first | refine br_b (fun hz0 => ?_) (fun hz0 => ?_) | refine br_n (fun hz0 => ?_) (fun hz0 => ?_) | refine br (fun hz0 => ?_) (fun hz0 => ?_)
          · subst hz0
            walk_at "ev"
            exact ⟨by rw [bad (.inl ⟨by omega, hy2⟩)]; rfl, rfl⟩
          · have hnz : ¬ (0 < k ∧ (xs.drop a)[k]? = some 0) := fun h => by rw [hy2] at h; exact hz0 (Option.some.inj h.2)
            walk_at "ev1"
            conv => whnf
            refine ex_some (rng_dn _ _ (by omega) (by omega) (by omega) (by omega)) ?_
            walk_at "ev"
            refine for_inv (fun j e => j ≤ k + 1 ∧ ∃ o4, e = [some (.fz (row xs)), some (.fz (.int (a : Int))), some (.fz (.int (k : Int))), some (.fz (.int (val (((xs.drop a).take (k + 1)).drop (k + 1 - j))))), o4]) ⟨by omega, _, by rw [Nat.sub_zero, List.drop_eq_nil_of_le (by rw [List.length_take]; omega)]; rfl⟩ (fun j d e hd ⟨hj, o4, he⟩ => ?_) fun e ⟨hj, o4, he⟩ => ?_
            · subst he
              obtain ⟨hk2, ed⟩ := List.getElem?_eq_some_iff.mp hd
              rw [List.length_map, List.length_range] at hk2
              rw [List.getElem_map, List.getElem_range] at ed
              subst ed
              have hjk : j < k + 1 := by omega
              have hlt2 : a + (k - j) < xs.length := by omega
              obtain ⟨z, hz⟩ : ∃ z, xs[a + (k - j)]? = some z := ⟨_, List.getElem?_eq_getElem hlt2⟩
              have e3 := idx_row hz
              rw [show ((a + (k - j) : Nat) : Int) = (a : Int) + (k : Int) - (j : Int) by omega] at e3
              have e4 : ((xs.drop a).take (k + 1)).drop (k + 1 - (j + 1)) = z :: ((xs.drop a).take (k + 1)).drop (k + 1 - j) := by
                have hlen : k + 1 - (j + 1) < ((xs.drop a).take (k + 1)).length := by rw [List.length_take, List.length_drop]; omega
                rw [List.drop_eq_getElem_cons hlen]
                congr 1
                · rw [List.getElem_take, List.getElem_drop]
                  have := List.getElem?_eq_getElem hlt2
                  rw [hz] at this
                  cases this
                  congr 1
                  omega
                · congr 1
                  omega
              walk_at "ev"
              refine ex_some e3 ?_
              walk_at "ev"
              refine ⟨hjk, some (.fz (.int ((a : Int) + (k : Int) - (j : Int)))), ?_⟩
              rw [e4, val, Int.add_comm (z % 128), Int.mul_comm 128]
              rfl
            · subst he
              have hlast : ((List.range (((a : Int) + (k : Int)) - ((a : Int) - 1)).toNat).map fun j : Nat => D.int (((a : Int) + (k : Int)) - (j : Int))).length = k + 1 := by
                rw [List.length_map, List.length_range]
                omega
              rw [hlast, Nat.sub_self, List.drop_zero]
              generalize val ((xs.drop a).take (k + 1)) = v at good bad ⊢
              walk_at "ev"
              first | refine br_b (fun hbig => ?_) (fun hbig => ?_) | refine br_n (fun hbig => ?_) (fun hbig => ?_) | refine br (fun hbig => ?_) (fun hbig => ?_)
              · walk_at "ev"
                refine ⟨by rw [bad (.inr hbig)]; rfl, rfl⟩
              · walk_at "ev"
                refine ⟨?_, rfl⟩
                rw [good (fun h => h.elim hnz fun z => hbig z)]
                show _ = Wv.fz (.tup [.int _, .int ((a : Int) + ((k + 1 : Nat) : Int))])
                rw [show (a : Int) + (k : Int) + 1 = (a : Int) + ((k + 1 : Nat) : Int) by omega]
        · have hnz : ¬ (0 < k ∧ (xs.drop a)[k]? = some 0) := fun h => by omega
          walk_at "ev1"
          walk_at "ev1"
          conv => whnf
          refine ex_some (rng_dn _ _ (by omega) (by omega) (by omega) (by omega)) ?_
          walk_at "ev"
          refine for_inv (fun j e => j ≤ k + 1 ∧ ∃ o4, e = [some (.fz (row xs)), some (.fz (.int (a : Int))), some (.fz (.int (k : Int))), some (.fz (.int (val (((xs.drop a).take (k + 1)).drop (k + 1 - j))))), o4]) ⟨by omega, _, by rw [Nat.sub_zero, List.drop_eq_nil_of_le (by rw [List.length_take]; omega)]; rfl⟩ (fun j d e hd ⟨hj, o4, he⟩ => ?_) fun e ⟨hj, o4, he⟩ => ?_
          · subst he
            obtain ⟨hk2, ed⟩ := List.getElem?_eq_some_iff.mp hd
            rw [List.length_map, List.length_range] at hk2
            rw [List.getElem_map, List.getElem_range] at ed
            subst ed
            have hjk : j < k + 1 := by omega
            have hlt2 : a + (k - j) < xs.length := by omega
            obtain ⟨z, hz⟩ : ∃ z, xs[a + (k - j)]? = some z := ⟨_, List.getElem?_eq_getElem hlt2⟩
            have e3 := idx_row hz
            rw [show ((a + (k - j) : Nat) : Int) = (a : Int) + (k : Int) - (j : Int) by omega] at e3
            have e4 : ((xs.drop a).take (k + 1)).drop (k + 1 - (j + 1)) = z :: ((xs.drop a).take (k + 1)).drop (k + 1 - j) := by
              have hlen : k + 1 - (j + 1) < ((xs.drop a).take (k + 1)).length := by rw [List.length_take, List.length_drop]; omega
              rw [List.drop_eq_getElem_cons hlen]
              congr 1
              · rw [List.getElem_take, List.getElem_drop]
                have := List.getElem?_eq_getElem hlt2
                rw [hz] at this
                cases this
                congr 1
                omega
              · congr 1
                omega
            walk_at "ev"
            refine ex_some e3 ?_
            walk_at "ev"
            refine ⟨hjk, some (.fz (.int ((a : Int) + (k : Int) - (j : Int)))), ?_⟩
            rw [e4, val, Int.add_comm (z % 128), Int.mul_comm 128]
            rfl
          · subst he
            have hlast : ((List.range (((a : Int) + (k : Int)) - ((a : Int) - 1)).toNat).map fun j : Nat => D.int (((a : Int) + (k : Int)) - (j : Int))).length = k + 1 := by
              rw [List.length_map, List.length_range]
              omega
            rw [hlast, Nat.sub_self, List.drop_zero]
            generalize val ((xs.drop a).take (k + 1)) = v at good bad ⊢
            walk_at "ev"
            first | refine br_b (fun hbig => ?_) (fun hbig => ?_) | refine br_n (fun hbig => ?_) (fun hbig => ?_) | refine br (fun hbig => ?_) (fun hbig => ?_)
            · walk_at "ev"
              refine ⟨by rw [bad (.inr hbig)]; rfl, rfl⟩
            · walk_at "ev"
              refine ⟨?_, rfl⟩
              rw [good (fun h => h.elim hnz fun z => hbig z)]
              show _ = Wv.fz (.tup [.int _, .int ((a : Int) + ((k + 1 : Nat) : Int))])
              rw [show (a : Int) + (k : Int) + 1 = (a : Int) + ((k + 1 : Nat) : Int) by omega]
      · walk_at "ev"
        exact ⟨fun i h => by
          by_cases e : i = k
          · subst e
            exact ⟨y, hy2, hlow⟩
          · exact hi i (by omega), _, _, _, rfl⟩
  · subst he
    replace hi : ∀ i < 10, ∃ z, (xs.drop a)[i]? = some z ∧ ¬ z < 128 := hi
    walk_at "ev"
    refine ⟨?_, rfl⟩
    unfold rdw
    rw [stop_none hi (.inl (by decide))]
    rfl
end K26

set_option Elab.async false
set_option linter.all false
set_option maxRecDepth 100000
set_option maxHeartbeats 400000
namespace K26
open PySem PySem.Spec PyProof.Rows L2 He Gw Ev
local macro_rules | `(tactic| walk_at "evs") => `(tactic| first | exact Nat.le_of_ble_eq_true rfl | omega | exact Ev.mulOk_r (by omega) | exact Ev.mulOk_l (by omega) | rfl | assumption | exact ⟨by omega, by omega⟩ | exact ⟨rfl, Nat.le_of_ble_eq_true rfl⟩ | (refine Ev.sizeLine_le ?_; omega))
local macro_rules | `(tactic| walk_at "ev1") => `(tactic| (conv => whnf) <;> first
  | refine Ev.ex_some rfl ?_
  | refine Ev.nd (by walk_at "evs") ?_
  | refine Ev.br_t rfl ?_
  | refine Ev.br_f rfl ?_)
local macro_rules | `(tactic| walk_at "ev") => `(tactic| ((repeat walk_at "ev1"); (try (conv => whnf))))
local macro_rules | `(tactic| walk_at "evn") => `(tactic| first | exact List.nodup_nil | exact Ev.nd1)

theorem whF_spec (k : Nat) (n : Int) (h0 : 0 ≤ n) (h : n < 128 ^ (k + 1)) : ∃ zs y, whF k n = zs ++ [y] ∧ (∀ z ∈ zs, ¬ z < 128) ∧ y < 128 ∧ 0 ≤ y ∧ val (zs ++ [y]) = n ∧ zs.length ≤ k ∧ (0 < n → y ≠ 0) ∧ (y = 0 → zs = []) := by
  induction k generalizing n with
  | zero =>
    have e : (128 : Int) ^ (0 + 1) = 128 := by decide
    refine ⟨[], n, rfl, fun z hz => (by cases hz), by omega, h0, ?_, Nat.le_refl _, fun h => by omega, fun _ => rfl⟩
    show n % 128 + 128 * 0 = n
    omega
  | succ k ih =>
    by_cases hl : n < 128
    · rw [whF_lt hl]
      refine ⟨[], n, rfl, fun z hz => (by cases hz), hl, h0, ?_, Nat.zero_le _, fun h => by omega, fun _ => rfl⟩
      show n % 128 + 128 * 0 = n
      omega
    · rw [whF_ge hl]
      have e : (128 : Int) ^ (k + 1 + 1) = 128 ^ (k + 1) * 128 := Int.pow_succ _ _
      obtain ⟨zs, y, h1, h2, h3, h4, h5, h6, h7, h8⟩ := ih (n / 128) (by omega) (Int.ediv_lt_of_lt_mul (by decide) (by omega))
      refine ⟨(n % 128 + 128) :: zs, y, by rw [h1]; rfl, fun z hz => ?_, h3, h4, ?_, by rw [List.length_cons]; omega, fun _ => h7 (by omega), fun z => absurd z (h7 (by omega))⟩
      · rcases List.mem_cons.mp hz with rfl | hz
        · omega
        · exact h2 z hz
      · show (n % 128 + 128) % 128 + 128 * val (zs ++ [y]) = n
        rw [h5]
        omega
theorem rdw_wh {n : Int} (bs : List Int) (h0 : 0 ≤ n) (h : n < 18446744073709551616) : rdw (wh n ++ bs) = some (n, (wh n).length) := by
  obtain ⟨zs, y, h1, h2, h3, h4, h5, h6, h7, h8⟩ := whF_spec 9 n h0 (lt_pow h)
  unfold wh
  rw [h1]
  have e1 : (zs ++ [y] ++ bs)[zs.length]? = some y := by
    rw [List.append_assoc, List.getElem?_append_right (Nat.le_refl _), Nat.sub_self]
    rfl
  have st : stop 10 (zs ++ [y] ++ bs) = some zs.length := stop_of (fun i hi => ⟨zs[i], by rw [List.append_assoc, List.getElem?_append_left hi, List.getElem?_eq_getElem hi], h2 _ (List.getElem_mem hi)⟩) (by omega) e1 h3
  have e2 : (zs ++ [y] ++ bs).take (zs.length + 1) = zs ++ [y] := List.take_left' (by rw [List.length_append]; rfl)
  unfold rdw
  rw [st]
  show (if (0 < zs.length ∧ (zs ++ [y] ++ bs)[zs.length]? = some 0) ∨ 18446744073709551616 ≤ val ((zs ++ [y] ++ bs).take (zs.length + 1)) then none else some (val ((zs ++ [y] ++ bs).take (zs.length + 1)), zs.length + 1)) = _
  rw [e1, e2, h5, if_neg, List.length_append]
  · rfl
  · intro z
    rcases z with ⟨z1, z2⟩ | z
    · have := h8 (Option.some.inj z2)
      rw [this] at z1
      exact absurd z1 (by decide)
    · omega
end K26

set_option Elab.async false
set_option linter.all false
set_option maxRecDepth 100000
set_option maxHeartbeats 400000
namespace K26
open PySem PySem.Spec PyProof.Rows L2 He Gw Ev
local macro_rules | `(tactic| walk_at "evs") => `(tactic| first | exact Nat.le_of_ble_eq_true rfl | omega | exact Ev.mulOk_r (by omega) | exact Ev.mulOk_l (by omega) | rfl | assumption | exact ⟨by omega, by omega⟩ | exact ⟨rfl, Nat.le_of_ble_eq_true rfl⟩ | (refine Ev.sizeLine_le ?_; omega))
local macro_rules | `(tactic| walk_at "ev1") => `(tactic| (conv => whnf) <;> first
  | refine Ev.ex_some rfl ?_
  | refine Ev.nd (by walk_at "evs") ?_
  | refine Ev.br_t rfl ?_
  | refine Ev.br_f rfl ?_)
local macro_rules | `(tactic| walk_at "ev") => `(tactic| ((repeat walk_at "ev1"); (try (conv => whnf))))
local macro_rules | `(tactic| walk_at "evn") => `(tactic| first | exact List.nodup_nil | exact Ev.nd1)

/-! ### stretches of one input -/
abbrev Run := Int × Int
def rstep (rs : List Run) (x : Int) : List Run := match rs.getLast? with
  | some p => if p.1 = x then rs.dropLast ++ [(x, p.2 + 1)] else rs ++ [(x, 1)]
  | none => [(x, 1)]
def rl (xs : List Int) : List Run := xs.foldl rstep []
def cat (rs : List Run) : List Int := rs.flatMap fun p => List.replicate p.2.toNat p.1
def rbs (rs : List Run) : List Int := rs.flatMap fun p => p.1 :: wh p.2
def rb (rs : List Run) : List Int := wh (rs.length : Int) ++ rbs rs
def AdjL : Option Int → List Run → Prop
  | _, [] => True
  | l, p :: ps => l ≠ some p.1 ∧ AdjL (some p.1) ps
theorem rstep_nil (x : Int) : rstep [] x = [(x, 1)] := rfl
theorem rstep_same (rs : List Run) (x n : Int) : rstep (rs ++ [(x, n)]) x = rs ++ [(x, n + 1)] := by
  unfold rstep
  rw [List.getLast?_append]
  simp
theorem rstep_other (rs : List Run) (y n x : Int) (h : y ≠ x) : rstep (rs ++ [(y, n)]) x = rs ++ [(y, n)] ++ [(x, 1)] := by
  unfold rstep
  rw [List.getLast?_append]
  simp [h]
theorem rl_snoc (xs : List Int) (x : Int) : rl (xs ++ [x]) = rstep (rl xs) x := by
  unfold rl
  rw [List.foldl_append]
  rfl
theorem last_of {α : Type} {rs : List α} (h : rs ≠ []) : ∃ qs q, rs = qs ++ [q] := ⟨rs.dropLast, rs.getLast h, (List.dropLast_concat_getLast h).symm⟩
theorem adj_snoc : ∀ (l : Option Int) (rs : List Run) (y n x : Int), AdjL l (rs ++ [(y, n)]) → y ≠ x → AdjL l (rs ++ [(y, n)] ++ [(x, 1)])
  | l, [], y, n, x, h, e => ⟨h.1, fun z => e (Option.some.inj z), trivial⟩
  | l, p :: ps, y, n, x, h, e => ⟨h.1, adj_snoc _ ps y n x h.2 e⟩
theorem adj_more : ∀ (l : Option Int) (rs : List Run) (y n k : Int), AdjL l (rs ++ [(y, n)]) → AdjL l (rs ++ [(y, k)])
  | l, [], y, n, k, h => ⟨h.1, trivial⟩
  | l, p :: ps, y, n, k, h => ⟨h.1, adj_more _ ps y n k h.2⟩
theorem cat_app (a b : List Run) : cat (a ++ b) = cat a ++ cat b := List.flatMap_append
theorem cat_one (x n : Int) : cat [(x, n)] = List.replicate n.toNat x := by simp [cat]
structure RlOk (rs : List Run) (xs : List Int) : Prop where
  cat : cat rs = xs
  pos : ∀ p ∈ rs, 1 ≤ p.2 ∧ p.2 ≤ (xs.length : Int)
  adj : AdjL none rs
  len : rs.length ≤ xs.length
  by_ : ∀ p ∈ rs, p.1 ∈ xs
theorem rlOk_step {rs : List Run} {xs : List Int} (h : RlOk rs xs) (x : Int) : RlOk (rstep rs x) (xs ++ [x]) := by
  have e1 : (xs ++ [x]).length = xs.length + 1 := by simp
  by_cases h0 : rs = []
  · subst h0
    have hx : xs = [] := h.cat.symm
    subst hx
    rw [rstep_nil]
    exact ⟨by rw [cat_one]; rfl, fun p hp => by rw [List.mem_singleton.mp hp]; exact ⟨by show (1 : Int) ≤ 1; decide, by show (1 : Int) ≤ (([] ++ [x] : List Int).length : Int); simp⟩, ⟨fun z => (by cases z), trivial⟩, Nat.le_refl _, fun p hp => by rw [List.mem_singleton.mp hp]; exact List.mem_cons_self⟩
  · obtain ⟨qs, ⟨y, n⟩, rfl⟩ := last_of h0
    have hn := h.pos (y, n) (List.mem_append_right _ List.mem_cons_self)
    by_cases e : y = x
    · subst e
      rw [rstep_same]
      refine ⟨?_, fun p hp => ?_, adj_more _ _ _ _ _ h.adj, by have := h.len; rw [List.length_append] at this ⊢; rw [e1]; exact Nat.le_succ_of_le this, fun p hp => ?_⟩
      · rw [← h.cat, cat_app, cat_app, cat_one, cat_one, List.append_assoc]
        congr 1
        rw [show (n + 1).toNat = n.toNat + 1 by omega, List.replicate_succ']
      · rcases List.mem_append.mp hp with hp | hp
        · have := h.pos p (List.mem_append_left _ hp)
          omega
        · rw [List.mem_singleton.mp hp]
          exact ⟨by show 1 ≤ n + 1; omega, by show n + 1 ≤ _; omega⟩
      · rcases List.mem_append.mp hp with hp | hp
        · exact List.mem_append_left _ (h.by_ p (List.mem_append_left _ hp))
        · rw [List.mem_singleton.mp hp]
          exact List.mem_append_right _ List.mem_cons_self
    · rw [rstep_other _ _ _ _ e]
      refine ⟨by rw [cat_app, h.cat, cat_one]; rfl, fun p hp => ?_, adj_snoc _ _ _ _ _ h.adj e, by have := h.len; rw [List.length_append, e1]; exact Nat.succ_le_succ this, fun p hp => ?_⟩
      · rcases List.mem_append.mp hp with hp | hp
        · have := h.pos p hp
          omega
        · rw [List.mem_singleton.mp hp]
          exact ⟨by show (1 : Int) ≤ 1; omega, by show (1 : Int) ≤ _; omega⟩
      · rcases List.mem_append.mp hp with hp | hp
        · exact List.mem_append_left _ (h.by_ p hp)
        · rw [List.mem_singleton.mp hp]
          exact List.mem_append_right _ List.mem_cons_self
theorem rl_take (xs : List Int) : ∀ k, RlOk (rl (xs.take k)) (xs.take k)
  | 0 => ⟨rfl, fun p hp => (by cases hp), trivial, Nat.le_refl _, fun p hp => (by cases hp)⟩
  | k + 1 => by
    cases h : xs[k]? with
    | none =>
      have hl := List.getElem?_eq_none_iff.mp h
      have e := rl_take xs k
      rw [List.take_of_length_le hl] at e
      rw [List.take_of_length_le (Nat.le_succ_of_le hl)]
      exact e
    | some x =>
      rw [take_succ' h, rl_snoc]
      exact rlOk_step (rl_take xs k) x
theorem rl_ok (xs : List Int) : RlOk (rl xs) xs := by
  have := rl_take xs xs.length
  rw [List.take_length] at this
  exact this
theorem fold_same (acc : List Run) (x : Int) : ∀ (k : Nat) (n : Int), (List.replicate k x).foldl rstep (acc ++ [(x, n)]) = acc ++ [(x, n + (k : Int))]
  | 0, n => by simp
  | k + 1, n => by
    rw [List.replicate_succ, List.foldl_cons, rstep_same, fold_same acc x k (n + 1)]
    rw [show n + 1 + (k : Int) = n + ((k + 1 : Nat) : Int) by omega]
def lastR (l : Option Int) (acc : List Run) : Option Int := match acc.getLast? with
  | some p => some p.1
  | none => l
theorem fold_cat : ∀ (rs acc : List Run), AdjL (lastR none acc) rs → (∀ p ∈ rs, 1 ≤ p.2) → (cat rs).foldl rstep acc = acc ++ rs
  | [], acc, _, _ => by simp [cat]
  | (x, n) :: ps, acc, h, hp => by
    have hn : 1 ≤ n := hp (x, n) List.mem_cons_self
    have e : cat ((x, n) :: ps) = List.replicate n.toNat x ++ cat ps := rfl
    have e2 : n.toNat = (n - 1).toNat + 1 := by omega
    have hs : rstep acc x = acc ++ [(x, 1)] := by
      by_cases h0 : acc = []
      · subst h0; rfl
      · obtain ⟨qs, ⟨y, k⟩, rfl⟩ := last_of h0
        refine rstep_other _ _ _ _ fun z => h.1 ?_
        unfold lastR
        rw [List.getLast?_append]
        simp [z]
    rw [e, List.foldl_append, e2, List.replicate_succ, List.foldl_cons, hs, fold_same, show (1 : Int) + (((n - 1).toNat : Nat) : Int) = n by omega, fold_cat ps (acc ++ [(x, n)]) (by
      unfold lastR
      rw [List.getLast?_append]
      exact h.2) fun p hq => hp p (List.mem_cons_of_mem _ hq), List.append_assoc]
    rfl
theorem rl_cat {rs : List Run} (h : AdjL none rs) (hp : ∀ p ∈ rs, 1 ≤ p.2) : rl (cat rs) = rs := fold_cat rs [] h hp
theorem rbs_len : ∀ rs : List Run, (rbs rs).length ≤ 11 * rs.length
  | [] => Nat.le_refl _
  | p :: ps => by
    have e : rbs (p :: ps) = (p.1 :: wh p.2) ++ rbs ps := rfl
    have := rbs_len ps
    have := wh_len p.2
    rw [e, List.length_append, List.length_cons, List.length_cons]
    omega
theorem rb_len (rs : List Run) : (rb rs).length ≤ 10 + 11 * rs.length := by
  have := rbs_len rs
  have := wh_len (rs.length : Int)
  rw [rb, List.length_append]
  omega
theorem rbs_bytes {rs : List Run} (h : ∀ p ∈ rs, 0 ≤ p.1 ∧ p.1 ≤ 255 ∧ 0 ≤ p.2 ∧ p.2 < 18446744073709551616) : Bytes (rbs rs) := by
  intro x hx
  obtain ⟨p, hp, hx⟩ := List.mem_flatMap.mp hx
  obtain ⟨h1, h2, h3, h4⟩ := h p hp
  rcases List.mem_cons.mp hx with rfl | hx
  · exact ⟨h1, h2⟩
  · exact wh_bytes h3 h4 x hx
/-! ### the program's own stretches -/
def rW (p : Run) : Wv := .ol [.int p.1, .int p.2]
def rD (p : Run) : D := .lst [.int p.1, .int p.2]
theorem app2_ok {w w0 : Wv} {ws : List Wv} (h : owL w0 = some ws) (hl : ws.length < sizeLine) : app2W w w0 = some (.ow (ws ++ [w])) := by
  unfold app2W
  rw [h]
  exact if_pos hl
theorem lt_line {n : Nat} (h : n < 1000000) : n < sizeLine := Nat.lt_of_lt_of_le (Nat.lt_succ_self n) (sizeLine_le h)
theorem app2_at {env : En} {i : Nat} {w w0 : Wv} {ws : List Wv} (hg : getW env i = some w0) (h : owL w0 = some ws) (hl : ws.length < 1000000) : (getW env i).bind (app2W w) = some (.ow (ws ++ [w])) := by
  rw [hg]
  exact app2_ok h (lt_line hl)
theorem ixN_last (n : Nat) : ixN (n + 1) (-1) = some n := by
  unfold ixN
  rw [if_neg (by decide), if_pos (by omega)]
  congr 1
  omega
theorem ix2_last (ws : List Wv) (a b : D) : ix2W 0 (.int (-1)) (.ow (ws ++ [.ol [a, b]])) = some a := by
  unfold ix2W
  dsimp only
  rw [List.length_append, show ws.length + [Wv.ol [a, b]].length = ws.length + 1 from rfl, ixN_last]
  show ((ws ++ [Wv.ol [a, b]])[ws.length]?.bind _) = _
  rw [List.getElem?_append_right (Nat.le_refl _), Nat.sub_self]
  rfl
theorem ix2_last1 (ws : List Wv) (a b : D) : ix2W 1 (.int (-1)) (.ow (ws ++ [.ol [a, b]])) = some b := by
  unfold ix2W
  dsimp only
  rw [List.length_append, show ws.length + [Wv.ol [a, b]].length = ws.length + 1 from rfl, ixN_last]
  show ((ws ++ [Wv.ol [a, b]])[ws.length]?.bind _) = _
  rw [List.getElem?_append_right (Nat.le_refl _), Nat.sub_self]
  rfl
theorem set2_last (ws : List Wv) (a b d : D) : set2W 1 (.int (-1)) d (.ow (ws ++ [.ol [a, b]])) = some (.ow (ws ++ [.ol [a, d]])) := by
  unfold set2W
  dsimp only
  rw [List.length_append, show ws.length + [Wv.ol [a, b]].length = ws.length + 1 from rfl, ixN_last]
  show ((ws ++ [Wv.ol [a, b]])[ws.length]?.bind _) = _
  rw [List.getElem?_append_right (Nat.le_refl _), Nat.sub_self]
  show some (Wv.ow ((ws ++ [Wv.ol [a, b]]).set ws.length (.ol [a, d]))) = _
  rw [List.set_append_right _ _ (Nat.le_refl _), Nat.sub_self]
  rfl
theorem frzL_runs : ∀ rs : List Run, frzL (rs.map rW) = some (rs.map rD)
  | [] => rfl
  | p :: ps => by
    rw [List.map_cons, frzL, frzL_runs ps]
    rfl
theorem runs_of (m : Nat) (xs : List Int) (hl : xs.length ≤ 100000) : Calls (cx (m + 1)) 20 [.fz (row xs)] (fun r o => frz r = some (.lst ((rl xs).map rD)) ∧ o = [.fz (row xs)]) fun _ _ => False := by
  refine calls_of (by rfl) (by rfl) ?_
  walk_at "ev"
  refine for_inv (fun k e => ∃ w o, (w = .ol [] ∧ rl (xs.take k) = [] ∨ w = .ow ((rl (xs.take k)).map rW) ∧ rl (xs.take k) ≠ []) ∧ e = [some (.fz (row xs)), some w, o]) ⟨_, _, .inl ⟨rfl, rfl⟩, rfl⟩ (fun k d e hd ⟨w, o, hw, he⟩ => ?_) fun e ⟨w, o, hw, he⟩ => ?_
  · subst he
    obtain ⟨x, hx, rfl⟩ := map_get hd
    have e1 : rl (xs.take (k + 1)) = rstep (rl (xs.take k)) x := by rw [take_succ' hx, rl_snoc]
    have hlk := (rl_take xs k).len
    rw [List.length_take] at hlk
    rcases hw with ⟨rfl, h0⟩ | ⟨rfl, h0⟩
    · walk_at "ev"
      exact ⟨_, _, .inr ⟨by rw [e1, h0]; rfl, by rw [e1, h0]; exact fun z => by cases z⟩, rfl⟩
    · obtain ⟨qs, ⟨y, n⟩, hq⟩ := last_of h0
      have hm : (rl (xs.take k)).map rW = qs.map rW ++ [.ol [.int y, .int n]] := by rw [hq, List.map_append]; rfl
      rw [hq] at e1
      rw [hm]
      walk_at "ev"
      refine br_t (by simp) ?_
      walk_at "ev"
      refine ex_some (ix2_last _ _ _) ?_
      walk_at "ev"
      first | refine br_b (fun h => ?_) (fun h => ?_) | refine br_n (fun h => ?_) (fun h => ?_) | refine br (fun h => ?_) (fun h => ?_)
      · subst h
        rw [rstep_same] at e1
        walk_at "ev"
        refine ex_some (ix2_last1 _ _ _) ?_
        walk_at "ev"
        refine ex_some (set2_last _ _ _ _) ?_
        walk_at "ev"
        exact ⟨_, _, .inr ⟨by rw [e1, List.map_append]; rfl, by rw [e1]; simp⟩, rfl⟩
      · rw [rstep_other _ _ _ _ h] at e1
        rw [hq] at hlk
        walk_at "ev"
        refine ex_some (app2_at (by rfl) (by rfl) ?_) ?_
        · have : (List.map rW qs ++ [Wv.ol [D.int y, D.int n]]).length = (qs ++ [(y, n)]).length := by simp
          rw [this]
          omega
        walk_at "ev"
        exact ⟨_, _, .inr ⟨by rw [e1, List.map_append, List.map_append]; rfl, by rw [e1]; simp⟩, rfl⟩
  · subst he
    rw [List.length_map, List.take_length] at hw
    rcases hw with ⟨rfl, h0⟩ | ⟨rfl, h0⟩
    · walk_at "ev"
      exact ⟨by rw [h0]; rfl, rfl⟩
    · walk_at "ev"
      refine ⟨?_, rfl⟩
      rw [frz, frzL_runs]
      rfl
end K26

set_option Elab.async false
set_option linter.all false
set_option maxRecDepth 100000
set_option maxHeartbeats 400000
namespace K26
open PySem PySem.Spec PyProof.Rows L2 He Gw Ev
local macro_rules | `(tactic| walk_at "evs") => `(tactic| first | exact Nat.le_of_ble_eq_true rfl | omega | exact Ev.mulOk_r (by omega) | exact Ev.mulOk_l (by omega) | rfl | assumption | exact ⟨by omega, by omega⟩ | exact ⟨rfl, Nat.le_of_ble_eq_true rfl⟩ | (refine Ev.sizeLine_le ?_; omega))
local macro_rules | `(tactic| walk_at "ev1") => `(tactic| (conv => whnf) <;> first
  | refine Ev.ex_some rfl ?_
  | refine Ev.nd (by walk_at "evs") ?_
  | refine Ev.br_t rfl ?_
  | refine Ev.br_f rfl ?_)
local macro_rules | `(tactic| walk_at "ev") => `(tactic| ((repeat walk_at "ev1"); (try (conv => whnf))))
local macro_rules | `(tactic| walk_at "evn") => `(tactic| first | exact List.nodup_nil | exact Ev.nd1)

theorem input_ok (m : Nat) (x : Int) (h0 : 0 ≤ x) (h1 : x ≤ 255) : Ret (cx (m + 3)) 5 [.fz (.int x)] (.fz (.bl true)) := by
  refine calls_of (by rfl) (by rfl) ?_
  walk_at "ev"
  refine call_ret (between m 0 255 x h0 h1) (by walk_at "evn") rfl ?_
  walk_at "ev"
  exact ⟨rfl, rfl⟩
theorem told_ok (m : Nat) (xs : List Int) (hb : Bytes xs) (hl : xs.length ≤ 100000) : Ret (cx (m + 4)) 7 [.fz (row xs)] (.fz (.bl true)) := by
  refine calls_of (by rfl) (by rfl) ?_
  walk_at "ev"
  refine br_t (decide_eq_true (by rw [List.length_map]; omega)) ?_
  walk_at "ev"
  refine nd (sizeLine_le (by rw [List.length_map]; omega)) ?_
  refine tu_inv (fun j rs e => rs = List.replicate j (.bl true) ∧ e = [some (.fz (row xs)), none]) ⟨rfl, rfl⟩ (fun j d' rs e hd ⟨h1, h2⟩ => ?_) fun rs e ⟨h1, h2⟩ => ?_
  · subst h1 h2
    obtain ⟨x, hx, rfl⟩ := map_get hd
    have hx := hb x (List.mem_of_getElem? hx)
    walk_at "ev"
    refine call_ret (input_ok m x hx.1 hx.2) (by walk_at "evn") rfl ?_
    walk_at "ev"
    exact ⟨by rw [List.replicate_succ'], rfl⟩
  · subst h1 h2
    walk_at "ev"
    refine ex_some (all_true _) ?_
    walk_at "ev"
    exact ⟨rfl, rfl⟩
theorem ex_of {α : Type} {o : Option α} {a : α} {Q : α → Prop} (h : o = some a) (q : Q a) : ex o Q := by rw [h]; exact q
theorem rbs_take {rs : List Run} {k : Nat} {p : Run} (h : rs[k]? = some p) : rbs (rs.take (k + 1)) = rbs (rs.take k) ++ (p.1 :: wh p.2) := by
  rw [take_succ' h, rbs, List.flatMap_append]
  simp [rbs]
theorem mapD_get {rs : List Run} {k : Nat} {d : D} (h : (rs.map rD)[k]? = some d) : ∃ p, rs[k]? = some p ∧ d = rD p := by
  rw [List.getElem?_map] at h
  cases z : rs[k]? with
  | none => rw [z] at h; cases h
  | some x => rw [z] at h; cases h; exact ⟨x, rfl, rfl⟩
theorem rbs_take_len (rs : List Run) (k : Nat) : (wh (rs.length : Int)).length + (rbs (rs.take k)).length ≤ (rb rs).length := by
  have e : rbs rs = rbs (rs.take k) ++ rbs (rs.drop k) := by
    unfold rbs
    rw [← List.flatMap_append, List.take_append_drop]
  rw [rb, List.length_append, e, List.length_append]
  omega
theorem input_row_ok (m : Nat) (xs : List Int) (hb : Bytes xs) (hl : xs.length ≤ 100000) (hL : (rb (rl xs)).length ≤ 300000) : Ret (cx (m + 5)) 21 [.fz (row xs)] (.fz (row (rb (rl xs)))) := by
  have ok := rl_ok xs
  refine calls_ofP (by rfl) (by rfl) ?_
  refine p_cons (fun e => e = [some (.fz (row xs)), none, none, none, none]) ?_ ?_
  · walk_at "ev"
    refine call_ret (told_ok m xs hb (by omega)) (by walk_at "evn") rfl ?_
    walk_at "ev"
    rfl
  intro e he
  subst he
  refine p_cons (fun e => e = [some (.fz (row xs)), some (.fz (.lst ((rl xs).map rD))), none, none, none]) ?_ ?_
  · walk_at "ev"
    refine call_by (runs_of (m + 3) xs (by omega)) (by walk_at "evn") rfl ?_
    intro r o ⟨h1, h2⟩
    subst h2
    refine ex_of h1 ?_
    walk_at "ev"
    rfl
  intro e he
  subst he
  have hlen := ok.len
  refine p_cons (fun e => e = [some (.fz (row xs)), some (.fz (.lst ((rl xs).map rD))), some (.ol ((wh ((rl xs).length : Int)).map .int)), none, none]) ?_ ?_
  · walk_at "ev"
    rw [List.length_map]
    refine call_ret (whole (m + 1) ((rl xs).length : Int) (by omega) (by omega)) (by walk_at "evn") rfl ?_
    walk_at "ev"
    refine nd (sizeLine_le ?_) ?_
    · have := wh_len ((rl xs).length : Int)
      rw [List.append_nil, List.length_map]
      omega
    walk_at "ev"
    rw [List.append_nil]
    rfl
  intro e he
  subst he
  refine p_cons (fun e => ∃ o3 o4, e = [some (.fz (row xs)), some (.fz (.lst ((rl xs).map rD))), some (.ol ((rb (rl xs)).map .int)), o3, o4]) ?_ ?_
  · walk_at "ev"
    refine for_inv (fun k e => ∃ o3 o4, e = [some (.fz (row xs)), some (.fz (.lst ((rl xs).map rD))), some (.ol ((wh ((rl xs).length : Int) ++ rbs ((rl xs).take k)).map .int)), o3, o4]) ⟨none, none, by rw [List.take_zero]; show _ = [_, _, some (Wv.ol (((wh ((rl xs).length : Int)) ++ []).map D.int)), _, _]; rw [List.append_nil]⟩ (fun k d e hd ⟨o3, o4, he⟩ => ?_) fun e ⟨o3, o4, he⟩ => ?_
    · subst he
      obtain ⟨⟨x, n⟩, hx, rfl⟩ := mapD_get hd
      have hp := ok.pos _ (List.mem_of_getElem? hx)
      have hw := wh_len n
      have hw2 := wh_len ((rl xs).length : Int)
      have ht := rbs_take_len (rl xs) k
      walk_at "ev"
      refine ex_some (by show (if _ then _ else _) = _; rw [if_pos (lt_line (by rw [List.length_map, List.length_append]; omega))]) ?_
      walk_at "ev"
      refine call_ret (whole (m + 1) n (by show 0 ≤ n; omega) (by show n < _; omega)) (by walk_at "evn") rfl ?_
      walk_at "ev"
      refine ex_some (by show (if _ then _ else _) = _; rw [if_pos (sizeLine_le (by rw [List.length_append, List.length_map, List.length_append, List.length_map]; show _ + 1 + _ ≤ _; omega))]) ?_
      walk_at "ev"
      have e9 : (wh ((rl xs).length : Int) ++ rbs ((rl xs).take (k + 1))).map D.int = (wh ((rl xs).length : Int) ++ rbs ((rl xs).take k)).map D.int ++ [D.int x] ++ (wh n).map D.int := by
        rw [rbs_take hx]
        simp
      rw [e9]
      exact ⟨_, _, rfl⟩
    · subst he
      rw [List.length_map, List.take_length]
      walk_at "ev"
      exact ⟨_, _, rfl⟩
  intro e ⟨o3, o4, he⟩
  subst he
  refine p_all ?_
  walk_at "ev"
  exact ⟨rfl, rfl⟩
/-! ### a reader -/
abbrev rdr (xs : List Int) (a : Int) : Wv := .oi "Reader" ["row", "at"] [.fz (row xs), .fz (.int a)]
theorem reader_init (m : Nat) (xs : List Int) (a : Int) : Calls (cx (m + 1)) 12 [.oi "Reader" [] [], .fz (row xs), .fz (.int a)] (fun r o => r = .fz .non ∧ o = [rdr xs a, .fz (row xs), .fz (.int a)]) fun _ _ => False := by
  refine calls_of (by rfl) (by rfl) ?_
  walk_at "ev"
  exact ⟨rfl, rfl⟩
theorem reader_byte (m : Nat) (xs : List Int) (a : Nat) (ha : a ≤ xs.length) : Calls (cx (m + 1)) 13 [rdr xs a] (fun r o => ∃ y, xs[a]? = some y ∧ r = .fz (.int y) ∧ o = [rdr xs ((a : Int) + 1)]) fun x o => xs[a]? = none ∧ x = ⟨"BadRow", ["place"], [.int (a : Int)]⟩ ∧ o = [rdr xs a] := by
  refine calls_of (by rfl) (by rfl) ?_
  walk_at "ev"
  first | refine br_b (fun h => ?_) (fun h => ?_) | refine br_n (fun h => ?_) (fun h => ?_) | refine br (fun h => ?_) (fun h => ?_)
  · rw [List.length_map] at h
    walk_at "ev"
    exact ⟨List.getElem?_eq_none (by omega), rfl, rfl⟩
  · rw [List.length_map] at h
    have hlt : a < xs.length := by omega
    have e1 := idx_row (List.getElem?_eq_getElem hlt)
    rw [show (a : Int) = (a : Int) + 1 - 1 by omega] at e1
    walk_at "ev"
    refine ex_some e1 ?_
    walk_at "ev"
    exact ⟨_, List.getElem?_eq_getElem hlt, rfl, rfl⟩
theorem reader_whole (m : Nat) (xs : List Int) (a : Nat) (ha : a ≤ xs.length) : Calls (cx (m + 2)) 14 [rdr xs a] (fun r o => ∃ v t, rdw (xs.drop a) = some (v, t) ∧ r = .fz (.int v) ∧ o = [rdr xs ((a : Int) + (t : Int))]) fun x o => rdw (xs.drop a) = none ∧ x = ⟨"BadRow", ["place"], [.int (a : Int)]⟩ ∧ o = [rdr xs a] := by
  refine calls_of (by rfl) (by rfl) ?_
  walk_at "ev"
  refine call_ex (whole_at m xs a ha) (by walk_at "evn") rfl (fun r o ⟨v, t, e, e1, e2⟩ => ?_) fun x o ⟨e, e1, e2⟩ => ?_
  · subst e1 e2
    walk_at "ev"
    exact ⟨v, t, e, rfl, rfl⟩
  · subst e1 e2
    walk_at "ev"
    exact ⟨e, rfl, rfl⟩
end K26

set_option Elab.async false
set_option linter.all false
set_option maxRecDepth 100000
set_option maxHeartbeats 400000
namespace K26
open PySem PySem.Spec PyProof.Rows L2 He Gw Ev
local macro_rules | `(tactic| walk_at "evs") => `(tactic| first | exact Nat.le_of_ble_eq_true rfl | omega | exact Ev.mulOk_r (by omega) | exact Ev.mulOk_l (by omega) | rfl | assumption | exact ⟨by omega, by omega⟩ | exact ⟨rfl, Nat.le_of_ble_eq_true rfl⟩ | (refine Ev.sizeLine_le ?_; omega))
local macro_rules | `(tactic| walk_at "ev1") => `(tactic| (conv => whnf) <;> first
  | refine Ev.ex_some rfl ?_
  | refine Ev.nd (by walk_at "evs") ?_
  | refine Ev.br_t rfl ?_
  | refine Ev.br_f rfl ?_)
local macro_rules | `(tactic| walk_at "ev") => `(tactic| ((repeat walk_at "ev1"); (try (conv => whnf))))
local macro_rules | `(tactic| walk_at "evn") => `(tactic| first | exact List.nodup_nil | exact Ev.nd1)

/-! ### a number read is the number's own bytes -/
theorem stop_spec : ∀ (f : Nat) (ys : List Int) (k : Nat), stop f ys = some k → k < f ∧ k < ys.length ∧ (∀ i < k, ∀ z, ys[i]? = some z → ¬ z < 128) ∧ ∃ y, ys[k]? = some y ∧ y < 128
  | 0, _, _, h => by cases h
  | f + 1, [], _, h => by cases h
  | f + 1, y :: ys, k, h => by
    rw [stop] at h
    by_cases hy : y < 128
    · rw [if_pos hy] at h
      cases h
      exact ⟨by omega, by simp, fun i hi => absurd hi (by omega), y, rfl, hy⟩
    · rw [if_neg hy] at h
      cases z : stop f ys with
      | none => rw [z] at h; cases h
      | some j =>
        rw [z] at h
        replace h : some (j + 1) = some k := h
        cases h
        obtain ⟨h1, h2, h3, w, h4, h5⟩ := stop_spec f ys j z
        refine ⟨by omega, by rw [List.length_cons]; omega, fun i hi u hu => ?_, w, by simpa using h4, h5⟩
        cases i with
        | zero => simp at hu; rw [← hu]; exact hy
        | succ i => exact h3 i (by omega) u (by simpa using hu)
theorem val_nn : ∀ zs : List Int, 0 ≤ val zs
  | [] => Int.le_refl _
  | z :: zs => by
    have := val_nn zs
    show 0 ≤ z % 128 + 128 * val zs
    omega
theorem val_last : ∀ (as : List Int) (y : Int), 0 < y → y < 128 → 0 < val (as ++ [y])
  | [], y, h1, h2 => by
    show 0 < y % 128 + 128 * 0
    omega
  | a :: as, y, h1, h2 => by
    have := val_last as y h1 h2
    show 0 < a % 128 + 128 * val (as ++ [y])
    omega
theorem whF_val : ∀ (n : Nat) (as : List Int) (y : Int), as.length ≤ n → (∀ a ∈ as, ¬ a < 128 ∧ a ≤ 255) → 0 ≤ y → y < 128 → (as ≠ [] → y ≠ 0) → whF n (val (as ++ [y])) = as ++ [y]
  | n, [], y, hn, ha, h0, h1, hz => by
    have e : val ([] ++ [y]) = y := by
      show y % 128 + 128 * 0 = y
      omega
    rw [e, whF_lt h1]
    rfl
  | 0, a :: as, y, hn, _, _, _, _ => by simp at hn
  | n + 1, a :: as, y, hn, ha, h0, h1, hz => by
    have hy := hz (fun z => by cases z)
    have hv := val_last as y (by omega) h1
    have h2 := ha a List.mem_cons_self
    have e : val (a :: as ++ [y]) = a % 128 + 128 * val (as ++ [y]) := rfl
    have e1 : ¬ val (a :: as ++ [y]) < 128 := by rw [e]; omega
    rw [whF_ge e1, e, show (a % 128 + 128 * val (as ++ [y])) % 128 + 128 = a by omega, show (a % 128 + 128 * val (as ++ [y])) / 128 = val (as ++ [y]) by omega, whF_val n as y (by simpa using hn) (fun b hb => ha b (List.mem_cons_of_mem _ hb)) h0 h1 (fun _ => hy)]
    rfl
theorem rdw_some {ys : List Int} {v : Int} {t : Nat} (h : rdw ys = some (v, t)) : 0 ≤ v ∧ v < 18446744073709551616 ∧ 1 ≤ t ∧ t ≤ ys.length ∧ (Bytes ys → ys.take t = wh v) := by
  unfold rdw at h
  cases z : stop 10 ys with
  | none => rw [z] at h; cases h
  | some k =>
    rw [z] at h
    replace h : (if (0 < k ∧ ys[k]? = some 0) ∨ 18446744073709551616 ≤ val (ys.take (k + 1)) then none else some (val (ys.take (k + 1)), k + 1)) = some (v, t) := h
    split at h
    · cases h
    · rename_i hn
      cases h
      obtain ⟨h1, h2, h3, y, h4, h5⟩ := stop_spec 10 ys k z
      refine ⟨val_nn _, by omega, by omega, by omega, fun hb => ?_⟩
      have e : ys.take (k + 1) = ys.take k ++ [y] := take_succ' h4
      rw [e]
      have hy := hb y (List.mem_of_getElem? h4)
      refine (whF_val 9 (ys.take k) y (by rw [List.length_take]; omega) (fun a ha => ?_) hy.1 h5 fun hk z => hn (.inl ⟨?_, by rw [h4, z]⟩)).symm
      · obtain ⟨i, hi, e2⟩ := List.getElem_of_mem ha
        rw [List.length_take] at hi
        rw [List.getElem_take] at e2
        have hil : i < ys.length := by omega
        refine ⟨h3 i (by omega) a (by rw [List.getElem?_eq_getElem hil, e2]), (hb a ?_).2⟩
        rw [← e2]
        exact List.getElem_mem hil
      · cases k with
        | zero => exact absurd rfl hk
        | succ k => omega
/-! ### a row of inputs, stretch by stretch -/
abbrev Out := Sum Nat (List Int × Nat)
def stp1 (xs : List Int) (h : Nat) (f : List Int) : Out := match xs[h]? with
  | none => .inl h
  | some y => match rdw (xs.drop (h + 1)) with
    | none => .inl (h + 1)
    | some (v, t) => if v = 0 ∨ f.getLast? = some y ∨ 100000 < (f.length : Int) + v then .inl h else .inr (f ++ List.replicate v.toNat y, h + 1 + t)
def prs (xs : List Int) : Nat → Nat → List Int → Out
  | 0, h, f => .inr (f, h)
  | n + 1, h, f => match stp1 xs h f with
    | .inl p => .inl p
    | .inr (f', h') => prs xs n h' f'
def prsA (xs : List Int) (a : Nat) : Out := match rdw (xs.drop a) with
  | none => .inl a
  | some (v, t) => prs xs v.toNat (a + t) []
theorem prs_add (xs : List Int) (k : Nat) : ∀ (j h : Nat) (f : List Int), prs xs (j + k) h f = match prs xs j h f with
    | .inl p => .inl p
    | .inr (f', h') => prs xs k h' f'
  | 0, h, f => by rw [Nat.zero_add]; rfl
  | j + 1, h, f => by
    rw [show j + 1 + k = (j + k) + 1 by omega, prs, prs]
    cases stp1 xs h f with
    | inl p => rfl
    | inr q => exact prs_add xs k j q.2 q.1
theorem prs_snoc {xs : List Int} {k h h' : Nat} {f f' : List Int} (e : prs xs k h f = .inr (f', h')) : prs xs (k + 1) h f = stp1 xs h' f' := by
  rw [prs_add xs 1 k h f, e]
  dsimp only
  rw [prs]
  cases stp1 xs h' f' with
  | inl p => rfl
  | inr q => rfl
theorem prs_bad {xs : List Int} {k n h p : Nat} {f : List Int} (e : prs xs k h f = .inl p) (hk : k ≤ n) : prs xs n h f = .inl p := by
  rw [show n = k + (n - k) by omega, prs_add, e]
theorem stp1_ok {xs : List Int} {h h' : Nat} {f f' : List Int} (e : stp1 xs h f = .inr (f', h')) : ∃ y v t, xs[h]? = some y ∧ rdw (xs.drop (h + 1)) = some (v, t) ∧ 1 ≤ v ∧ f.getLast? ≠ some y ∧ (f.length : Int) + v ≤ 100000 ∧ f' = f ++ List.replicate v.toNat y ∧ h' = h + 1 + t ∧ h' ≤ xs.length ∧ 1 ≤ t := by
  unfold stp1 at e
  cases z : xs[h]? with
  | none => rw [z] at e; cases e
  | some y =>
    rw [z] at e
    dsimp only at e
    cases z2 : rdw (xs.drop (h + 1)) with
    | none => rw [z2] at e; cases e
    | some q =>
      obtain ⟨v, t⟩ := q
      rw [z2] at e
      dsimp only at e
      obtain ⟨h1, h2, h3, h4, _⟩ := rdw_some z2
      have hl := (List.getElem?_eq_some_iff.mp z).1
      rw [List.length_drop] at h4
      split at e
      · cases e
      · rename_i hn
        rw [not_or, not_or] at hn
        cases e
        exact ⟨y, v, t, rfl, rfl, by omega, hn.2.1, by omega, rfl, rfl, by omega, h3⟩
theorem prs_ok {xs : List Int} : ∀ (n h h' : Nat) (f f' : List Int), prs xs n h f = .inr (f', h') → h ≤ xs.length → f.length ≤ 100000 → h' ≤ xs.length ∧ h + 2 * n ≤ h' ∧ f'.length ≤ 100000
  | 0, h, h', f, f', e, hl, hf => by cases e; exact ⟨hl, by omega, hf⟩
  | n + 1, h, h', f, f', e, hl, hf => by
    rw [prs] at e
    cases z : stp1 xs h f with
    | inl p => rw [z] at e; cases e
    | inr q =>
      obtain ⟨f1, h1⟩ := q
      rw [z] at e
      obtain ⟨y, v, t, a1, a2, a3, a4, a5, a6, a7, a8, a9⟩ := stp1_ok z
      have := prs_ok n h1 h' f1 f' e a8 (by rw [a6, List.length_append, List.length_replicate]; omega)
      omega
/-! ### reading -/
def lastD (f : List Int) : D := match f.getLast? with
  | none => .non
  | some y => .int y
theorem opW_last {f : List Int} {y : Int} {k : D → Prop} (h : k (.bl (decide (f.getLast? = some y)))) : opW .eq [.int y, lastD f] k := by
  unfold lastD
  cases z : f.getLast? with
  | none =>
    rw [z] at h
    exact ex_some (show opD .eq [.int y, .non] = some (.bl false) by rfl) h
  | some w =>
    rw [z] at h
    show k (.bl (decide (y = w)))
    have e : decide (some w = some y) = decide (y = w) := decide_eq_decide.mpr ⟨fun e => (Option.some.inj e).symm, fun e => by rw [e]⟩
    rw [← e]
    exact h
theorem o_mul1 (y v : Int) (h0 : 1 ≤ v) (h1 : v ≤ 100000) : opD .mul [.lst [.int y], .int v] = some (.lst ((List.replicate v.toNat y).map .int)) := by
  show (if -(2 ^ 63) ≤ v ∧ v < 2 ^ 63 ∧ 1 * v.toNat ≤ sizeLine then some (D.lst (List.replicate v.toNat [D.int y]).flatten) else none) = _
  rw [if_pos ⟨by omega, by omega, sizeLine_le (by omega)⟩, show [D.int y] = [y].map D.int from rfl, rep_map]
  congr 3
  generalize v.toNat = n
  induction n with
  | zero => rfl
  | succ n ih => rw [List.replicate_succ, List.flatten_cons, ih, List.replicate_succ]; rfl
theorem last_rep (f : List Int) (y v : Int) (h : 1 ≤ v) : lastD (f ++ List.replicate v.toNat y) = .int y := by
  unfold lastD
  rw [show v.toNat = (v.toNat - 1) + 1 by omega, List.replicate_succ', ← List.append_assoc, List.getLast?_append]
  rfl
theorem inputs_read (m : Nat) (xs : List Int) (a : Nat) (ha : a ≤ xs.length) : Calls (cx (m + 3)) 22 [rdr xs a] (fun r o => ∃ f h, prsA xs a = .inr (f, h) ∧ r = .fz (row f) ∧ o = [rdr xs (h : Int)]) fun x o => ∃ p, prsA xs a = .inl p ∧ x = ⟨"BadRow", ["place"], [.int (p : Int)]⟩ ∧ ∃ b, o = [rdr xs b] := by
  refine calls_of (by rfl) (by rfl) ?_
  walk_at "ev"
  refine call_ex (reader_whole m xs a ha) (by walk_at "evn") rfl (fun r o ⟨v, t, e, e1, e2⟩ => ?_) fun x o ⟨e, e1, e2⟩ => ?_
  · subst e1 e2
    obtain ⟨hv0, hv1, ht1, ht2, _⟩ := rdw_some e
    rw [List.length_drop] at ht2
    have eA : prsA xs a = prs xs v.toNat (a + t) [] := by unfold prsA; rw [e]
    walk_at "ev"
    refine ex_some rng_any ?_
    walk_at "ev"
    refine for_inv (fun k e => ∃ f h o3 o4 o5 o6, prs xs k (a + t) [] = .inr (f, h) ∧ e = [some (rdr xs (h : Int)), some (.ol (f.map .int)), some (.fz (lastD f)), o3, o4, o5, o6]) ⟨[], a + t, _, _, _, _, rfl, rfl⟩ (fun k d e' hd ⟨f, h, o3, o4, o5, o6, hp, he⟩ => ?_) fun e' ⟨f, h, o3, o4, o5, o6, hp, he⟩ => ?_
    · subst he
      have hk := (List.getElem?_eq_some_iff.mp hd).1
      rw [List.length_map, List.length_range] at hk
      obtain ⟨hh, _, hf⟩ := prs_ok k (a + t) h [] f hp (by omega) (by simp)
      have bad : ∀ p, stp1 xs h f = .inl p → prsA xs a = .inl p := fun p z => by
        rw [eA]
        exact prs_bad (k := k + 1) (by rw [prs_snoc hp, z]) (by omega)
      walk_at "ev"
      refine call_ex (reader_byte (m + 1) xs h hh) (by walk_at "evn") rfl (fun r o ⟨y, ey, e1, e2⟩ => ?_) fun x o ⟨ey, e1, e2⟩ => ?_
      · subst e1 e2
        have hlt := (List.getElem?_eq_some_iff.mp ey).1
        rw [show (h : Int) + 1 = ((h + 1 : Nat) : Int) by omega]
        walk_at "ev"
        refine call_ex (reader_whole m xs (h + 1) (by omega)) (by walk_at "evn") rfl (fun r o ⟨w, s, ew, e1, e2⟩ => ?_) fun x o ⟨ew, e1, e2⟩ => ?_
        · subst e1 e2
          obtain ⟨hw0, hw1, hs1, hs2, _⟩ := rdw_some ew
          have st : stp1 xs h f = if w = 0 ∨ f.getLast? = some y ∨ 100000 < (f.length : Int) + w then .inl h else .inr (f ++ List.replicate w.toNat y, h + 1 + s) := by
            unfold stp1
            rw [ey]
            dsimp only
            rw [ew]
          walk_at "ev"
          first | refine br_b (fun h1 => ?_) (fun h1 => ?_) | refine br_n (fun h1 => ?_) (fun h1 => ?_) | refine br (fun h1 => ?_) (fun h1 => ?_)
          · walk_at "ev"
            exact ⟨h, bad h (by rw [st, if_pos (.inl h1)]), rfl, _, rfl⟩
          · walk_at "ev"
            refine opW_last ?_
            walk_at "ev"
            first | refine br_b (fun h2 => ?_) (fun h2 => ?_) | refine br_n (fun h2 => ?_) (fun h2 => ?_) | refine br (fun h2 => ?_) (fun h2 => ?_)
            · walk_at "ev"
              exact ⟨h, bad h (by rw [st, if_pos (.inr (.inl h2))]), rfl, _, rfl⟩
            · walk_at "ev"
              first | refine br_b (fun h3 => ?_) (fun h3 => ?_) | refine br_n (fun h3 => ?_) (fun h3 => ?_) | refine br (fun h3 => ?_) (fun h3 => ?_)
              · rw [List.length_map] at h3
                walk_at "ev"
                exact ⟨h, bad h (by rw [st, if_pos (.inr (.inr h3))]), rfl, _, rfl⟩
              · rw [List.length_map] at h3
                walk_at "ev"
                refine ex_some (o_mul1 y w (by omega) (by omega)) ?_
                walk_at "ev"
                refine ex_some (by show (if _ then _ else _) = _; rw [if_pos (sizeLine_le (by rw [List.length_map, List.length_map, List.length_replicate]; omega))]) ?_
                walk_at "ev"
                refine ⟨f ++ List.replicate w.toNat y, h + 1 + s, some (.fz d), some (.fz (.int (h : Int))), some (.fz (.int y)), some (.fz (.int w)), by rw [prs_snoc hp, st, if_neg (by
                  intro z
                  rcases z with z | z | z
                  · exact h1 z
                  · exact h2 z
                  · exact h3 z)], ?_⟩
                rw [last_rep f y w (by omega), List.map_append, show ((h + 1 + s : Nat) : Int) = ((h + 1 : Nat) : Int) + (s : Int) by omega]
                rfl
        · subst e1 e2
          walk_at "ev"
          refine ⟨h + 1, bad _ ?_, rfl, _, rfl⟩
          unfold stp1
          rw [ey]
          dsimp only
          rw [ew]
      · subst e1 e2
        walk_at "ev"
        refine ⟨h, bad _ ?_, rfl, _, rfl⟩
        unfold stp1
        rw [ey]
    · subst he
      rw [List.length_map, List.length_range] at hp
      walk_at "ev"
      exact ⟨f, h, by rw [eA, hp], rfl, rfl⟩
  · subst e1 e2
    walk_at "ev"
    exact ⟨a, by unfold prsA; rw [e], rfl, _, rfl⟩
def outD : Out → D
  | .inl p => .tup [.str "bad", .int (p : Int)]
  | .inr (f, h) => .tup [.str "told", .tup [row f, .int (h : Int)]]
theorem read_inputs (m : Nat) (xs : List Int) (hb : Bytes xs) (hl : xs.length ≤ 300000) (a : Nat) (ha : a ≤ xs.length) : Calls (cx (m + 4)) 23 [.fz (row xs), .fz (.int (a : Int))] (fun r o => ∃ f h, prsA xs a = .inr (f, h) ∧ r = .fz (.tup [row f, .int (h : Int)]) ∧ o = [.fz (row xs), .fz (.int (a : Int))]) fun x o => ∃ p, prsA xs a = .inl p ∧ x = ⟨"BadRow", ["place"], [.int (p : Int)]⟩ ∧ o = [.fz (row xs), .fz (.int (a : Int))] := by
  refine calls_of (by rfl) (by rfl) ?_
  walk_at "ev"
  refine call_ret (place_ok m xs hb hl a ha) (by walk_at "evn") rfl ?_
  walk_at "ev"
  refine post_make (by walk_at "evn") rfl (Calls.imp (reader_init (m + 2) xs a) (fun r o ⟨e1, e2⟩ => ⟨e1, _, _, e2, ?_⟩) fun _ _ z => z.elim)
  walk_at "ev"
  refine call_ex (inputs_read m xs a ha) (by walk_at "evn") rfl (fun r o ⟨f, h, e, e1, e2⟩ => ?_) fun x o ⟨p, e, e1, b, e2⟩ => ?_
  · subst e1 e2
    walk_at "ev"
    exact ⟨f, h, e, rfl, rfl⟩
  · subst e1 e2
    walk_at "ev"
    exact ⟨p, e, rfl, rfl⟩
theorem read_told (m : Nat) (xs : List Int) (hb : Bytes xs) (hl : xs.length ≤ 300000) (a : Nat) (ha : a ≤ xs.length) : Ret (cx (m + 5)) 38 [.fz (row xs), .fz (.int (a : Int))] (.fz (outD (prsA xs a))) := by
  refine calls_of (by rfl) (by rfl) ?_
  walk_at "ev"
  refine call_ex (read_inputs m xs hb hl a ha) (by walk_at "evn") rfl (fun r o ⟨f, h, e, e1, e2⟩ => ?_) fun x o ⟨p, e, e1, e2⟩ => ?_
  · subst e1 e2
    walk_at "ev"
    exact ⟨by rw [e]; rfl, rfl⟩
  · subst e1 e2
    walk_at "ev"
    exact ⟨by rw [e]; rfl, rfl⟩
end K26

set_option Elab.async false
set_option linter.all false
set_option maxRecDepth 100000
set_option maxHeartbeats 400000
namespace K26
open PySem PySem.Spec PyProof.Rows L2 He Gw Ev
local macro_rules | `(tactic| walk_at "evs") => `(tactic| first | exact Nat.le_of_ble_eq_true rfl | omega | exact Ev.mulOk_r (by omega) | exact Ev.mulOk_l (by omega) | rfl | assumption | exact ⟨by omega, by omega⟩ | exact ⟨rfl, Nat.le_of_ble_eq_true rfl⟩ | (refine Ev.sizeLine_le ?_; omega))
local macro_rules | `(tactic| walk_at "ev1") => `(tactic| (conv => whnf) <;> first
  | refine Ev.ex_some rfl ?_
  | refine Ev.nd (by walk_at "evs") ?_
  | refine Ev.br_t rfl ?_
  | refine Ev.br_f rfl ?_)
local macro_rules | `(tactic| walk_at "ev") => `(tactic| ((repeat walk_at "ev1"); (try (conv => whnf))))
local macro_rules | `(tactic| walk_at "evn") => `(tactic| first | exact List.nodup_nil | exact Ev.nd1)

/-! ### what is read is the row of what it tells -/
theorem take_split {α : Type} (xs : List α) (a b : Nat) : xs.take (a + b) = xs.take a ++ (xs.drop a).take b := List.take_add
theorem last_cat (f : List Int) (y : Int) (n : Int) (h : 1 ≤ n) : (f ++ List.replicate n.toNat y).getLast? = some y := by
  rw [show n.toNat = (n.toNat - 1) + 1 by omega, List.replicate_succ', ← List.append_assoc, List.getLast?_append]
  rfl
theorem prs_back {xs : List Int} (hb : Bytes xs) : ∀ (n h h' : Nat) (f f' : List Int), prs xs n h f = .inr (f', h') → h ≤ xs.length → ∃ R : List Run, R.length = n ∧ f' = f ++ cat R ∧ (xs.drop h).take (h' - h) = rbs R ∧ AdjL f.getLast? R ∧ (∀ p ∈ R, 1 ≤ p.2 ∧ 0 ≤ p.1 ∧ p.1 ≤ 255) ∧ h ≤ h' ∧ h' ≤ xs.length
  | 0, h, h', f, f', e, hl => by
    cases e
    exact ⟨[], rfl, by simp [cat], by simp [rbs], trivial, fun p hp => (by cases hp), Nat.le_refl _, hl⟩
  | n + 1, h, h', f, f', e, hl => by
    rw [prs] at e
    cases z : stp1 xs h f with
    | inl p => rw [z] at e; cases e
    | inr q =>
      obtain ⟨f1, h1⟩ := q
      rw [z] at e
      obtain ⟨y, v, t, a1, a2, a3, a4, a5, a6, a7, a8, a9⟩ := stp1_ok z
      obtain ⟨R, r1, r2, r3, r4, r5, r6, r7⟩ := prs_back hb n h1 h' f1 f' e a8
      obtain ⟨_, _, _, b1, b2⟩ := rdw_some a2
      have hy := hb y (List.mem_of_getElem? a1)
      have b2 := b2 (hb.drop _)
      refine ⟨(y, v) :: R, by rw [List.length_cons, r1], ?_, ?_, ⟨a4, ?_⟩, fun p hp => ?_, by omega, r7⟩
      · rw [r2, a6, List.append_assoc]
        rfl
      · have e1 : xs.drop h = y :: xs.drop (h + 1) := by
          obtain ⟨hlt, e2⟩ := List.getElem?_eq_some_iff.mp a1
          rw [List.drop_eq_getElem_cons hlt, e2]
        rw [e1, show h' - h = (t + (h' - h1)) + 1 by omega, List.take_succ_cons, take_split, b2, List.drop_drop, show h + 1 + t = h1 by omega, r3]
        rfl
      · rw [a6, last_cat f y v a3] at r4
        exact r4
      · rcases List.mem_cons.mp hp with rfl | hp
        · exact ⟨a3, hy⟩
        · exact r5 p hp
theorem cat_bytes {R : List Run} (h : ∀ p ∈ R, 1 ≤ p.2 ∧ 0 ≤ p.1 ∧ p.1 ≤ 255) : Bytes (cat R) := by
  intro x hx
  obtain ⟨p, hp, hx⟩ := List.mem_flatMap.mp hx
  rw [(List.mem_replicate.mp hx).2]
  exact (h p hp).2
theorem prsA_back {xs : List Int} (hb : Bytes xs) {a h : Nat} {f : List Int} (ha : a ≤ xs.length) (e : prsA xs a = .inr (f, h)) : (xs.drop a).take (h - a) = rb (rl f) ∧ Bytes f ∧ f.length ≤ 100000 ∧ a ≤ h ∧ h ≤ xs.length := by
  unfold prsA at e
  cases z : rdw (xs.drop a) with
  | none => rw [z] at e; cases e
  | some q =>
    obtain ⟨v, t⟩ := q
    rw [z] at e
    dsimp only at e
    obtain ⟨b0, b1, b2, b3, b4⟩ := rdw_some z
    have b4 := b4 (hb.drop _)
    rw [List.length_drop] at b3
    obtain ⟨R, r1, r2, r3, r4, r5, r6, r7⟩ := prs_back hb _ _ _ _ _ e (by omega)
    obtain ⟨_, _, r8⟩ := prs_ok _ _ _ _ _ e (by omega) (by simp)
    rw [List.nil_append] at r2
    have rr : rl f = R := by
      rw [r2]
      exact rl_cat r4 fun p hp => (r5 p hp).1
    refine ⟨?_, by rw [r2]; exact cat_bytes r5, r8, by omega, r7⟩
    rw [rr, show h - a = t + (h - (a + t)) by omega, take_split, b4, List.drop_drop, r3, rb, r1, Int.toNat_of_nonneg b0]
/-! ### and the other way round -/
theorem prs_fwd {xs : List Int} (bs : List Int) : ∀ (R : List Run) (h : Nat) (f : List Int), AdjL f.getLast? R → (∀ p ∈ R, 1 ≤ p.2) → f.length + (cat R).length ≤ 100000 → xs.drop h = rbs R ++ bs → h ≤ xs.length → prs xs R.length h f = .inr (f ++ cat R, h + (rbs R).length)
  | [], h, f, _, _, _, _, _ => by
    show Sum.inr (f, h) = _
    simp [cat, rbs]
  | (y, n) :: ps, h, f, ad, hp, hl, e, hh => by
    have hn : 1 ≤ n := hp (y, n) List.mem_cons_self
    have ec : cat ((y, n) :: ps) = List.replicate n.toNat y ++ cat ps := rfl
    have er : rbs ((y, n) :: ps) = y :: (wh n ++ rbs ps) := rfl
    rw [er] at e
    rw [ec, List.length_append, List.length_replicate] at hl
    have e1 : xs[h]? = some y := by
      have := congrArg List.head? e
      rw [List.head?_drop] at this
      exact this
    have hlt := (List.getElem?_eq_some_iff.mp e1).1
    have e2 : xs.drop (h + 1) = wh n ++ (rbs ps ++ bs) := by
      rw [← List.drop_drop, e]
      show (wh n ++ rbs ps) ++ bs = _
      rw [List.append_assoc]
    have st : stp1 xs h f = .inr (f ++ List.replicate n.toNat y, h + 1 + (wh n).length) := by
      unfold stp1
      rw [e1]
      dsimp only
      rw [e2, rdw_wh _ (by omega) (by omega)]
      dsimp only
      rw [if_neg]
      rintro (z | z | z)
      · omega
      · exact ad.1 z
      · omega
    have e3 : xs.drop (h + 1 + (wh n).length) = rbs ps ++ bs := by
      rw [← List.drop_drop, e2, List.drop_left]
    have hl3 : h + 1 + (wh n).length ≤ xs.length := by
      have := congrArg List.length e2
      rw [List.length_drop, List.length_append] at this
      omega
    rw [List.length_cons, prs, st]
    dsimp only
    rw [prs_fwd bs ps _ _ (by rw [last_cat f y n hn]; exact ad.2) (fun p hq => hp p (List.mem_cons_of_mem _ hq)) (by rw [List.length_append, List.length_replicate]; omega) e3 hl3, er, ec, List.append_assoc, List.length_cons, List.length_append]
    congr 2
    omega
theorem prsA_fwd {xs : List Int} (bs : List Int) {R : List Run} {a : Nat} (ad : AdjL none R) (hp : ∀ p ∈ R, 1 ≤ p.2) (hl : (cat R).length ≤ 100000) (hR : R.length ≤ 100000) (e : xs.drop a = rb R ++ bs) (ha : a ≤ xs.length) : prsA xs a = .inr (cat R, a + (rb R).length) := by
  rw [rb, List.append_assoc] at e
  unfold prsA
  rw [e, rdw_wh _ (by omega) (by omega)]
  dsimp only
  have e3 : xs.drop (a + (wh (R.length : Int)).length) = rbs R ++ bs := by
    rw [← List.drop_drop, e, List.drop_left]
  have hl3 : a + (wh (R.length : Int)).length ≤ xs.length := by
    have := congrArg List.length e
    rw [List.length_drop, List.length_append] at this
    omega
  rw [Int.toNat_natCast, prs_fwd bs R _ [] ad hp (by simpa using hl) e3 hl3, rb, List.length_append, List.nil_append]
  congr 2
  omega
/-! ### the law's reading -/
def parD : Out → D
  | .inl p => .tup [.non, .int 0, .int (p : Int)]
  | .inr (f, h) => .tup [row f, .int (h : Int), .int (-1)]
theorem eqD_lists (xs ys : List Int) : eqD (.lst (xs.map .int)) (.lst (ys.map .int)) = some (decide (xs = ys)) := by
  have sh : ∀ xs : List Int, SeqAt.shaped (.list (xs.map PyData.int)) = true := fun xs => by
    unfold SeqAt.shaped
    rw [PyData.canLay0, canLay_ints, PyData.depth, depth_ints]
    rfl
  unfold eqD
  rw [toP, toP, toPL_ints, toPL_ints]
  show (if SeqAt.shaped (.list (xs.map PyData.int)) = true ∧ SeqAt.shaped (.list (ys.map PyData.int)) = true then some (PyData.eqv (.list (xs.map .int)) (.list (ys.map .int))) else none) = _
  rw [if_pos ⟨sh xs, sh ys⟩, PyData.eqv, eqv_ints]
theorem last_cut (f : List Int) (y : Int) : (f.drop (f.length - 1) = [y]) ↔ f.getLast? = some y := by
  by_cases h : f = []
  · subst h; simp
  · obtain ⟨g, z, rfl⟩ := last_of h
    rw [List.length_append, show g.length + [z].length - 1 = g.length from rfl, List.drop_left, List.getLast?_append]
    simp
theorem o_eq_cut (f : List Int) (y : Int) : opD .eq [.lst (cutL (f.map D.int) (some (-1)) none), .lst [.int y]] = some (.bl (decide (f.getLast? = some y))) := by
  rw [cutL_map]
  show (eqD _ (.lst ([y].map D.int))).map D.bl = _
  rw [eqD_lists]
  rcases cut_fromN f (n := 1) with e | e
  · rw [show (-((1 : Nat) : Int)) = -1 from rfl] at e
    rw [e]
    show some (D.bl _) = _
    congr 2
    exact decide_eq_decide.mpr (last_cut f y)
  · cases e
theorem s_lists (xs : List Int) (lo hi : Option Int) : slcD lo hi (.lst (xs.map .int)) = some (.lst ((cutL xs lo hi).map .int)) := by
  show some (D.lst (cutL _ _ _)) = _
  rw [cutL_map]
theorem parsed (m : Nat) (xs : List Int) (a : Nat) (hl : xs.length ≤ 300000) (ha : a ≤ xs.length) : Ret (cx (m + 2)) 37 [.fz (row xs), .fz (.int (a : Int))] (.fz (parD (prsA xs a))) := by
  refine calls_of (by rfl) (by rfl) ?_
  walk_at "ev"
  refine call_ret (lread m xs a hl ha) (by walk_at "evn") rfl ?_
  cases e : rdw (xs.drop a) with
  | none =>
    walk_at "ev"
    exact ⟨by unfold prsA; rw [e]; rfl, rfl⟩
  | some q =>
    obtain ⟨v, t⟩ := q
    obtain ⟨hv0, hv1, ht1, ht2, _⟩ := rdw_some e
    rw [List.length_drop] at ht2
    have eA : prsA xs a = prs xs v.toNat (a + t) [] := by unfold prsA; rw [e]
    rw [show pairD a (some (v, t)) = .tup [.int v, .int ((a + t : Nat) : Int)] by show D.tup [.int v, .int _] = _; rw [show ((a + t : Nat) : Int) = (a : Int) + (t : Int) by omega]]
    walk_at "ev"
    generalize hn : (if ((xs.map D.int).length : Int) + 1 < v then ((xs.map D.int).length : Int) + 1 else v) = n
    rw [List.length_map] at hn
    have hn1 : n ≤ v ∧ (n < v → n = (xs.length : Int) + 1) ∧ 0 ≤ n := by split at hn <;> omega
    refine ex_some rng_any ?_
    walk_at "ev"
    refine for_inv (fun k e => ∃ f h o5 o6, prs xs k (a + t) [] = .inr (f, h) ∧ e = [some (.fz (row xs)), some (.fz (.int (a : Int))), some (.fz (.tup [.int v, .int ((a + t : Nat) : Int)])), some (.fz (.int (h : Int))), some (.ol (f.map .int)), o5, o6]) ⟨[], a + t, _, _, rfl, rfl⟩ (fun k d e' hd ⟨f, h, o5, o6, hp, he⟩ => ?_) fun e' ⟨f, h, o5, o6, hp, he⟩ => ?_
    · subst he
      have hk := (List.getElem?_eq_some_iff.mp hd).1
      rw [List.length_map, List.length_range] at hk
      obtain ⟨hh, _, hf⟩ := prs_ok k (a + t) h [] f hp (by omega) (by simp)
      have bad : ∀ p, stp1 xs h f = .inl p → prsA xs a = .inl p := fun p z => by
        rw [eA]
        exact prs_bad (k := k + 1) (by rw [prs_snoc hp, z]) (by omega)
      walk_at "ev"
      first | refine br_b (fun h0 => ?_) (fun h0 => ?_) | refine br_n (fun h0 => ?_) (fun h0 => ?_) | refine br (fun h0 => ?_) (fun h0 => ?_)
      · rw [List.length_map] at h0
        walk_at "ev"
        have b := bad h (by unfold stp1; rw [List.getElem?_eq_none (by omega)])
        exact ⟨by rw [b]; rfl, rfl⟩
      · rw [List.length_map] at h0
        have hlt : h < xs.length := by omega
        obtain ⟨y, ey⟩ : ∃ y, xs[h]? = some y := ⟨_, List.getElem?_eq_getElem hlt⟩
        have e1 := idx_row ey
        walk_at "ev"
        rw [show (h : Int) + 1 = ((h + 1 : Nat) : Int) by omega]
        refine call_ret (lread m xs (h + 1) hl (by omega)) (by walk_at "evn") rfl ?_
        cases ew : rdw (xs.drop (h + 1)) with
        | none =>
          walk_at "ev"
          have b := bad (h + 1) (by unfold stp1; rw [ey]; dsimp only; rw [ew])
          exact ⟨by rw [b]; rfl, rfl⟩
        | some q =>
          obtain ⟨w, s⟩ := q
          obtain ⟨hw0, hw1, hs1, hs2, _⟩ := rdw_some ew
          have st : stp1 xs h f = if w = 0 ∨ f.getLast? = some y ∨ 100000 < (f.length : Int) + w then .inl h else .inr (f ++ List.replicate w.toNat y, h + 1 + s) := by
            unfold stp1
            rw [ey]
            dsimp only
            rw [ew]
          walk_at "ev"
          first | refine br_b (fun h1 => ?_) (fun h1 => ?_) | refine br_n (fun h1 => ?_) (fun h1 => ?_) | refine br (fun h1 => ?_) (fun h1 => ?_)
          · walk_at "ev"
            have b := bad h (by rw [st, if_pos (.inl h1)])
            exact ⟨by rw [b]; rfl, rfl⟩
          · walk_at "ev"
            first | refine br_b (fun h3 => ?_) (fun h3 => ?_) | refine br_n (fun h3 => ?_) (fun h3 => ?_) | refine br (fun h3 => ?_) (fun h3 => ?_)
            · rw [List.length_map] at h3
              walk_at "ev"
              have b := bad h (by rw [st, if_pos (.inr (.inr h3))])
              exact ⟨by rw [b]; rfl, rfl⟩
            · rw [List.length_map] at h3
              walk_at "ev"
              refine ex_some e1 ?_
              walk_at "ev"
              refine ex_some (o_eq_cut f y) ?_
              walk_at "ev"
              first | refine br_b (fun h2 => ?_) (fun h2 => ?_) | refine br_n (fun h2 => ?_) (fun h2 => ?_) | refine br (fun h2 => ?_) (fun h2 => ?_)
              · walk_at "ev"
                have b := bad h (by rw [st, if_pos (.inr (.inl h2))])
                exact ⟨by rw [b]; rfl, rfl⟩
              · walk_at "ev"
                refine ex_some e1 ?_
                walk_at "ev"
                refine ex_some (o_mul1 y w (by omega) (by omega)) ?_
                walk_at "ev"
                refine ex_some (by show (if _ then _ else _) = _; rw [if_pos (sizeLine_le (by rw [List.length_map, List.length_map, List.length_replicate]; omega))]) ?_
                walk_at "ev"
                refine ⟨f ++ List.replicate w.toNat y, h + 1 + s, some (.fz d), some (.fz (.tup [.int w, .int (((h + 1 : Nat) : Int) + (s : Int))])), by rw [prs_snoc hp, st, if_neg (by
                  intro z
                  rcases z with z | z | z
                  · exact h1 z
                  · exact h2 z
                  · exact h3 z)], ?_⟩
                rw [List.map_append, show ((h + 1 + s : Nat) : Int) = ((h + 1 : Nat) : Int) + (s : Int) by omega]
                rfl
    · subst he
      rw [List.length_map, List.length_range] at hp
      have hnv : n = v := by
        by_cases z : n = v
        · exact z
        · have hp2 := prs_ok _ _ _ _ _ hp (by omega) (by simp)
          omega
      rw [hnv] at hp
      walk_at "ev"
      exact ⟨by rw [eA, hp]; rfl, rfl⟩
theorem is_bad (m : Nat) (p : Nat) : Ret (cx (m + 2)) 27 [.fz (outD (.inl p)), .fz (.tup [.str "bad", .int (p : Int)])] (.fz (.bl true)) := is_refl 1 m _ (.tup _ (by show 2 ≤ _; decide) fun d hd => by
  rcases List.mem_cons.mp hd with rfl | hd
  · exact .str _ (by kernel_rfl)
  · rcases List.mem_cons.mp hd with rfl | hd
    · exact .int _
    · cases hd)
theorem o_ne_told (f : List Int) (h : Int) : opD .ne [.tup [.str "told", .tup [row f, .int h]], .tup [.str "told", .tup [row f, .int h]]] = some (.bl false) := by
  have e : toP (.tup [.str "told", .tup [row f, .int h]]) = some (PyData.tuple [.str "told", .tuple [.tuple (f.map .int), .int h]]) := by
    simp [toP, toPL, toPL_ints]
  show (eqD _ _).map (fun r => D.bl (!r)) = _
  unfold eqD
  rw [e]
  dsimp only
  rw [if_pos]
  · simp [PyData.eqv, PyData.eqvAll, eqv_ints]
  · have s : SeqAt.shaped (PyData.tuple [.str "told", .tuple [.tuple (f.map .int), .int h]]) = true := by
      unfold SeqAt.shaped
      simp [PyData.canLay0, PyData.canLayAll0, canLay_ints, PyData.depth, PyData.depthAll, depth_ints]
      kernel_rfl
    exact ⟨s, s⟩
theorem cut_mid {α : Type} (xs : List α) {a b : Nat} (h : a ≤ b) (hb : b ≤ xs.length) : cutL xs (some (a : Int)) (some (b : Int)) = (xs.drop a).take (b - a) := by
  unfold cutL HT.sIx
  dsimp only
  rw [if_neg (by omega), if_neg (by omega), Int.toNat_natCast, Int.toNat_natCast, Nat.min_eq_left (by omega : a ≤ xs.length)]
  try rw [Nat.min_eq_left hb]
theorem is_told (m : Nat) (xs : List Int) (hb : Bytes xs) (hl : xs.length ≤ 300000) (a : Nat) (ha : a ≤ xs.length) : Ret (cx (m + 6)) 39 [.fz (row xs), .fz (.int (a : Int))] (.fz (.bl true)) := by
  refine calls_of (by rfl) (by rfl) ?_
  walk_at "ev"
  refine call_ret (parsed (m + 3) xs a hl ha) (by walk_at "evn") rfl ?_
  cases e : prsA xs a with
  | inl p =>
    walk_at "ev"
    refine call_ret (read_told m xs hb hl a ha) (by walk_at "evn") rfl ?_
    rw [e]
    walk_at "ev"
    refine call_ret (is_bad (m + 3) p) (by walk_at "evn") rfl ?_
    walk_at "ev"
    exact ⟨rfl, rfl⟩
  | inr q =>
    obtain ⟨f, h⟩ := q
    obtain ⟨h1, h2, h3, h4, h5⟩ := prsA_back hb ha e
    walk_at "ev"
    refine call_ret (read_told m xs hb hl a ha) (by walk_at "evn") rfl ?_
    rw [e]
    walk_at "ev"
    refine ex_some (o_ne_told f _) ?_
    walk_at "ev"
    refine call_ret (input_row_ok m f h2 h3 (by rw [← h1, List.length_take, List.length_drop]; omega)) (by walk_at "evn") rfl ?_
    walk_at "ev"
    rw [cutL_map, cut_mid xs h4 h5, h1]
    refine ex_some (o_eq_rows _ _) ?_
    rw [decide_eq_true rfl]
    walk_at "ev"
    exact ⟨rfl, rfl⟩
end K26

set_option Elab.async false
set_option linter.all false
set_option maxRecDepth 100000
set_option maxHeartbeats 400000
namespace K26
open PySem PySem.Spec PyProof.Rows L2 He Gw Ev
local macro_rules | `(tactic| walk_at "evs") => `(tactic| first | exact Nat.le_of_ble_eq_true rfl | omega | exact Ev.mulOk_r (by omega) | exact Ev.mulOk_l (by omega) | rfl | assumption | exact ⟨by omega, by omega⟩ | exact ⟨rfl, Nat.le_of_ble_eq_true rfl⟩ | (refine Ev.sizeLine_le ?_; omega))
local macro_rules | `(tactic| walk_at "ev1") => `(tactic| (conv => whnf) <;> first
  | refine Ev.ex_some rfl ?_
  | refine Ev.nd (by walk_at "evs") ?_
  | refine Ev.br_t rfl ?_
  | refine Ev.br_f rfl ?_)
local macro_rules | `(tactic| walk_at "ev") => `(tactic| ((repeat walk_at "ev1"); (try (conv => whnf))))
local macro_rules | `(tactic| walk_at "evn") => `(tactic| first | exact List.nodup_nil | exact Ev.nd1)

def tD (p : Run) : D := .tup [.int p.1, .int p.2]
theorem mapT_get {rs : List Run} {k : Nat} {d : D} (h : (rs.map tD)[k]? = some d) : ∃ p, rs[k]? = some p ∧ d = tD p := by
  rw [List.getElem?_map] at h
  cases z : rs[k]? with
  | none => rw [z] at h; cases h
  | some x => rw [z] at h; cases h; exact ⟨x, rfl, rfl⟩
theorem cat_take {rs : List Run} {k : Nat} {p : Run} (h : rs[k]? = some p) : cat (rs.take (k + 1)) = cat (rs.take k) ++ List.replicate p.2.toNat p.1 := by
  rw [take_succ' h, cat_app]
  simp [cat]
theorem cat_take_len (rs : List Run) (k : Nat) : (cat (rs.take k)).length ≤ (cat rs).length := by
  have e : cat rs = cat (rs.take k) ++ cat (rs.drop k) := by rw [← cat_app, List.take_append_drop]
  rw [e, List.length_append]
  omega
theorem ticks (m : Nat) (rs : List Run) (hp : ∀ p ∈ rs, 1 ≤ p.2 ∧ p.2 ≤ 100000) (hl : (cat rs).length ≤ 100000) : Ret (cx (m + 1)) 34 [.fz (.lst (rs.map tD))] (.fz (row (cat rs))) := by
  refine calls_of (by rfl) (by rfl) ?_
  walk_at "ev"
  refine for_inv (fun k e => ∃ o2 o3, e = [some (.fz (.lst (rs.map tD))), some (.ol ((cat (rs.take k)).map .int)), o2, o3]) ⟨_, _, rfl⟩ (fun k d e hd ⟨o2, o3, he⟩ => ?_) fun e ⟨o2, o3, he⟩ => ?_
  · subst he
    obtain ⟨⟨x, n⟩, hx, rfl⟩ := mapT_get hd
    have hn := hp _ (List.mem_of_getElem? hx)
    have ht := cat_take_len rs (k + 1)
    rw [cat_take hx, List.length_append, List.length_replicate] at ht
    walk_at "ev"
    refine ex_some (o_mul1 x n hn.1 hn.2) ?_
    walk_at "ev"
    refine ex_some (by show (if _ then _ else _) = _; rw [if_pos (sizeLine_le (by rw [List.length_map, List.length_map, List.length_replicate]; dsimp only at ht; omega))]) ?_
    walk_at "ev"
    rw [cat_take hx, List.map_append]
    exact ⟨_, _, rfl⟩
  · subst he
    rw [List.length_map, List.take_length]
    walk_at "ev"
    exact ⟨rfl, rfl⟩
theorem run_bytesF (m : Nat) (rs : List Run) (hp : ∀ p ∈ rs, 0 ≤ p.2 ∧ p.2 < 18446744073709551616) (hl : rs.length ≤ 20000) : Calls (cx (m + 2)) 35 [.fz (.lst (rs.map tD))] (fun r o => r = .fz (row (rb rs)) ∧ o = [.fz (.lst (rs.map tD))]) fun _ _ => False := by
  refine calls_ofP (by rfl) (by rfl) ?_
  refine p_cons (fun e => e = [some (.fz (.lst (rs.map tD))), some (.ol ((wh (rs.length : Int)).map .int)), none, none]) ?_ ?_
  · walk_at "ev"
    rw [List.length_map]
    refine call_ret (lwhole m (rs.length : Int) (by omega) (by omega)) (by walk_at "evn") rfl ?_
    walk_at "ev"
    all_goals rfl
  intro e he
  subst he
  refine p_cons (fun e => ∃ o3 o4, e = [some (.fz (.lst (rs.map tD))), some (.ol ((rb rs).map .int)), o3, o4]) ?_ ?_
  · walk_at "ev"
    refine for_inv (fun k e => ∃ o3 o4, e = [some (.fz (.lst (rs.map tD))), some (.ol ((wh (rs.length : Int) ++ rbs (rs.take k)).map .int)), o3, o4]) ⟨none, none, by rw [List.take_zero]; show _ = [_, some (Wv.ol (((wh (rs.length : Int)) ++ []).map D.int)), _, _]; rw [List.append_nil]; try rfl⟩ (fun k d e hd ⟨o3, o4, he⟩ => ?_) fun e ⟨o3, o4, he⟩ => ?_
    · subst he
      obtain ⟨⟨x, n⟩, hx, rfl⟩ := mapT_get hd
      have hn := hp _ (List.mem_of_getElem? hx)
      have hw := wh_len n
      have ht := rbs_take_len rs k
      have hL := rb_len rs
      walk_at "ev"
      refine ex_some (by show (if _ then _ else _) = _; rw [if_pos (lt_line (by rw [List.length_map, List.length_append]; omega))]) ?_
      walk_at "ev"
      refine call_ret (lwhole m n hn.1 hn.2) (by walk_at "evn") rfl ?_
      walk_at "ev"
      refine ex_some (by show (if _ then _ else _) = _; rw [if_pos (sizeLine_le (by rw [List.length_append, List.length_map, List.length_append, List.length_map]; show _ + 1 + _ ≤ _; omega))]) ?_
      walk_at "ev"
      have e9 : (wh (rs.length : Int) ++ rbs (rs.take (k + 1))).map D.int = (wh (rs.length : Int) ++ rbs (rs.take k)).map D.int ++ [.int x] ++ (wh n).map D.int := by
        rw [rbs_take hx]
        simp
      rw [e9]
      exact ⟨_, _, rfl⟩
    · subst he
      rw [List.length_map, List.take_length]
      walk_at "ev"
      exact ⟨_, _, rfl⟩
  intro e ⟨o3, o4, he⟩
  subst he
  refine p_all ?_
  walk_at "ev"
  exact ⟨rfl, rfl⟩
theorem run_bytesO (m : Nat) (rs : List Run) (hp : ∀ p ∈ rs, 0 ≤ p.2 ∧ p.2 < 18446744073709551616) (hl : rs.length ≤ 20000) : Calls (cx (m + 2)) 35 [.ol (rs.map tD)] (fun r o => r = .fz (row (rb rs)) ∧ o = [.fz (.lst (rs.map tD))]) fun _ _ => False := by
  refine calls_ofP (by rfl) (by rfl) ?_
  refine p_cons (fun e => e = [some (.ol (rs.map tD)), some (.ol ((wh (rs.length : Int)).map .int)), none, none]) ?_ ?_
  · walk_at "ev"
    rw [List.length_map]
    refine call_ret (lwhole m (rs.length : Int) (by omega) (by omega)) (by walk_at "evn") rfl ?_
    walk_at "ev"
    all_goals rfl
  intro e he
  subst he
  refine p_cons (fun e => ∃ o3 o4, e = [some (.fz (.lst (rs.map tD))), some (.ol ((rb rs).map .int)), o3, o4]) ?_ ?_
  · walk_at "ev"
    refine for_inv (fun k e => ∃ o3 o4, e = [some (.fz (.lst (rs.map tD))), some (.ol ((wh (rs.length : Int) ++ rbs (rs.take k)).map .int)), o3, o4]) ⟨none, none, by rw [List.take_zero]; show _ = [_, some (Wv.ol (((wh (rs.length : Int)) ++ []).map D.int)), _, _]; rw [List.append_nil]; try rfl⟩ (fun k d e hd ⟨o3, o4, he⟩ => ?_) fun e ⟨o3, o4, he⟩ => ?_
    · subst he
      obtain ⟨⟨x, n⟩, hx, rfl⟩ := mapT_get hd
      have hn := hp _ (List.mem_of_getElem? hx)
      have hw := wh_len n
      have ht := rbs_take_len rs k
      have hL := rb_len rs
      walk_at "ev"
      refine ex_some (by show (if _ then _ else _) = _; rw [if_pos (lt_line (by rw [List.length_map, List.length_append]; omega))]) ?_
      walk_at "ev"
      refine call_ret (lwhole m n hn.1 hn.2) (by walk_at "evn") rfl ?_
      walk_at "ev"
      refine ex_some (by show (if _ then _ else _) = _; rw [if_pos (sizeLine_le (by rw [List.length_append, List.length_map, List.length_append, List.length_map]; show _ + 1 + _ ≤ _; omega))]) ?_
      walk_at "ev"
      have e9 : (wh (rs.length : Int) ++ rbs (rs.take (k + 1))).map D.int = (wh (rs.length : Int) ++ rbs (rs.take k)).map D.int ++ [.int x] ++ (wh n).map D.int := by
        rw [rbs_take hx]
        simp
      rw [e9]
      exact ⟨_, _, rfl⟩
    · subst he
      rw [List.length_map, List.take_length]
      walk_at "ev"
      exact ⟨_, _, rfl⟩
  intro e ⟨o3, o4, he⟩
  subst he
  refine p_all ?_
  walk_at "ev"
  exact ⟨rfl, rfl⟩
theorem input_bytes (m : Nat) (xs : List Int) (hl : xs.length ≤ 20000) : Ret (cx (m + 3)) 36 [.fz (row xs)] (.fz (row (rb (rl xs)))) := by
  refine calls_of (by rfl) (by rfl) ?_
  walk_at "ev"
  refine for_inv (fun k e => ∃ rs b o, ((k < xs.length ∧ b ≤ k ∧ (∃ y, xs[b]? = some y ∧ rs ++ [(y, (k : Int) + 1 - (b : Int))] = rl (xs.take (k + 1)))) ∨ (k = xs.length ∧ rs = rl xs)) ∧ e = [some (.fz (row xs)), some (.ol (rs.map tD)), some (.fz (.int ((b : Nat) : Int))), o]) ?_ (fun k d e hd ⟨rs, b, o, h, he⟩ => ?_) fun e ⟨rs, b, o, h, he⟩ => ?_
  · cases xs with
    | nil => exact ⟨[], 0, _, .inr ⟨rfl, rfl⟩, rfl⟩
    | cons x xs => exact ⟨[], 0, _, .inl ⟨by rw [List.length_cons]; omega, Nat.le_refl _, x, rfl, by show [(x, _)] = [(x, _)]; rfl⟩, rfl⟩
  · subst he
    obtain ⟨hk, ed⟩ := List.getElem?_eq_some_iff.mp hd
    rw [List.length_map, List.length_range, List.length_map] at hk
    rw [List.getElem_map, List.getElem_range] at ed
    subst ed
    have hk : k < xs.length := by omega
    rcases h with ⟨_, hb, y, hy, hr⟩ | ⟨h, _⟩
    · have e1 := idx_row hy
      have hrl : rs.length ≤ xs.length := by
        have h := (rl_take xs (k + 1)).len
        rw [← hr, List.length_append, List.length_take] at h
        omega

      walk_at "ev"
      first | refine br_b (fun h1 => ?_) (fun h1 => ?_) | refine br_n (fun h1 => ?_) (fun h1 => ?_) | refine br (fun h1 => ?_) (fun h1 => ?_)
      · rw [List.length_map] at h1
        walk_at "ev"
        refine ex_some e1 ?_
        walk_at "ev"
        refine ex_some (by show (if _ then _ else _) = _; rw [if_pos (lt_line (by rw [List.length_map]; omega))]) ?_
        walk_at "ev"
        refine ⟨rs ++ [(y, (k : Int) + 1 - (b : Int))], k + 1, some (.fz (.int (1 + (k : Int)))), .inr ⟨by omega, ?_⟩, ?_⟩
        · rw [hr, List.take_of_length_le (by omega)]
        · rw [List.map_append, show ((k + 1 : Nat) : Int) = 1 + (k : Int) by omega, show (k : Int) + 1 - (b : Int) = 1 + (k : Int) - (b : Int) by omega]
          rfl
      · rw [List.length_map] at h1
        have hlt : k + 1 < xs.length := by omega
        obtain ⟨z, hz⟩ : ∃ z, xs[k + 1]? = some z := ⟨_, List.getElem?_eq_getElem hlt⟩
        have e2 := idx_row hz
        rw [show ((k + 1 : Nat) : Int) = 1 + (k : Int) by omega] at e2
        have e3 : rl (xs.take (k + 2)) = rstep (rs ++ [(y, (k : Int) + 1 - (b : Int))]) z := by rw [take_succ' hz, rl_snoc, hr]
        walk_at "ev"
        refine ex_some e2 ?_
        walk_at "ev"
        refine ex_some e1 ?_
        walk_at "ev"
        first | refine br_b (fun h2 => ?_) (fun h2 => ?_) | refine br_n (fun h2 => ?_) (fun h2 => ?_) | refine br (fun h2 => ?_) (fun h2 => ?_)
        · walk_at "ev"
          refine ex_some e1 ?_
          walk_at "ev"
          refine ex_some (by show (if _ then _ else _) = _; rw [if_pos (lt_line (by rw [List.length_map]; omega))]) ?_
          walk_at "ev"
          rw [rstep_other _ _ _ _ (fun z => h2 z.symm)] at e3
          refine ⟨rs ++ [(y, (k : Int) + 1 - (b : Int))], k + 1, some (.fz (.int (1 + (k : Int)))), .inl ⟨hlt, Nat.le_refl _, z, hz, ?_⟩, ?_⟩
          · rw [e3]
            congr 2
            show (z, _) = (z, _)
            congr 1
            omega
          · rw [List.map_append, show ((k + 1 : Nat) : Int) = 1 + (k : Int) by omega, show (k : Int) + 1 - (b : Int) = 1 + (k : Int) - (b : Int) by omega]
            rfl
        · walk_at "ev"
          subst h2
          rw [rstep_same] at e3
          refine ⟨rs, b, some (.fz (.int (1 + (k : Int)))), .inl ⟨hlt, by omega, z, hy, ?_⟩, rfl⟩
          rw [e3]
          congr 2
          show (z, _) = (z, _)
          congr 1
          omega
    · omega
  · subst he
    rw [List.length_map, List.length_range, List.length_map] at h
    have hr : rs = rl xs := by
      rcases h with ⟨h, _⟩ | ⟨_, h⟩
      · omega
      · exact h
    subst hr
    have ok := rl_ok xs
    walk_at "ev"
    refine call_by (run_bytesO m (rl xs) (fun p hp => ?_) (by have := ok.len; omega)) (by walk_at "evn") rfl ?_
    · have := ok.pos p hp
      omega
    intro r o ⟨e1, e2⟩
    subst e1 e2
    walk_at "ev"
    exact ⟨rfl, rfl⟩
end K26

set_option Elab.async false
set_option linter.all false
set_option maxRecDepth 100000
set_option maxHeartbeats 400000
namespace K26
open PySem PySem.Spec PyProof.Rows L2 He Gw Ev
local macro_rules | `(tactic| walk_at "evs") => `(tactic| first | exact Nat.le_of_ble_eq_true rfl | omega | exact Ev.mulOk_r (by omega) | exact Ev.mulOk_l (by omega) | rfl | assumption | exact ⟨by omega, by omega⟩ | exact ⟨rfl, Nat.le_of_ble_eq_true rfl⟩ | (refine Ev.sizeLine_le ?_; omega))
local macro_rules | `(tactic| walk_at "ev1") => `(tactic| (conv => whnf) <;> first
  | refine Ev.ex_some rfl ?_
  | refine Ev.nd (by walk_at "evs") ?_
  | refine Ev.br_t rfl ?_
  | refine Ev.br_f rfl ?_)
local macro_rules | `(tactic| walk_at "ev") => `(tactic| ((repeat walk_at "ev1"); (try (conv => whnf))))
local macro_rules | `(tactic| walk_at "evn") => `(tactic| first | exact List.nodup_nil | exact Ev.nd1)

theorem spoilt (m : Nat) {w : Wv} (xs : List Int) (hw : HandOk w) (hb : Bytes xs) (hl : xs.length ≤ 250000) : Calls (cx (m + 4)) 32 [w, .fz (row xs)] (fun r o => ∃ ys w', r = .fz (row ys) ∧ o = [w', .fz (row xs)] ∧ HandOk w' ∧ Bytes ys ∧ ys.length ≤ xs.length + 4) fun _ _ => False := by
  obtain ⟨cells, hi0, hb0, hs0, hc0, rfl, hi⟩ := hw
  have hw : HandOk (hd cells hi0 hb0 hs0 hc0) := ⟨_, _, _, _, _, rfl, hi⟩
  have hc : ∀ lo hi, (cutL (xs.map D.int) lo hi).length ≤ xs.length := fun lo hi => by
    have := cutL_len (xs.map D.int) lo hi
    rw [List.length_map] at this
    exact this
  have hc' : ∀ lo hi, (cutL xs lo hi).length ≤ xs.length := fun lo hi => cutL_len xs lo hi
  refine calls_of (by rfl) (by rfl) ?_
  walk_at "ev"
  refine call_by (draw (m + 2) 5 hw (by decide) (by decide)) (by walk_at "evn") rfl ?_
  intro r o ⟨x, w', e1, e2, hw', hx0, hx1⟩
  subst e1 e2
  walk_at "ev"
  refine call_by (draw (m + 2) _ hw' (by rw [List.length_map]; omega) (by rw [List.length_map]; omega)) (by walk_at "evn") rfl ?_
  intro r o ⟨a, w', e1, e2, hw', ha0, ha1⟩
  subst e1 e2
  walk_at "ev"
  first | refine br_b (fun h0 => ?_) (fun h0 => ?_) | refine br_n (fun h0 => ?_) (fun h0 => ?_) | refine br (fun h0 => ?_) (fun h0 => ?_)
  · walk_at "ev"
    refine call_by (byte (m + 1) hw') (by walk_at "evn") rfl ?_
    intro r o ⟨y, w', e1, e2, hw', hy0, hy1⟩
    subst e1 e2
    walk_at "ev"
    refine nd (sizeLine_le (by have := hc none (some a); show _ + 1 ≤ _; omega)) ?_
    walk_at "ev"
    refine nd (sizeLine_le (by have := hc none (some a); have := hc (some (a + 1)) none; rw [List.length_append]; show _ + 1 + _ ≤ _; omega)) ?_
    walk_at "ev"
    exact ⟨cutL xs none (some a) ++ [y] ++ cutL xs (some (a + 1)) none, _, by simp [row, cutL_map], rfl, hw', ((hb.cut _ _).app (.one hy0 hy1)).app (hb.cut _ _), by rw [cut_upto _ ha0, cut_from _ (by omega), List.length_append, List.length_append, List.length_take, List.length_drop]; show _ + 1 + _ ≤ _; omega⟩
  · walk_at "ev"
    first | refine br_b (fun h1 => ?_) (fun h1 => ?_) | refine br_n (fun h1 => ?_) (fun h1 => ?_) | refine br (fun h1 => ?_) (fun h1 => ?_)
    · walk_at "ev"
      refine call_by (byte (m + 1) hw') (by walk_at "evn") rfl ?_
      intro r o ⟨y, w', e1, e2, hw', hy0, hy1⟩
      subst e1 e2
      walk_at "ev"
      refine nd (sizeLine_le (by have := hc none (some a); show _ + 1 ≤ _; omega)) ?_
      walk_at "ev"
      refine nd (sizeLine_le (by have := hc none (some a); have := hc (some a) none; rw [List.length_append]; show _ + 1 + _ ≤ _; omega)) ?_
      walk_at "ev"
      exact ⟨cutL xs none (some a) ++ [y] ++ cutL xs (some a) none, _, by simp [row, cutL_map], rfl, hw', ((hb.cut _ _).app (.one hy0 hy1)).app (hb.cut _ _), by rw [cut_upto _ ha0, cut_from _ ha0, List.length_append, List.length_append, List.length_take, List.length_drop]; show _ + 1 + _ ≤ _; omega⟩
    · walk_at "ev"
      first | refine br_b (fun h2 => ?_) (fun h2 => ?_) | refine br_n (fun h2 => ?_) (fun h2 => ?_) | refine br (fun h2 => ?_) (fun h2 => ?_)
      · walk_at "ev"
        refine nd (sizeLine_le (by have := hc none (some a); have := hc (some (a + 1)) none; omega)) ?_
        walk_at "ev"
        exact ⟨cutL xs none (some a) ++ cutL xs (some (a + 1)) none, _, by simp [row, cutL_map], rfl, hw', (hb.cut _ _).app (hb.cut _ _), by rw [cut_upto _ ha0, cut_from _ (by omega), List.length_append, List.length_take, List.length_drop]; omega⟩
      · walk_at "ev"
        first | refine br_b (fun h3 => ?_) (fun h3 => ?_) | refine br_n (fun h3 => ?_) (fun h3 => ?_) | refine br (fun h3 => ?_) (fun h3 => ?_)
        · walk_at "ev"
          exact ⟨cutL xs none (some a), _, by simp [row, cutL_map], rfl, hw', hb.cut _ _, by have := hc' none (some a); omega⟩
        · walk_at "ev"
          refine call_by (bytes m 4 hw' (by decide) (by decide)) (by walk_at "evn") rfl ?_
          intro r o ⟨bs, w', e1, e2, hw', hbs, hbl⟩
          subst e1 e2
          walk_at "ev"
          refine nd (sizeLine_le (by rw [List.length_map, List.length_map]; omega)) ?_
          walk_at "ev"
          exact ⟨xs ++ bs, _, by simp [row], rfl, hw', hb.app hbs, by rw [List.length_append]; omega⟩
theorem cat_len_snoc (rs : List Run) (x n : Int) : (cat (rs ++ [(x, n)])).length = (cat rs).length + n.toNat := by
  rw [cat_app, cat_one, List.length_append, List.length_replicate]
theorem set0 (d d' : D) (ds : List D) : setD (.ol (d :: ds)) (.int 0) d' = some (.ol (d' :: ds)) := by
  show (ixN (ds.length + 1) 0).map _ = _
  have e : ixN (ds.length + 1) 0 = some 0 := by
    unfold ixN
    rw [if_pos (by decide), if_pos (by omega)]
    rfl
  rw [e]
  rfl
theorem runs (m : Nat) {w : Wv} (hw : HandOk w) : Calls (cx (m + 3)) 33 [w] (fun r o => ∃ rs w', r = .ol (rs.map tD) ∧ o = [w'] ∧ HandOk w' ∧ rs.length ≤ 12 ∧ (∀ p ∈ rs, 0 ≤ p.1 ∧ p.1 ≤ 255 ∧ 1 ≤ p.2 ∧ p.2 ≤ 15300) ∧ (cat rs).length ≤ 18900) fun _ _ => False := by
  obtain ⟨cells, hi0, hb0, hs0, hc0, rfl, hi⟩ := hw
  have hw : HandOk (hd cells hi0 hb0 hs0 hc0) := ⟨_, _, _, _, _, rfl, hi⟩
  refine calls_ofP (by rfl) (by rfl) ?_
  refine p_cons (fun e => ∃ w g, HandOk w ∧ e = [some w, some (.fz (.int g)), none, none, none]) ?_ ?_
  · walk_at "ev"
    refine call_by (draw (m + 1) 12 hw (by decide) (by decide)) (by walk_at "evn") rfl ?_
    intro r o ⟨x, w', e1, e2, hw', hx0, hx1⟩
    subst e1 e2
    walk_at "ev"
    exact ⟨_, x, hw', rfl⟩
  intro e ⟨w, g, hw, he⟩
  subst he
  refine p_cons (fun e => e = [some w, some (.fz (.int g)), some (.ol []), none, none]) ?_ ?_
  · walk_at "ev"
    rfl
  intro e he
  subst he
  refine p_cons (fun e => ∃ w rs o3 o4, HandOk w ∧ rs.length ≤ 12 ∧ (∀ p ∈ rs, 0 ≤ p.1 ∧ p.1 ≤ 255 ∧ 1 ≤ p.2 ∧ p.2 ≤ 300) ∧ (cat rs).length ≤ 3600 ∧ e = [some w, some (.fz (.int g)), some (.ol (rs.map tD)), o3, o4]) ?_ ?_
  · walk_at "ev"
    refine call_by (draw (m + 1) 13 hw (by decide) (by decide)) (by walk_at "evn") rfl ?_
    intro r o ⟨x, w', e1, e2, hw', hx0, hx1⟩
    subst e1 e2
    walk_at "ev"
    refine ex_some rng_any ?_
    walk_at "ev"
    refine for_inv (fun k e => ∃ w rs o3 o4, HandOk w ∧ rs.length = k ∧ (∀ p ∈ rs, 0 ≤ p.1 ∧ p.1 ≤ 255 ∧ 1 ≤ p.2 ∧ p.2 ≤ 300) ∧ (cat rs).length ≤ 300 * k ∧ e = [some w, some (.fz (.int g)), some (.ol (rs.map tD)), o3, o4]) ⟨_, [], _, _, hw', rfl, fun p hp => (by cases hp), Nat.le_refl _, rfl⟩ (fun k d e hd ⟨w, rs, o3, o4, hw, hk, hp, hc, he⟩ => ?_) fun e ⟨w, rs, o3, o4, hw, hk, hp, hc, he⟩ => ?_
    · subst he
      have hkl := (List.getElem?_eq_some_iff.mp hd).1
      rw [List.length_map, List.length_range] at hkl
      walk_at "ev"
      refine call_by (draw (m + 1) 3 hw (by decide) (by decide)) (by walk_at "evn") rfl ?_
      intro r o ⟨z, w', e1, e2, hw', hz0, hz1⟩
      subst e1 e2
      obtain ⟨y, hy, e⟩ := idx_mem (xs := [1, 4, 300]) hz0 hz1
      walk_at "ev"
      refine ex_some e ?_
      simp only [List.mem_cons, List.not_mem_nil, or_false] at hy
      walk_at "ev"
      refine call_by (draw (m + 1) y hw' (by omega) (by omega)) (by walk_at "evn") rfl ?_
      intro r o ⟨n, w', e1, e2, hw', hn0, hn1⟩
      subst e1 e2
      walk_at "ev"
      refine call_by (byte m hw') (by walk_at "evn") rfl ?_
      intro r o ⟨b, w', e1, e2, hw', hb0, hb1⟩
      subst e1 e2
      walk_at "ev"
      refine ex_some (by show (if _ then _ else _) = _; rw [if_pos (lt_line (by rw [List.length_map]; omega))]) ?_
      walk_at "ev"
      refine ⟨w', rs ++ [(b, 1 + n)], _, _, hw', by rw [List.length_append, hk]; rfl, fun p hq => ?_, by rw [cat_len_snoc]; omega, by rw [List.map_append]; rfl⟩
      rcases List.mem_append.mp hq with hq | hq
      · exact hp p hq
      · rw [List.mem_singleton.mp hq]
        exact ⟨hb0, hb1, by show 1 ≤ 1 + n; omega, by show 1 + n ≤ 300; omega⟩
    · subst he
      rw [List.length_map, List.length_range] at hk hc
      walk_at "ev"
      exact ⟨w, rs, _, _, hw, by omega, hp, by omega, rfl⟩
  intro e ⟨w, rs, o3, o4, hw, hk, hp, hc, he⟩
  subst he
  have fin : ∀ p ∈ rs, 0 ≤ p.1 ∧ p.1 ≤ 255 ∧ 1 ≤ p.2 ∧ p.2 ≤ 15300 := fun p hq => by
    have := hp p hq
    omega
  refine p_all ?_
  walk_at "ev"
  first | refine br_b (fun h1 => ?_) (fun h1 => ?_) | refine br_n (fun h1 => ?_) (fun h1 => ?_) | refine br (fun h1 => ?_) (fun h1 => ?_)
  · walk_at "ev"
    cases rs with
    | nil =>
      walk_at "ev"
      exact ⟨[], w, rfl, rfl, hw, by decide, fun p hp => (by cases hp), by decide⟩
    | cons p ps =>
      obtain ⟨x, n⟩ := p
      have hq := hp _ List.mem_cons_self
      have e1 : opD .idx [.lst (((x, n) :: ps).map tD), .int 0] = some (tD (x, n)) := atI_nat (xs := ((x, n) :: ps).map tD) (j := 0) (by rfl)
      refine br_t (by rw [List.length_map, List.length_cons]; exact decide_eq_true (by omega)) ?_
      walk_at "ev"
      refine ex_some e1 ?_
      walk_at "ev"
      refine ex_some e1 ?_
      walk_at "ev"
      refine ex_some (set0 _ _ _) ?_
      walk_at "ev"
      refine ⟨(x, 15000 + n) :: ps, w, rfl, rfl, hw, hk, fun p hr => ?_, ?_⟩
      · rcases List.mem_cons.mp hr with rfl | hr
        · exact ⟨hq.1, hq.2.1, by show 1 ≤ 15000 + n; omega, by show 15000 + n ≤ 15300; omega⟩
        · exact fin p (List.mem_cons_of_mem _ hr)
      · have ec : ∀ k : Int, (cat ((x, k) :: ps)).length = k.toNat + (cat ps).length := fun k => by
          show (List.replicate k.toNat x ++ cat ps).length = _
          rw [List.length_append, List.length_replicate]
        rw [ec] at hc ⊢
        omega
  · walk_at "ev"
    exact ⟨rs, w, rfl, rfl, hw, hk, fin, by omega⟩
theorem idx_runs {rs : List Run} {i : Int} (h0 : 0 ≤ i) (h1 : i < rs.length) : ∃ p, p ∈ rs ∧ opD .idx [.lst (rs.map tD), .int i] = some (tD p) := by
  obtain ⟨k, rfl⟩ := Int.eq_ofNat_of_zero_le h0
  have hk : k < rs.length := by omega
  exact ⟨rs[k], List.getElem_mem hk, atI_nat (by rw [List.getElem?_map, List.getElem?_eq_getElem hk] <;> rfl)⟩
theorem mem_cut {α : Type} {xs : List α} {lo hi : Option Int} {x : α} (h : x ∈ cutL xs lo hi) : x ∈ xs := List.mem_of_mem_drop (List.mem_of_mem_take h)
theorem wrong_runs (m : Nat) {w : Wv} (rs : List Run) (hw : HandOk w) (hl : rs.length ≤ 12) (hp : ∀ p ∈ rs, 0 ≤ p.1 ∧ p.1 ≤ 255 ∧ 1 ≤ p.2 ∧ p.2 ≤ 15300) : Calls (cx (m + 3)) 40 [w, .fz (.lst (rs.map tD))] (fun r o => ∃ (qs : List Run) (w' : Wv), r = .fz (.lst (qs.map tD)) ∧ o = [w', .fz (.lst (rs.map tD))] ∧ HandOk w' ∧ qs.length ≤ 30 ∧ ∀ p ∈ qs, 0 ≤ p.1 ∧ p.1 ≤ 255 ∧ 0 ≤ p.2 ∧ p.2 < 18446744073709551616) fun _ _ => False := by
  obtain ⟨cells, hi0, hb0, hs0, hc0, rfl, hi⟩ := hw
  have hw : HandOk (hd cells hi0 hb0 hs0 hc0) := ⟨_, _, _, _, _, rfl, hi⟩
  have hc : ∀ lo hi, (cutL (rs.map tD) lo hi).length ≤ rs.length := fun lo hi => by
    have := cutL_len (rs.map tD) lo hi
    rw [List.length_map] at this
    exact this
  have done : ∀ (a x n : Int) (w' : Wv), HandOk w' → 0 ≤ x → x ≤ 255 → 0 ≤ n → n < 18446744073709551616 → ∃ (qs : List Run) (w2 : Wv), Wv.fz (.lst (cutL (rs.map tD) none (some a) ++ [.tup [.int x, .int n]] ++ cutL (rs.map tD) (some a) none)) = .fz (.lst (qs.map tD)) ∧ [w', Wv.fz (.lst (rs.map tD))] = [w2, .fz (.lst (rs.map tD))] ∧ HandOk w2 ∧ qs.length ≤ 30 ∧ ∀ p ∈ qs, 0 ≤ p.1 ∧ p.1 ≤ 255 ∧ 0 ≤ p.2 ∧ p.2 < 18446744073709551616 := fun a x n w' hw' h1 h2 h3 h4 => by
    refine ⟨cutL rs none (some a) ++ [(x, n)] ++ cutL rs (some a) none, w', by simp [cutL_map, tD], rfl, hw', ?_, fun p hq => ?_⟩
    · have := cutL_len rs none (some a)
      have := cutL_len rs (some a) none
      rw [List.length_append, List.length_append]
      show _ + 1 + _ ≤ _
      omega
    · have ok : p ∈ rs → 0 ≤ p.1 ∧ p.1 ≤ 255 ∧ 0 ≤ p.2 ∧ p.2 < 18446744073709551616 := fun h => by
        have := hp p h
        omega
      rcases List.mem_append.mp hq with hq | hq
      · rcases List.mem_append.mp hq with hq | hq
        · exact ok (mem_cut hq)
        · rw [List.mem_singleton.mp hq]
          exact ⟨h1, h2, h3, h4⟩
      · exact ok (mem_cut hq)
  refine calls_of (by rfl) (by rfl) ?_
  walk_at "ev"
  refine call_by (draw (m + 1) _ hw (by rw [List.length_map]; omega) (by rw [List.length_map]; omega)) (by walk_at "evn") rfl ?_
  intro r o ⟨a, w', e1, e2, hw', ha0, ha1⟩
  subst e1 e2
  rw [List.length_map] at ha1
  walk_at "ev"
  refine call_by (draw (m + 1) 3 hw' (by decide) (by decide)) (by walk_at "evn") rfl ?_
  intro r o ⟨x, w', e1, e2, hw', hx0, hx1⟩
  subst e1 e2
  have n1 : ∀ d : D, (cutL (rs.map tD) none (some a)).length + [d].length ≤ sizeLine := fun d => sizeLine_le (by have := hc none (some a); show _ + 1 ≤ _; omega)
  have n2 : ∀ d : D, (cutL (rs.map tD) none (some a) ++ [d]).length + (cutL (rs.map tD) (some a) none).length ≤ sizeLine := fun d => sizeLine_le (by have := hc none (some a); have := hc (some a) none; rw [List.length_append]; show _ + 1 + _ ≤ _; omega)
  walk_at "ev"
  first | refine br_b (fun h0 => ?_) (fun h0 => ?_) | refine br_n (fun h0 => ?_) (fun h0 => ?_) | refine br (fun h0 => ?_) (fun h0 => ?_)
  · walk_at "ev"
    refine call_by (byte m hw') (by walk_at "evn") rfl ?_
    intro r o ⟨y, w', e1, e2, hw', hy0, hy1⟩
    subst e1 e2
    walk_at "ev"
    refine nd (n1 _) ?_
    walk_at "ev"
    refine nd (n2 _) ?_
    walk_at "ev"
    exact done a y 0 _ hw' hy0 hy1 (by decide) (by decide)
  · walk_at "ev"
    have fin : wSL (cx (m + 2)) (fun x e => ex (outsA e 0 [hd cells hi0 hb0 hs0 hc0, .fz (.lst (rs.map tD))]) fun os => False) (pnOf [hd cells hi0 hb0 hs0 hc0, .fz (.lst (rs.map tD))]) (.cons (.ret (.op .add (.cons (.e (.op .add (.cons (.e (.slc (.own 1) .no (.yes (.frz 2)))) (.cons (.e (.lst (.cons (.tup (.cons (.call 30 (.ref 0 .nil)) (.cons (.op .idx (.cons (.e (.lst (.cons (.int 99999) (.cons (.int 100000) (.cons (.int 100001) (.cons (.op .pow (.cons (.e (.int 2)) (.cons (.e (.int 63)) .nil))) .nil)))))) (.cons (.e (.call 26 (.ref 0 (.val (.int 4) .nil)))) .nil))) .nil))) .nil))) .nil)))) (.cons (.e (.slc (.own 1) (.yes (.frz 2)) .no)) .nil)))) .nil) [some w', some (.fz (.lst (rs.map tD))), some (.fz (.int a)), some (.fz (.int x))] (fin' [hd cells hi0 hb0 hs0 hc0, .fz (.lst (rs.map tD))] fun r o => ∃ (qs : List Run) (w' : Wv), r = .fz (.lst (qs.map tD)) ∧ o = [w', .fz (.lst (rs.map tD))] ∧ HandOk w' ∧ qs.length ≤ 30 ∧ ∀ p ∈ qs, 0 ≤ p.1 ∧ p.1 ≤ 255 ∧ 0 ≤ p.2 ∧ p.2 < 18446744073709551616) := by
      walk_at "ev"
      refine call_by (byte m hw') (by walk_at "evn") rfl ?_
      intro r o ⟨y, w', e1, e2, hw', hy0, hy1⟩
      subst e1 e2
      walk_at "ev"
      refine call_by (draw (m + 1) 4 hw' (by decide) (by decide)) (by walk_at "evn") rfl ?_
      intro r o ⟨z, w', e1, e2, hw', hz0, hz1⟩
      subst e1 e2
      have e63 : (2 : Int) ^ (Int.toNat 63) = 9223372036854775808 := by decide
      obtain ⟨n, hn, e⟩ := idx_mem (xs := [99999, 100000, 100001, 9223372036854775808]) hz0 hz1
      simp only [List.mem_cons, List.not_mem_nil, or_false] at hn
      walk_at "ev"
      rw [e63]
      refine ex_some e ?_
      walk_at "ev"
      refine nd (n1 _) ?_
      walk_at "ev"
      refine nd (n2 _) ?_
      walk_at "ev"
      exact done a y n _ hw' hy0 hy1 (by omega) (by omega)
    first | refine br_b (fun h1 => ?_) (fun h1 => ?_) | refine br_n (fun h1 => ?_) (fun h1 => ?_) | refine br (fun h1 => ?_) (fun h1 => ?_)
    · walk_at "ev"
      first | refine br_b (fun h2 => ?_) (fun h2 => ?_) | refine br_n (fun h2 => ?_) (fun h2 => ?_) | refine br (fun h2 => ?_) (fun h2 => ?_)
      · obtain ⟨p, hpm, e⟩ := idx_runs (rs := rs) (i := a - 1) (by omega) (by omega)
        obtain ⟨y, k⟩ := p
        have hq := hp _ hpm
        walk_at "ev"
        refine ex_some e ?_
        walk_at "ev"
        refine call_by (draw (m + 1) 3 hw' (by decide) (by decide)) (by walk_at "evn") rfl ?_
        intro r o ⟨n, w', e1, e2, hw', hn0, hn1⟩
        subst e1 e2
        walk_at "ev"
        refine nd (n1 _) ?_
        walk_at "ev"
        refine nd (n2 _) ?_
        walk_at "ev"
        exact done a y (1 + n) _ hw' hq.1 hq.2.1 (by omega) (by omega)
      · exact fin
    · conv => whnf
      refine br_f rfl ?_
      exact fin
end K26

set_option Elab.async false
set_option linter.all false
set_option maxRecDepth 100000
set_option maxHeartbeats 1000000
namespace K26
open PySem PySem.Spec PyProof.Rows L2 He Gw Ev
local macro_rules | `(tactic| walk_at "evs") => `(tactic| first | exact Nat.le_of_ble_eq_true rfl | omega | exact Ev.mulOk_r (by omega) | exact Ev.mulOk_l (by omega) | rfl | assumption | exact ⟨by omega, by omega⟩ | exact ⟨rfl, Nat.le_of_ble_eq_true rfl⟩ | (refine Ev.sizeLine_le ?_; omega))
local macro_rules | `(tactic| walk_at "ev1") => `(tactic| (conv => whnf) <;> first
  | refine Ev.ex_some rfl ?_
  | refine Ev.nd (by walk_at "evs") ?_
  | refine Ev.br_t rfl ?_
  | refine Ev.br_f rfl ?_)
local macro_rules | `(tactic| walk_at "ev") => `(tactic| ((repeat walk_at "ev1"); (try (conv => whnf))))
local macro_rules | `(tactic| walk_at "evn") => `(tactic| first | exact List.nodup_nil | exact Ev.nd1)

theorem tick_ok (m : Nat) (x : Int) (h0 : 0 ≤ x) (h1 : x ≤ 100000) : Ret (cx (m + 3)) 6 [.fz (.int x)] (.fz (.bl true)) := by
  refine calls_of (by rfl) (by rfl) ?_
  walk_at "ev"
  refine call_ret (between m 0 100000 x h0 h1) (by walk_at "evn") rfl ?_
  walk_at "ev"
  exact ⟨rfl, rfl⟩
def oD : Option Int → D
  | none => .non
  | some y => .int y
def dueG (last : Option Int) (ago hold : Int) : Int := match last with
  | none => 0
  | some y => if ago ≤ hold then y else 0
theorem guess (m : Nat) (last : Option Int) (ago hold : Int) (hl : ∀ y, last = some y → 0 ≤ y ∧ y ≤ 255) (h0 : 0 ≤ ago) (h1 : ago ≤ 100000) (h2 : 0 ≤ hold) (h3 : hold ≤ 600) : Ret (cx (m + 4)) 24 [.fz (oD last), .fz (.int ago), .fz (.int hold)] (.fz (.int (dueG last ago hold))) := by
  refine calls_of (by rfl) (by rfl) ?_
  cases last with
  | none =>
    show wSL _ _ _ _ [some (.fz .non), _, _] _
    walk_at "ev"
    refine call_ret (tick_ok m ago h0 h1) (by walk_at "evn") rfl ?_
    walk_at "ev"
    refine call_ret (between (m + 1) 0 600 hold h2 h3) (by walk_at "evn") rfl ?_
    walk_at "ev"
    exact ⟨rfl, rfl⟩
  | some y =>
    have hy := hl y rfl
    show wSL _ _ _ _ [some (.fz (.int y)), _, _] _
    walk_at "ev"
    refine call_ret (input_ok m y hy.1 hy.2) (by walk_at "evn") rfl ?_
    walk_at "ev"
    refine call_ret (tick_ok m ago h0 h1) (by walk_at "evn") rfl ?_
    walk_at "ev"
    refine call_ret (between (m + 1) 0 600 hold h2 h3) (by walk_at "evn") rfl ?_
    walk_at "ev"
    first | refine br_b (fun h => ?_) (fun h => ?_) | refine br_n (fun h => ?_) (fun h => ?_) | refine br (fun h => ?_) (fun h => ?_)
    · walk_at "ev"
      exact ⟨by show Wv.fz (.int 0) = .fz (.int (if ago ≤ hold then y else 0)); rw [if_neg (by omega)], rfl⟩
    · walk_at "ev"
      exact ⟨by show Wv.fz (.int y) = .fz (.int (if ago ≤ hold then y else 0)); rw [if_pos (by omega)], rfl⟩
theorem is_int (m : Nat) (i : Int) : Ret (cx (m + 1)) 27 [.fz (.int i), .fz (.int i)] (.fz (.bl true)) := is_refl 0 m _ (.int i)
theorem idx_any {ds : List D} {i : Int} (h0 : 0 ≤ i) (h1 : i < ds.length) : ∃ y, y ∈ ds ∧ opD .idx [.lst ds, .int i] = some y := by
  obtain ⟨k, rfl⟩ := Int.eq_ofNat_of_zero_le h0
  have hk : k < ds.length := by omega
  exact ⟨ds[k], List.getElem_mem hk, atI_nat (List.getElem?_eq_getElem hk)⟩
theorem is_guess (m : Nat) {w : Wv} (hw : HandOk w) : Calls (cx (m + 5)) 41 [w] (fun r o => r = .fz (.bl true) ∧ ∃ w', o = [w'] ∧ HandOk w') fun _ _ => False := by
  obtain ⟨cells, hi0, hb0, hs0, hc0, rfl, hi⟩ := hw
  have hw : HandOk (hd cells hi0 hb0 hs0 hc0) := ⟨_, _, _, _, _, rfl, hi⟩
  refine calls_ofP (by rfl) (by rfl) ?_
  refine p_cons (fun e => ∃ w last, HandOk w ∧ (∀ y, last = some y → 0 ≤ y ∧ y ≤ 255) ∧ e = [some w, some (.fz (oD last)), none, none, none]) ?_ ?_
  · walk_at "ev"
    refine call_by (draw (m + 3) 256 hw (by decide) (by decide)) (by walk_at "evn") rfl ?_
    intro r o ⟨x, w', e1, e2, hw', hx0, hx1⟩
    subst e1 e2
    walk_at "ev"
    refine call_by (draw (m + 3) 4 hw' (by decide) (by decide)) (by walk_at "evn") rfl ?_
    intro r o ⟨z, w', e1, e2, hw', hz0, hz1⟩
    subst e1 e2
    obtain ⟨y, hy, e⟩ := idx_any (ds := [.non, .int 0, .int 255, .int x]) hz0 hz1
    walk_at "ev"
    refine ex_some e ?_
    walk_at "ev"
    simp only [List.mem_cons, List.not_mem_nil, or_false] at hy
    rcases hy with rfl | rfl | rfl | rfl
    · exact ⟨w', none, hw', fun y h => (by cases h), rfl⟩
    · exact ⟨w', some 0, hw', fun y h => (by cases h; decide), rfl⟩
    · exact ⟨w', some 255, hw', fun y h => (by cases h; decide), rfl⟩
    · exact ⟨w', some x, hw', fun y h => (by cases h; omega), rfl⟩
  intro e ⟨w, last, hw, hlast, he⟩
  subst he
  refine p_cons (fun e => ∃ w hold, HandOk w ∧ 0 ≤ hold ∧ hold ≤ 600 ∧ e = [some w, some (.fz (oD last)), some (.fz (.int hold)), none, none]) ?_ ?_
  · walk_at "ev"
    refine call_by (draw (m + 3) 601 hw (by decide) (by decide)) (by walk_at "evn") rfl ?_
    intro r o ⟨x, w', e1, e2, hw', hx0, hx1⟩
    subst e1 e2
    walk_at "ev"
    refine call_by (draw (m + 3) 4 hw' (by decide) (by decide)) (by walk_at "evn") rfl ?_
    intro r o ⟨z, w', e1, e2, hw', hz0, hz1⟩
    subst e1 e2
    obtain ⟨y, hy, e⟩ := idx_mem (xs := [0, 1, 600, x]) hz0 hz1
    walk_at "ev"
    refine ex_some e ?_
    walk_at "ev"
    simp only [List.mem_cons, List.not_mem_nil, or_false] at hy
    exact ⟨w', y, hw', by omega, by omega, rfl⟩
  intro e ⟨w, hold, hw, hh0, hh1, he⟩
  subst he
  refine p_cons (fun e => ∃ w o3 o4, HandOk w ∧ e = [some w, some (.fz (oD last)), some (.fz (.int hold)), o3, o4]) ?_ ?_
  · have hmx : 0 ≤ (if hold - 1 > 0 then hold - 1 else 0) ∧ (if hold - 1 > 0 then hold - 1 else 0) ≤ 100000 := by split <;> omega
    walk_at "ev"
    refine call_by (draw (m + 3) 100001 hw (by decide) (by decide)) (by walk_at "evn") rfl ?_
    intro r o ⟨x, w', e1, e2, hw', hx0, hx1⟩
    subst e1 e2
    walk_at "ev"
    refine for_inv (fun k e => ∃ o3 o4, e = [some w', some (.fz (oD last)), some (.fz (.int hold)), o3, o4]) ⟨_, _, rfl⟩ (fun k d e hd ⟨o3, o4, he⟩ => ?_) fun e ⟨o3, o4, he⟩ => ?_
    · subst he
      have hm := List.mem_of_getElem? hd
      have : ∃ ago : Int, d = .int ago ∧ 0 ≤ ago ∧ ago ≤ 100000 := by
        simp only [List.mem_cons, List.not_mem_nil, or_false] at hm
        rcases hm with rfl | rfl | rfl | rfl | rfl | rfl
        · exact ⟨_, rfl, by decide, by decide⟩
        · exact ⟨_, rfl, by omega, by omega⟩
        · exact ⟨_, rfl, by omega, by omega⟩
        · exact ⟨_, rfl, hmx.1, hmx.2⟩
        · exact ⟨_, rfl, by decide, by decide⟩
        · exact ⟨_, rfl, by omega, by omega⟩
      obtain ⟨ago, rfl, ha0, ha1⟩ := this
      have hg := guess m last ago hold hlast ha0 ha1 hh0 hh1
      cases last with
      | none =>
        have hg : Ret (cx (m + 4)) 24 [.fz .non, .fz (.int ago), .fz (.int hold)] (.fz (.int 0)) := hg
        show wSL _ _ _ _ [some w', some (.fz .non), _, _, _] _
        walk_at "ev"
        refine call_ret hg (by walk_at "evn") rfl ?_
        walk_at "ev"
        refine call_ret (is_int (m + 3) 0) (by walk_at "evn") rfl ?_
        walk_at "ev"
        exact ⟨_, _, rfl⟩
      | some y =>
        have hg : Ret (cx (m + 4)) 24 [.fz (.int y), .fz (.int ago), .fz (.int hold)] (.fz (.int (if ago ≤ hold then y else 0))) := hg
        show wSL _ _ _ _ [some w', some (.fz (.int y)), _, _, _] _
        walk_at "ev"
        first | refine br_b (fun h => ?_) (fun h => ?_) | refine br_n (fun h => ?_) (fun h => ?_) | refine br (fun h => ?_) (fun h => ?_)
        · rw [if_pos h] at hg
          walk_at "ev"
          refine call_ret hg (by walk_at "evn") rfl ?_
          walk_at "ev"
          refine call_ret (is_int (m + 3) y) (by walk_at "evn") rfl ?_
          walk_at "ev"
          exact ⟨_, _, rfl⟩
        · rw [if_neg h] at hg
          walk_at "ev"
          refine call_ret hg (by walk_at "evn") rfl ?_
          walk_at "ev"
          refine call_ret (is_int (m + 3) 0) (by walk_at "evn") rfl ?_
          walk_at "ev"
          exact ⟨_, _, rfl⟩
    · subst he
      walk_at "ev"
      exact ⟨_, _, _, hw', rfl⟩
  intro e ⟨w, o3, o4, hw, he⟩
  subst he
  refine p_all ?_
  walk_at "ev"
  exact ⟨rfl, w, rfl, hw⟩
abbrev S0 (ns : List Int) : Option Wv := some (.fz (.scr ns))
abbrev iv (x : Int) : Option Wv := some (.fz (.int x))
abbrev rv' (x : List Int) : Option Wv := some (.fz (row x))
abbrev tv (x : List Run) : Option Wv := some (.fz (.lst (x.map tD)))
theorem pl_row (xs : List Int) (hl : xs.length ≤ 300000) : Pl 1 (row xs) := .tup _ (by rw [List.length_map]; exact hl) fun d hd => by
  obtain ⟨x, _, rfl⟩ := List.mem_map.mp hd
  exact .int x
end K26

set_option Elab.async false
set_option linter.all false
set_option maxRecDepth 100000
set_option maxHeartbeats 2000000
namespace K26
open PySem PySem.Spec PyProof.Rows L2 He Gw Ev
local macro_rules | `(tactic| walk_at "evs") => `(tactic| first | exact Nat.le_of_ble_eq_true rfl | omega | exact Ev.mulOk_r (by omega) | exact Ev.mulOk_l (by omega) | rfl | assumption | exact ⟨by omega, by omega⟩ | exact ⟨rfl, Nat.le_of_ble_eq_true rfl⟩ | (refine Ev.sizeLine_le ?_; omega))
local macro_rules | `(tactic| walk_at "ev1") => `(tactic| (conv => whnf) <;> first
  | refine Ev.ex_some rfl ?_
  | refine Ev.nd (by walk_at "evs") ?_
  | refine Ev.br_t rfl ?_
  | refine Ev.br_f rfl ?_)
local macro_rules | `(tactic| walk_at "ev") => `(tactic| ((repeat walk_at "ev1"); (try (conv => whnf))))
local macro_rules | `(tactic| walk_at "evn") => `(tactic| first | exact List.nodup_nil | exact Ev.nd1)

theorem law_ok (m : Nat) (ns : List Int) (hn : ns.length ≤ 63) : Ret (cx (m + 7)) 42 [.fz (.scr ns)] (.fz (.bl true)) := by
  refine calls_ofP (by rfl) (by rfl) ?_
  refine p_cons (fun e => ∃ w, HandOk w ∧ e = [S0 ns, some w, none, none, none, none, none, none, none, none, none, none, none, none, none]) ?_ ?_
  · walk_at "ev"
    refine call_by (hand (m + 5) ns hn) (by walk_at "evn") rfl ?_
    intro r o ⟨hw, e⟩
    subst e
    walk_at "ev"
    exact ⟨_, hw, rfl⟩
  intro e ⟨w, hw, he⟩
  subst he
  refine p_cons (fun e => ∃ w many, HandOk w ∧ 0 ≤ many ∧ many < 4 ∧ e = [S0 ns, some w, iv many, none, none, none, none, none, none, none, none, none, none, none, none]) ?_ ?_
  · walk_at "ev"
    refine call_by (draw (m + 5) 4 hw (by decide) (by decide)) (by walk_at "evn") rfl ?_
    intro r o ⟨x, w', e1, e2, hw', hx0, hx1⟩
    subst e1 e2
    walk_at "ev"
    exact ⟨w', x, hw', hx0, hx1, rfl⟩
  intro e ⟨w, many, hw, hm0, hm1, he⟩
  subst he
  refine p_cons (fun e => ∃ w rs, HandOk w ∧ rs.length ≤ 12 ∧ (∀ p ∈ rs, 0 ≤ p.1 ∧ p.1 ≤ 255 ∧ 1 ≤ p.2 ∧ p.2 ≤ 15300) ∧ (cat rs).length ≤ 18900 ∧ e = [S0 ns, some w, iv many, tv rs, none, none, none, none, none, none, none, none, none, none, none]) ?_ ?_
  · walk_at "ev"
    refine call_by (runs (m + 3) hw) (by walk_at "evn") rfl ?_
    intro r o ⟨rs, w', e1, e2, hw', h1, h2, h3⟩
    subst e1 e2
    walk_at "ev"
    exact ⟨w', rs, hw', h1, h2, h3, rfl⟩
  intro e ⟨w, rs, hw, hr1, hr2, hr3, he⟩
  subst he
  have hcb : Bytes (cat rs) := cat_bytes fun p hp => by have := hr2 p hp; omega
  have ok := rl_ok (cat rs)
  have hrb := rb_len (rl (cat rs))
  have hlen := ok.len
  have hL : (rb (rl (cat rs))).length ≤ 210000 := by omega
  have hdb : Bytes (rb (rl (cat rs))) := (wh_bytes (by omega) (by omega)).app (rbs_bytes fun p hp => by
    have h1 := ok.pos p hp
    have h2 := hcb _ (ok.by_ p hp)
    omega)
  have hti := ticks (m + 5) rs (fun p hp => by have := hr2 p hp; omega) (by omega)
  have hib := input_bytes (m + 3) (cat rs) (by omega)
  have hir := input_row_ok (m + 1) (cat rs) hcb (by omega) (by omega)
  have hcat := ok.cat
  generalize hxs : cat rs = xs at *
  generalize hds : rb (rl xs) = ds at *
  refine p_cons (fun e => e = [S0 ns, some w, iv many, tv rs, rv' xs, none, none, none, none, none, none, none, none, none, none]) ?_ ?_
  · walk_at "ev"
    refine call_ret hti (by walk_at "evn") rfl ?_
    walk_at "ev"
    rfl
  intro e he
  subst he
  refine p_cons (fun e => e = [S0 ns, some w, iv many, tv rs, rv' xs, rv' ds, none, none, none, none, none, none, none, none, none]) ?_ ?_
  · walk_at "ev"
    refine call_ret hir (by walk_at "evn") rfl ?_
    walk_at "ev"
    rfl
  intro e he
  subst he
  refine p_cons (fun e => e = [S0 ns, some w, iv many, tv rs, rv' xs, rv' ds, rv' ds, none, none, none, none, none, none, none, none]) ?_ ?_
  · walk_at "ev"
    refine call_ret hib (by walk_at "evn") rfl ?_
    walk_at "ev"
    rfl
  intro e he
  subst he
  refine p_cons (fun e => e = [S0 ns, some w, iv many, tv rs, rv' xs, rv' ds, rv' ds, none, none, none, none, none, none, none, none]) ?_ ?_
  · walk_at "ev"
    refine call_ret (is_refl 1 (m + 4) (row ds) (pl_row _ (by omega))) (by walk_at "evn") rfl ?_
    walk_at "ev"
    all_goals rfl
  intro e he
  subst he
  refine p_cons (fun e => ∃ w as, HandOk w ∧ Bytes as ∧ as.length ≤ 5 ∧ e = [S0 ns, some w, iv many, tv rs, rv' xs, rv' ds, rv' ds, rv' as, none, none, none, none, none, none, none]) ?_ ?_
  · walk_at "ev"
    refine call_by (bytes (m + 3) 5 hw (by decide) (by decide)) (by walk_at "evn") rfl ?_
    intro r o ⟨as, w', e1, e2, hw', h1, h2⟩
    subst e1 e2
    walk_at "ev"
    exact ⟨w', as, hw', h1, by omega, rfl⟩
  intro e ⟨w, as, hw, hab, hal, he⟩
  subst he
  refine p_cons (fun e => ∃ w bs, HandOk w ∧ Bytes bs ∧ bs.length ≤ 5 ∧ e = [S0 ns, some w, iv many, tv rs, rv' xs, rv' ds, rv' ds, rv' as, rv' bs, none, none, none, none, none, none]) ?_ ?_
  · walk_at "ev"
    refine call_by (bytes (m + 3) 5 hw (by decide) (by decide)) (by walk_at "evn") rfl ?_
    intro r o ⟨as, w', e1, e2, hw', h1, h2⟩
    subst e1 e2
    walk_at "ev"
    exact ⟨w', as, hw', h1, by omega, rfl⟩
  intro e ⟨w, bs, hw, hbb, hbl, he⟩
  subst he
  have n1 : ∀ ys : List Int, ys.length ≤ 260000 → (as.map D.int).length + (ys.map D.int).length ≤ sizeLine := fun ys h => sizeLine_le (by rw [List.length_map, List.length_map]; omega)
  have n2 : ∀ ys : List Int, ys.length ≤ 260000 → (as.map D.int ++ ys.map D.int).length + (bs.map D.int).length ≤ sizeLine := fun ys h => sizeLine_le (by rw [List.length_append, List.length_map, List.length_map, List.length_map]; omega)
  refine p_cons (fun e => e = [S0 ns, some w, iv many, tv rs, rv' xs, rv' ds, rv' ds, rv' as, rv' bs, none, none, none, none, none, none]) ?_ ?_
  · have hp : prsA (as ++ ds ++ bs) as.length = .inr (xs, as.length + ds.length) := by
      have := prsA_fwd (xs := as ++ ds ++ bs) bs (R := rl xs) (a := as.length) ok.adj (fun p hp => (ok.pos p hp).1) (by rw [hcat]; omega) (by omega) (by rw [hds, List.append_assoc, List.drop_left]) (by rw [List.length_append, List.length_append]; omega)
      rw [hcat, hds] at this
      exact this
    have hrt := read_told (m + 1) (as ++ ds ++ bs) ((hab.app hdb).app hbb) (by rw [List.length_append, List.length_append]; omega) as.length (by rw [List.length_append, List.length_append]; omega)
    rw [hp] at hrt
    walk_at "ev"
    refine nd (n1 ds (by omega)) ?_
    walk_at "ev"
    refine nd (n2 ds (by omega)) ?_
    walk_at "ev"
    rw [← List.map_append, ← List.map_append, List.length_map]
    refine call_ret hrt (by walk_at "evn") rfl ?_
    rw [show outD (.inr (xs, as.length + ds.length)) = .tup [.str "told", .tup [row xs, .int ((as.length : Int) + (ds.length : Int))]] by show D.tup [.str "told", .tup [row xs, .int _]] = _; rw [show ((as.length + ds.length : Nat) : Int) = (as.length : Int) + (ds.length : Int) by omega]]
    walk_at "ev"
    rw [List.length_map, List.length_map]
    refine ex_some (o_ne_told xs _) ?_
    walk_at "ev"
    rfl
  intro e he
  subst he
  refine p_cons (fun e => ∃ w o5 o9, HandOk w ∧ e = [S0 ns, some w, iv many, tv rs, rv' xs, o5, rv' ds, rv' as, rv' bs, o9, none, none, none, none, none]) ?_ ?_
  · walk_at "ev"
    refine ex_some rng_any ?_
    walk_at "ev"
    refine for_inv (fun k e => ∃ w ys o9, HandOk w ∧ Bytes ys ∧ ys.length ≤ 210000 + 4 * k ∧ e = [S0 ns, some w, iv many, tv rs, rv' xs, rv' ys, rv' ds, rv' as, rv' bs, o9, none, none, none, none, none]) ⟨w, ds, none, hw, hdb, by omega, rfl⟩ (fun k d e hd ⟨w, ys, o9, hw, hyb, hyl, he⟩ => ?_) fun e ⟨w, ys, o9, hw, hyb, hyl, he⟩ => ?_
    · subst he
      have hk := (List.getElem?_eq_some_iff.mp hd).1
      rw [List.length_map, List.length_range] at hk
      walk_at "ev"
      refine call_by (spoilt (m + 2) ys hw hyb (by omega)) (by walk_at "evn") rfl ?_
      intro r o ⟨zs, w', e1, e2, hw', h1, h2⟩
      subst e1 e2
      walk_at "ev"
      refine nd (n1 zs (by omega)) ?_
      walk_at "ev"
      refine nd (n2 zs (by omega)) ?_
      walk_at "ev"
      rw [← List.map_append, ← List.map_append, List.length_map]
      refine call_ret (is_told m (as ++ zs ++ bs) ((hab.app h1).app hbb) (by rw [List.length_append, List.length_append]; omega) as.length (by rw [List.length_append, List.length_append]; omega)) (by walk_at "evn") rfl ?_
      walk_at "ev"
      exact ⟨w', zs, some (.fz d), hw', h1, by omega, rfl⟩
    · subst he
      walk_at "ev"
      exact ⟨w, _, _, hw, rfl⟩
  intro e ⟨w, o5, o9, hw, he⟩
  subst he
  refine p_cons (fun e => ∃ qs o13 o14, qs.length ≤ 12 ∧ (∀ p ∈ qs, p ∈ rs) ∧ e = [S0 ns, some w, iv many, tv rs, rv' xs, o5, rv' ds, rv' as, rv' bs, o9, tv qs, none, none, o13, o14]) ?_ ?_
  · walk_at "ev"
    refine nd (sizeLine_le (by rw [List.length_map]; omega)) ?_
    refine tu_inv (fun k l e => ∃ qs, l = qs.map tD ∧ qs.length ≤ k ∧ (∀ p ∈ qs, p ∈ rs) ∧ e = [S0 ns, some w, iv many, tv rs, rv' xs, o5, rv' ds, rv' as, rv' bs, o9, none, none, none, none, none]) ⟨[], rfl, Nat.le_refl _, fun p hp => (by cases hp), rfl⟩ (fun k d l e hd ⟨qs, h1, h2, h3, h4⟩ => ?_) fun l e ⟨qs, h1, h2, h3, h4⟩ => ?_
    · subst h1 h4
      obtain ⟨⟨x, n⟩, hx, rfl⟩ := mapT_get hd
      have hm := List.mem_of_getElem? hx
      walk_at "ev"
      first | refine br_b (fun h => ?_) (fun h => ?_) | refine br_n (fun h => ?_) (fun h => ?_) | refine br (fun h => ?_) (fun h => ?_)
      · walk_at "ev"
        refine ⟨qs ++ [(x, n)], by rw [List.map_append]; rfl, by rw [List.length_append]; show _ + 1 ≤ _; omega, fun p hp => ?_, rfl⟩
        rcases List.mem_append.mp hp with hp | hp
        · exact h3 p hp
        · rw [List.mem_singleton.mp hp]
          exact hm
      · exact ⟨qs, rfl, by omega, h3, rfl⟩
    · subst h1 h4
      rw [List.length_map] at h2
      walk_at "ev"
      exact ⟨qs, none, none, by omega, h3, rfl⟩
  intro e ⟨qs, o13, o14, hq1, hq2, he⟩
  subst he
  refine p_cons (fun e => ∃ w, HandOk w ∧ e = [S0 ns, some w, iv many, tv rs, rv' xs, o5, rv' ds, rv' as, rv' bs, o9, tv qs, none, none, o13, o14]) ?_ ?_
  · walk_at "ev"
    refine call_by (wrong_runs (m + 3) qs hw hq1 (fun p hp => hr2 p (hq2 p hp))) (by walk_at "evn") rfl ?_
    intro r o ⟨us, w', e1, e2, hw', h1, h2⟩
    subst e1 e2
    walk_at "ev"
    refine call_by (run_bytesF (m + 4) us (fun p hp => (h2 p hp).2.2) (by omega)) (by walk_at "evn") rfl ?_
    intro r o ⟨e1, e2⟩
    subst e1 e2
    have hb := rb_len us
    have hub : Bytes (rb us) := (wh_bytes (by omega) (by omega)).app (rbs_bytes h2)
    walk_at "ev"
    refine nd (n1 (rb us) (by omega)) ?_
    walk_at "ev"
    rw [← List.map_append, List.length_map]
    refine call_ret (is_told m (as ++ rb us) (hab.app hub) (by rw [List.length_append]; omega) as.length (by rw [List.length_append]; omega)) (by walk_at "evn") rfl ?_
    walk_at "ev"
    exact ⟨w', hw', rfl⟩
  intro e ⟨w, hw, he⟩
  subst he
  refine p_cons (fun e => ∃ w ss, HandOk w ∧ Bytes ss ∧ ss.length ≤ 12 ∧ e = [S0 ns, some w, iv many, tv rs, rv' xs, o5, rv' ds, rv' as, rv' bs, o9, tv qs, rv' ss, none, o13, o14]) ?_ ?_
  · walk_at "ev"
    refine call_by (bytes (m + 3) 12 hw (by decide) (by decide)) (by walk_at "evn") rfl ?_
    intro r o ⟨as, w', e1, e2, hw', h1, h2⟩
    subst e1 e2
    walk_at "ev"
    exact ⟨w', as, hw', h1, by omega, rfl⟩
  intro e ⟨w, ss, hw, hsb, hsl, he⟩
  subst he
  refine p_all ?_
  conv => whnf
  refine ex_some rng_any ?_
  walk_at "ev"
  refine for_inv (fun k e => ∃ o12, e = [S0 ns, some w, iv many, tv rs, rv' xs, o5, rv' ds, rv' as, rv' bs, o9, tv qs, rv' ss, o12, o13, o14]) ⟨none, rfl⟩ (fun k d e hd ⟨o12, he⟩ => ?_) fun e ⟨o12, he⟩ => ?_
  · subst he
    obtain ⟨hk, ed⟩ := List.getElem?_eq_some_iff.mp hd
    rw [List.length_map, List.length_range, List.length_map] at hk
    rw [List.getElem_map, List.getElem_range] at ed
    subst ed
    walk_at "ev"
    refine call_ret (is_told m ss hsb (by omega) k (by omega)) (by walk_at "evn") rfl ?_
    walk_at "ev"
    exact ⟨_, rfl⟩
  · subst he
    walk_at "ev"
    refine call_by (is_guess (m + 1) hw) (by walk_at "evn") rfl ?_
    intro r o ⟨e1, w', e2, hw'⟩
    subst e1 e2
    walk_at "ev"
    refine call_ret hir (by walk_at "evn") rfl ?_
    walk_at "ev"
    refine ex_some (o_eq_rows _ _) ?_
    rw [decide_eq_true rfl]
    walk_at "ev"
    exact ⟨rfl, rfl⟩
end K26

set_option Elab.async false
set_option linter.all false
namespace K26
open PySem PySem.Spec PyProof.Rows L2 He Gw Ev
def lev : Nat := 40
theorem law_true : ∀ ns : List Int, ns.length ≤ 63 → ∃ outs, calT tab C0 lev 42 [.fz (.scr ns)] = .ok (.fz (.bl true)) outs := fun ns h =>
  law_of (k := 40) (Calls.imp (law_ok 33 ns h) (fun _ _ e => e.1) fun _ _ z => z)
end K26

set_option Elab.async false
set_option linter.all false
set_option maxRecDepth 100000
set_option maxHeartbeats 4000000
namespace K26
open PySem PySem.Spec PyProof.Rows L2 He Gw
theorem run (w : World) : HandSHeadRun.RunEq R (PySem.W.view R.prog [56]) hk ob 20000 loose w := by
  intro os
  kernel_rfl
end K26

set_option Elab.async false
set_option linter.all false
set_option maxRecDepth 100000
set_option maxHeartbeats 0
namespace K26
open PySem PySem.Spec PyProof.Rows L2 He Gw Ev
theorem ending {P : Program} {w : World} {K : PySem.W.Frag} {h : Heap} {mg : Str → Option Value} {f : Addr} (X : K.In h) (G : h.Ns mainGlobals mg) (hfa : mg ("law" : Str) = some (.ref f)) (c : SaysX fx fn K) :
    ∃ fd : FuncData, (∀ (s : Shared) (v : Value), BindsTo s fd ⟨[v], []⟩ [("_law_script", v)]) ∧ ∀ base : Heap, K.In base → base.Ns mainGlobals mg → FnG P w K mg base CX0 (2 * lev + 2) f fd ["_law_script"] (spScr K) := by
  have T := txt X G c
  have e := hfa.symm.trans T.d_law.g
  cases e
  have b := FunD.bindsA (ps := ["_law_script"]) T.d_law.F fun _ _ _ _ _ _ us hl => match us, hl with | [_], _ => rfl
  exact ⟨_, fun s v => b s [v] rfl, fun base _ _ => law_fn (gs (P := P) (w := w) (base := base) T lev).g_law law_true⟩
end K26
open PySem PySem.W PySem.Calls PyProof.Rows
theorem PySem.Challenge.cw_guessedworlds_k26_whole_inputs_as_rows_holds : PySem.Challenge.rw_guessedworlds_k26_whole_inputs_as_rows.Holds := by
  w_on; o_law
  refine HandSHeadRun.head_any (r := OpenLaw.row PySem.Challenge.rw_guessedworlds_k26_whole_inputs_as_rows) (q := view (OpenLaw.row PySem.Challenge.rw_guessedworlds_k26_whole_inputs_as_rows).prog [56]) (H := K26.hk) (ob := K26.ob) (M := 20000) (loose := K26.loose) (d := HandSHeadRun.topDef (OpenLaw.row PySem.Challenge.rw_guessedworlds_k26_whole_inputs_as_rows).prog 56) (kwd := []) K26.ob_eq
    (by kernel_rfl) (fun s => by kernel_rfl) K26.run (by kernel_rfl) (by kernel_rfl) (by kernel_rfl) (by rfl) (by first | assumption | decide +kernel) (by decide +kernel) ⟨rfl, rfl, rfl, rfl, rfl, by decide +kernel⟩ ?hw ?hc
  case hw => w_witness2
  case hc =>
    refine Gw.walk_ofG (l := PySem.Challenge.rw_guessedworlds_k26_whole_inputs_as_rows) (n := 63) (k := 2 * K26.lev + 2) (x := "_law_script") (CX := L2.CX0) rfl (by decide) (by kernel_rfl) ⟨rfl, by decide, by decide⟩ ?F (fun _ _ _ _ z => z)
    intro w mg fa h Y G hmg0
    obtain ⟨K, KX, c⟩ := Y
    have hmg : mg ("law" : PySem.Str) = some (.ref fa) := by
      have e : (HandSHeadRun.topDef (OpenLaw.row PySem.Challenge.rw_guessedworlds_k26_whole_inputs_as_rows).prog 56).name = ("law" : PySem.Str) := by kernel_rfl
      rw [← e]
      exact hmg0
    obtain ⟨fd, hb, hF⟩ := K26.ending (P := (PySem.Challenge.rw_guessedworlds_k26_whole_inputs_as_rows).prog) (w := w) KX G hmg c
    exact ⟨K, fd, Ev.spScr K, KX, hb, fun H a ns hl _ hS => ⟨a, ns, rfl, hl, hS, fun _ => rfl⟩, hF⟩

