import PyProof.Rows.All
import Wide.All
import OpenK.AllK
import Wide.FinOn
import HandS.ForMost
import HandS.Exc
import HandS.ExcOwn
import HandS.Conv
import HandS.IsInst
import HandS.Style
import HandS.Defaults
import PyProof.EqAt
import PyProof.EqKinds
import PyProof.TupleCall
import PyProof.JoinWalk
import KE.KNest
import HandS.AnyAll
import HandS.JoinGen
import HandS.GenOver
import PyProof.StrLawsIn
import PySem.Challenge.RW_slabfloor_k13_whole_floors_turned
import HandS.Codes
import HandS.More
import HandS.WordsExc
import HandS.WordsDict
import HandS.SortInts
import HandS.SortOrd
import HandS.Call
import PyProof.InstEq
import HandS.HotCalls
import HandS.DictComp
import HandS.Sort
import HandS.Rev
import HandS.RevTup
import PyProof.ListNew
import HandS.Walk
import HandS.HeadHook3
import HandS.ExcIs
import HandS.EndOwn
set_option Elab.async false
set_option linter.all false
set_option maxRecDepth 100000
set_option maxHeartbeats 2000000
/-! A generator expression of two clauses (for x in ..: for y in x), walked by any. -/
namespace Gx2
open PySem PySem.Spec PyProof.Rows L2
open Sem (wp)

theorem eval_gen2 (elt target iter : Expr) (g2 : Comprehension) (scope : Scope) (pos : Pos) (env : Env) (hco : scope.isCoroutine = false) :
    eval (.GeneratorExp elt [⟨target, iter, [], 0⟩, g2] scope pos) env = (do
      let x ← eval iter env
      standAt iter.pos
      let x ← genFold iter env x
      let it ← holding [x] (pyIter x)
      enterFrame
      let cl ← closureFor scope env
      let code ← genexprCode env pos (env.qual ++ "<genexpr>") scope
      let bi ← builtinsFor env.globals env.builtins
      let cenv ← newFunctionEnv scope env.globals cl [(".0", it)] (env.qual ++ "<genexpr>.") none code none bi
      newGenerator (.compStart (.GeneratorExp elt [⟨target, iter, [], 0⟩, g2] scope pos) 0 it .none cenv) "<genexpr>" (env.qual ++ "<genexpr>")) := by
  rw [arm_eval_GeneratorExp]
  simp only [hco, Bool.false_eq_true, if_false]
  cases iter <;> rfl

theorem turn0 (elt t1 iter t2 : Expr) (y : Str) (py : Pos) (scope : Scope) (pos : Pos) (it acc : Value) (env : Env) :
    compTurn (.GeneratorExp elt [⟨t1, iter, [], 0⟩, ⟨t2, .Name y py, [], 0⟩] scope pos) 0 it acc env = (do
      standAt iter.pos
      match ← pyNext it with
      | none => pure (.done .next)
      | some v =>
        letOwnedTupleGo t1 it v
        assign t1 env v
        let x ← eval (.Name y py) env
        standAt py
        let J ← holding [x] (pyIter x)
        let _ ← runOwn (.compStart (.GeneratorExp elt [⟨t1, iter, [], 0⟩, ⟨t2, .Name y py, [], 0⟩] scope pos) 1 J acc env) env
        again (.compLoop (.GeneratorExp elt [⟨t1, iter, [], 0⟩, ⟨t2, .Name y py, [], 0⟩] scope pos) 0 it acc env)) := by
  rfl
theorem turn1 (elt t1 iter t2 iter2 : Expr) (scope : Scope) (pos : Pos) (it acc : Value) (env : Env) :
    compTurn (.GeneratorExp elt [⟨t1, iter, [], 0⟩, ⟨t2, iter2, [], 0⟩] scope pos) 1 it acc env = (do
      standAt iter2.pos
      match ← pyNext it with
      | none => pure (.done .next)
      | some v =>
        letOwnedTupleGo t2 it v
        assign t2 env v
        (do let v ← eval elt env; standAt elt.pos; let _ ← yieldOut env v)
        again (.compLoop (.GeneratorExp elt [⟨t1, iter, [], 0⟩, ⟨t2, iter2, [], 0⟩] scope pos) 1 it acc env)) := by
  rfl

/-- the generator's run since s₀: below B all but its frame and the iterator's own cells is kept -/
def Since (B : Nat) (C : Addr) (wr : List Addr) (s₀ s : Shared) : Prop :=
  ∃ h' tk, s = { s₀ with heap := h', toks := tk } ∧ ∀ b o, b < B → b ≠ C → b ∉ wr → s₀.heap.get? b = some o → h'.get? b = some o
theorem Since.refl (B : Nat) (C : Addr) (wr : List Addr) (s : Shared) : Since B C wr s s := ⟨s.heap, s.toks, rfl, fun _ _ _ _ _ e => e⟩
theorem Since.step {B : Nat} {C : Addr} {wr : List Addr} {s₀ s : Shared} (x : Since B C wr s₀ s) {h' : Heap} {tk : Nat} (hk : ∀ b o, b < B → b ≠ C → b ∉ wr → s.heap.get? b = some o → h'.get? b = some o) :
    Since B C wr s₀ { s with heap := h', toks := tk } := by
  obtain ⟨h₁, tk₁, rfl, hk₁⟩ := x
  exact ⟨h', tk, rfl, fun b o hB hC hw e => hk b o hB hC hw (hk₁ b o hB hC hw e)⟩
/-- what was there at the generator's making -/
def Kept (B : Nat) (C : Addr) (wr : List Addr) (href h : Heap) : Prop := ∀ b o, b < B → b ≠ C → b ∉ wr → href.get? b = some o → h.get? b = some o
theorem Kept.step {B : Nat} {C : Addr} {wr : List Addr} {href h h' : Heap} (x : Kept B C wr href h) (k : ∀ b o, b < B → b ≠ C → b ∉ wr → h.get? b = some o → h'.get? b = some o) : Kept B C wr href h' :=
  fun b o hB hC hw e => k b o hB hC hw (x b o hB hC hw e)
def proto (B : Nat) (C : Addr) (wr : List Addr) (N : Nat) (F : Nat → Value → Prop) : Protocol := fun m s₀ v s kap =>
  F (N - 1 - m) v ∧ Since B C wr s₀ s ∧ ∀ s'' : Shared, (∀ b o, s.heap.get? b = some o → s''.heap.get? b = some o) → kap (.send .none) s''
abbrev gend (B : Nat) (C : Addr) (wr : List Addr) : GenEnd := fun n s₀ r s₁ => r = .ok .next ∧ (n = 0 ∧ Since B C wr s₀ s₁)

abbrev gx (elt iter : Expr) (x y : Str) (px py qy : Pos) (scope : Scope) (pos : Pos) : Expr := .GeneratorExp elt [⟨.Name x px, iter, [], 0⟩, ⟨.Name y py, .Name x qy, [], 0⟩] scope pos
theorem lt_of_none {h : Heap} {J b : Addr} {o : Obj} (e : h.get? b = some o) (hj : h.objs.size ≤ J) : b ≠ J := fun z => by
  rw [z] at e
  exact absurd (Nat.lt_of_lt_of_le (Heap.lt_size e) hj) (Nat.lt_irrefl _)

section
variable {prog : Program} {w : World} {A : Around} {elt iter : Expr} {x y : Str} {px py qy : Pos} {scope : Scope} {pos : Pos} {cenv : Env} {B N : Nat} {wr fp : List Addr} {F : Nat → Value → Prop} {St₀ : Nat → Heap → Prop} {href : Heap} {pb : Nat → Bool}

theorem seg_inner {a : Str} {J : Addr} {St₁ : Nat → Heap → Prop} {i r : Nat} {kk : Result → Sem PySem.Fin} {c : Code} {p : Pos} {l : List Value} {ret_g : Bool}
    (hh : A.handled = none) (hg : ret_g = false) (hfr : ∀ (i : Nat) (h h' : Heap), St₀ i h → (∀ b ∈ fp, ∀ o, h.get? b = some o → h'.get? b = some o) → St₀ i h')
    (hfp : ∀ b ∈ fp, b < B) (hC : cenv.locals ∉ fp) (hCB : cenv.locals < B) (hwr : ∀ b ∈ wr, b < B) (hJ : B ≤ J)
    (W₁ : ∀ A' : Around, A'.handled = none → Walks prog w A' J [J] [J] a.cps.size (SignAt a) St₁)
    (hy : cenv.kindOf y = some .local) (hp : (cenv.scope.kind == .class || (cenv.scope.kind == .module && cenv.locals != cenv.globals)) = false) (hco : cenv.scope.isCoroutine = false)
    (hel : ∀ (A' : Around) (E' : Value → Shared → Prop) (c : Nat) (u : Tok) (s₂ : Shared) (m₂ : Str → Option Value), A'.handled = none → s₂.heap.Ns cenv.locals m₂ → m₂ y = some (.str ⟨#[c]⟩ u) → Kept B cenv.locals wr href s₂.heap →
      wpAny (model prog w) A' (eval elt cenv) (fun v s₃ => v = .bool (pb c) ∧ Keeps s₂ s₃) E' s₂)
    (hidx : ∀ j c, a.cps[j]? = some c → F (N - 1 - ((a.cps.size - (j + 1)) + r)) (.bool (pb c)))
    (hcont : ∀ (s₀ s : Shared) (m : Str → Option Value), St₀ i s.heap → s.heap.Ns cenv.locals m → Since B cenv.locals wr s₀ s → Kept B cenv.locals wr href s.heap →
      Seg (model prog w) A (gend B cenv.locals wr) (proto B cenv.locals wr N F) r s₀ c (kk (.ok .next)) [] s) :
    ∀ (k j : Nat) (s₀ s : Shared) (m : Str → Option Value), a.cps.size - j = k → j ≤ a.cps.size → St₁ j s.heap → St₀ i s.heap → s.heap.Ns cenv.locals m → Since B cenv.locals wr s₀ s → Kept B cenv.locals wr href s.heap →
      Seg (model prog w) A (gend B cenv.locals wr) (proto B cenv.locals wr N F) (k + r) s₀ (.compLoop (gx elt iter x y px py qy scope pos) 1 (.ref J) .none cenv)
        ((model prog w).den (.compLoop (gx elt iter x y px py qy scope pos) 1 (.ref J) .none cenv)) [.ret kk none ret_g l c p []] s := by
  have hh' : (A.over (.compLoop (gx elt iter x y px py qy scope pos) 1 (.ref J) .none cenv) [.ret kk none ret_g l c p []]).handled = none := hh
  have nJ : ∀ b, b < B → b ∉ [J] := fun b hb hm => by
    rw [List.mem_singleton.mp hm] at hb
    exact absurd (Nat.lt_of_lt_of_le hb hJ) (Nat.lt_irrefl _)
  have nCJ : cenv.locals ∉ [J] := nJ _ hCB
  intro k
  induction k with
  | zero =>
    intro j s₀ s m hk hj hst₁ hst hn hsince hkp
    have hjn : j = a.cps.size := by omega
    subst hjn
    show Seg _ A _ _ _ s₀ _ ((compTurn (gx elt iter x y px py qy scope pos) 1 (.ref J) .none cenv).onRaise (fun e => do noteFrame e cenv; theTreesLotGoes e)) _ s
    rw [turn1, Sem.onRaise_eq_wrap]
    refine seg_bind_wrap (wpAny_standAt ?_)
    refine seg_bind_wrap ((W₁ _ hh').done s _ _ hst₁ fun h' tk hk' => ?_)
    have k1 : ∀ b o, b < B → s.heap.get? b = some o → h'.get? b = some o := fun b o hb e => hk' b o (nJ b hb) e
    refine seg_leaf (.ok .next) ?_
    rw [Nat.zero_add]
    exact hcont s₀ _ m (hfr _ _ _ hst fun b hb o e => k1 b o (hfp b hb) e) (hn.at' fun o e => k1 _ o hCB e) (hsince.step fun b o hb _ _ e => k1 b o hb e) (hkp.step fun b o hb _ _ e => k1 b o hb e)
  | succ k ih =>
    intro j s₀ s m hk hj hst₁ hst hn hsince hkp
    have hlt : j < a.cps.size := by omega
    show Seg _ A _ _ _ s₀ _ ((compTurn (gx elt iter x y px py qy scope pos) 1 (.ref J) .none cenv).onRaise (fun e => do noteFrame e cenv; theTreesLotGoes e)) _ s
    rw [turn1, Sem.onRaise_eq_wrap]
    refine seg_bind_wrap (wpAny_standAt ?_)
    refine seg_bind_wrap ((W₁ _ hh').item j s _ _ hlt hst₁ fun v h₁ tk₁ hPv hst₁' hk₁ => ?_)
    obtain ⟨cc, u, hcc, rfl⟩ := hPv
    have k1 : ∀ b o, b < B → s.heap.get? b = some o → h₁.get? b = some o := fun b o hb e => hk₁ b o (nJ b hb) e
    refine seg_bind_wrap (wpAny_of_eq (rfl : letOwnedTupleGo (.Name y py) (.ref J) _ = pure ()) ?_)
    refine seg_bind_wrap (wpAny_assign_Name (wpAny_storeName_local hy (hn.at' fun o e => k1 _ o hCB e) (fun h₂ hn₂ hs₂ => ?_) hp))
    have k2 : ∀ b o, b < B → b ≠ cenv.locals → s.heap.get? b = some o → h₂.get? b = some o := fun b o hb hbC e => hs₂.extBut b o hbC (k1 b o hb e)
    have hst₁₂ : St₁ (j + 1) h₂ := (W₁ A hh).frame _ _ _ hst₁' fun b hb o e => hs₂.extBut b o (fun z => nCJ (z ▸ hb)) e
    have hst₂ : St₀ i h₂ := hfr _ _ _ hst fun b hb o e => k2 b o (hfp b hb) (fun z => hC (z ▸ hb)) e
    have hkp₂ : Kept B cenv.locals wr href h₂ := hkp.step fun b o hb hbC _ e => k2 b o hb hbC e
    have hy' : ∀ v, yieldOut cenv v = yieldValue v := fun v => by simp only [yieldOut, hco, Bool.false_eq_true, if_false]
    simp only [hy']
    rw [Sem.bind_eq_wrap', Sem.bind_eq_wrap', Sem.wrap_wrap, Sem.wrap_wrap]
    refine seg_wrap (wpAny_mono (hel _ _ cc u _ _ hh' hn₂ (by simp) hkp₂) (fun yv s₄ h₄ => ?_) fun _ _ e => e)
    obtain ⟨rfl, h₄', tk₄, rfl, hk₄⟩ := h₄
    have ek : k = a.cps.size - (j + 1) := by omega
    rw [Nat.succ_add]
    have hF : F (N - 1 - (k + r)) (.bool (pb cc)) := by
      rw [ek]
      exact hidx j cc hcc
    have hfg : ([Frame.ret kk none ret_g l c p []].any Frame.guarded) = false := by
      subst hg
      rfl
    refine seg_at (seg_yield rfl rfl hfg ⟨hF, hsince.step fun b o hb hbC _ e => hk₄ b o (k2 b o hb hbC e), fun s'' hal => ?_⟩)
    have k5 : ∀ b o, h₂.get? b = some o → s''.heap.get? b = some o := fun b o e => hal b o (hk₄ b o e)
    refine seg_again rfl (ih (j + 1) s'' s'' _ ek.symm hlt ((W₁ A hh).frame _ _ _ hst₁₂ fun b _ o e => k5 b o e) (hfr _ _ _ hst₂ fun b _ o e => k5 b o e) (hn₂.at' fun o e => k5 _ o e) (Since.refl _ _ _ _) (hkp₂.step fun b o _ _ _ e => k5 b o e))

/-- the signs of all rows -/
abbrev flat (ws : List Str) : List Nat := ws.flatMap (fun a => a.cps.toList)
theorem flat_at {ws : List Str} {i j c : Nat} {a : Str} (ha : ws[i]? = some a) (hc : a.cps[j]? = some c) :
    (flat ws)[(flat ws).length - 1 - ((a.cps.size - (j + 1)) + (flat (ws.drop (i + 1))).length)]? = some c := by
  obtain ⟨hi, e⟩ := List.getElem?_eq_some_iff.mp ha
  obtain ⟨hj, e2⟩ := Array.getElem?_eq_some_iff.mp hc
  have d : ws = ws.take i ++ a :: ws.drop (i + 1) := by
    rw [← e, List.getElem_cons_drop, List.take_append_drop]
  have f : flat ws = flat (ws.take i) ++ (a.cps.toList ++ flat (ws.drop (i + 1))) := by
    show ws.flatMap _ = _
    rw [d]
    simp only [List.flatMap_append, List.flatMap_cons]
    rw [← d]
  have la : a.cps.toList.length = a.cps.size := by simp
  rw [f, List.length_append, List.length_append, la]
  have n1 : (flat (ws.take i)).length + (a.cps.size + (flat (ws.drop (i + 1))).length) - 1 - (a.cps.size - (j + 1) + (flat (ws.drop (i + 1))).length) = (flat (ws.take i)).length + j := by omega
  rw [n1, List.getElem?_append_right (by omega), Nat.add_sub_cancel_left, List.getElem?_append_left (by omega), Array.getElem?_toList]
  exact hc
theorem flat_drop {ws : List Str} {i : Nat} {a : Str} (ha : ws[i]? = some a) : (flat (ws.drop i)).length = a.cps.size + (flat (ws.drop (i + 1))).length := by
  obtain ⟨hi, e⟩ := List.getElem?_eq_some_iff.mp ha
  rw [List.drop_eq_getElem_cons hi, e]
  show ((a :: ws.drop (i + 1)).flatMap _).length = _
  rw [List.flatMap_cons, List.length_append]
  simp
theorem seg_outer {ws : List Str} {I : Addr} {P : Nat → Value → Prop} {a₀ : Addr}
    (hh : A.handled = none) (hB : B = a₀ + 1) (ha₀ : ∃ o, href.get? a₀ = some o) (hal : a₀ ≠ cenv.locals) (haw : a₀ ∉ wr)
    (hfp : ∀ b ∈ fp, b < B) (hC : cenv.locals ∉ fp) (hCB : cenv.locals < B)
    (W₀ : ∀ A' : Around, A'.handled = none → Walks prog w A' I fp wr ws.length P St₀) (hP : ∀ i v, P i v → ∃ a t, ws[i]? = some a ∧ v = .str a t)
    (hx : cenv.kindOf x = some .local) (hy : cenv.kindOf y = some .local) (hkf : cenv.scope.kind = .function) (hp : (cenv.scope.kind == .class || (cenv.scope.kind == .module && cenv.locals != cenv.globals)) = false) (hco : cenv.scope.isCoroutine = false)
    (hel : ∀ (A' : Around) (E' : Value → Shared → Prop) (c : Nat) (u : Tok) (s₂ : Shared) (m₂ : Str → Option Value), A'.handled = none → s₂.heap.Ns cenv.locals m₂ → m₂ y = some (.str ⟨#[c]⟩ u) → Kept B cenv.locals wr href s₂.heap →
      wpAny (model prog w) A' (eval elt cenv) (fun v s₃ => v = .bool (pb c) ∧ Keeps s₂ s₃) E' s₂)
    (hdx : (x == ("__debug__" : Str)) = false) :
    ∀ (k i : Nat) (s₀ s : Shared) (m : Str → Option Value), ws.length - i = k → i ≤ ws.length → St₀ i s.heap → s.heap.Ns cenv.locals m → Since B cenv.locals wr s₀ s → Kept B cenv.locals wr href s.heap →
      Seg (model prog w) A (gend B cenv.locals wr) (proto B cenv.locals wr (flat ws).length (fun n v => ∃ c, (flat ws)[n]? = some c ∧ v = .bool (pb c))) (flat (ws.drop i)).length s₀ (.compLoop (gx elt iter x y px py qy scope pos) 0 (.ref I) .none cenv)
        ((model prog w).den (.compLoop (gx elt iter x y px py qy scope pos) 0 (.ref I) .none cenv)) [] s := by
  have hh' : (A.over (.compLoop (gx elt iter x y px py qy scope pos) 0 (.ref I) .none cenv) []).handled = none := hh
  have hsub : ∀ b ∈ wr, b ∈ fp := fun b hb => (W₀ A hh).sub b hb
  have hwr : ∀ b ∈ wr, b < B := fun b hb => hfp b (hsub b hb)
  have hCw : cenv.locals ∉ wr := fun h => hC (hsub _ h)
  intro k
  induction k with
  | zero =>
    intro i s₀ s m hk hi hst hn hsince hkp
    have hin : i = ws.length := by omega
    subst hin
    show Seg _ A _ _ _ s₀ _ ((compTurn (gx elt iter x y px py qy scope pos) 0 (.ref I) .none cenv).onRaise (leaving cenv)) _ s
    rw [turn0, Sem.onRaise_eq_wrap]
    refine seg_bind_wrap (wpAny_standAt ?_)
    refine seg_bind_wrap ((W₀ _ hh').done s _ _ hst fun h' tk hk' => ?_)
    exact seg_end (.ok .next) ⟨rfl, by rw [List.drop_of_length_le (Nat.le_refl _)]; rfl, hsince.step fun b o _ _ hw e => hk' b o hw e⟩
  | succ k ih =>
    intro i s₀ s m hk hi hst hn hsince hkp
    have hlt : i < ws.length := by omega
    show Seg _ A _ _ _ s₀ _ ((compTurn (gx elt iter x y px py qy scope pos) 0 (.ref I) .none cenv).onRaise (leaving cenv)) _ s
    rw [turn0, Sem.onRaise_eq_wrap]
    refine seg_bind_wrap (wpAny_standAt ?_)
    refine seg_bind_wrap ((W₀ _ hh').item i s _ _ hlt hst fun v h₁ tk₁ hPv hst₁ hk₁ => ?_)
    obtain ⟨a, t, ha, rfl⟩ := hP i v hPv
    refine seg_bind_wrap (wpAny_of_eq (rfl : letOwnedTupleGo (.Name x px) (.ref I) _ = pure ()) ?_)
    refine seg_bind_wrap (wpAny_assign_Name (wpAny_storeName_local hx (hn.at' fun o e => hk₁ _ o hCw e) (fun h₂ hn₂ hs₂ => ?_) hp))
    have up₂ : ∀ b o, b ≠ cenv.locals → b ∉ wr → s.heap.get? b = some o → h₂.get? b = some o := fun b o hbC hbw e => hs₂.extBut b o hbC (hk₁ b o hbw e)
    have hst₂ : St₀ (i + 1) h₂ := (W₀ A hh).frame _ _ _ hst₁ fun b hb o e => hs₂.extBut b o (fun h => hC (h ▸ hb)) e
    have hkp₂ : Kept B cenv.locals wr href h₂ := hkp.step fun b o _ hbC hbw e => up₂ b o hbC hbw e
    have hsince₂ : Since B cenv.locals wr s₀ { s with heap := h₂, toks := tk₁ } := hsince.step fun b o _ hbC hbw e => up₂ b o hbC hbw e
    have hJ : B ≤ h₂.objs.size := by
      obtain ⟨oa, ea⟩ := ha₀
      have e1 := hkp₂ a₀ oa (by rw [hB]; exact Nat.lt_succ_self _) hal haw ea
      rw [hB]
      exact Heap.lt_size e1
    refine seg_bind_wrap (wpAny_Name (wpAny_loadName_local hkf hx hn₂ (v := .str a t) (by simp) ?_) hdx)
    refine seg_bind_wrap (wpAny_standAt ?_)
    refine seg_bind_wrap (wpAny_holding (wpAny_pyIter_str fun o St₁ W₁ hst₁₁ => ?_))
    have kp3 : ∀ b u, h₂.get? b = some u → (h₂.push o).get? b = some u := fun b u e => Heap.get?_push_of_some _ e
    refine seg_call (h := none) fun p => ?_
    have hh2 : (A.over (.compStart (gx elt iter x y px py qy scope pos) 1 (.ref h₂.objs.size) .none cenv) [.ret (fun _ => Sem.pure (.done .next)) none false [] (.compLoop (gx elt iter x y px py qy scope pos) 0 (.ref I) .none cenv) p []]).handled = none := hh
    have loop := fun (kk : Result → Sem PySem.Fin) (l : List Value) (tk : Nat) hcont => seg_inner (prog := prog) (w := w) (A := A) (elt := elt) (iter := iter) (x := x) (px := px) (py := py) (qy := qy) (scope := scope) (pos := pos) (i := i + 1) (r := (flat (ws.drop (i + 1))).length) (kk := kk) (c := .compLoop (gx elt iter x y px py qy scope pos) 0 (.ref I) .none cenv) (p := p) (l := l) (ret_g := false) (N := (flat ws).length) (F := fun n v => ∃ c, (flat ws)[n]? = some c ∧ v = .bool (pb c))
      hh rfl (fun i h h' st k => (W₀ A hh).frame i h h' st k) hfp hC hCB hwr hJ W₁ hy hp hco hel (fun j c hc => ⟨c, flat_at ha hc, rfl⟩) hcont a.cps.size 0 s₀ { s with heap := h₂.push o, toks := tk } _ (Nat.sub_zero _) (Nat.zero_le _) hst₁₁ ((W₀ A hh).frame _ _ _ hst₂ fun b _ o e => kp3 b o e) (hn₂.at' fun o e => kp3 _ o e) (hsince₂.step fun b o _ _ _ e => kp3 b o e) (hkp₂.step fun b o _ _ _ e => kp3 b o e)
    rw [flat_drop ha]
    show Seg _ A _ _ _ s₀ _ ((compStart (gx elt iter x y px py qy scope pos) 1 (.ref h₂.objs.size) .none cenv).onRaise (fun e => do noteFrame e cenv; standAt theWindowsPlace)) _ _
    unfold compStart
    rw [Sem.onRaise_eq_wrap]
    show Seg _ A _ _ _ s₀ _ ((ask >>= _).wrap _ _ _ _) _ _
    refine seg_bind_wrap (wpAny_askSetting ?_)
    split
    · refine seg_again rfl (loop _ _ _ fun s₀' s' m' a1 a2 a3 a4 => ?_)
      exact seg_again rfl (ih (i + 1) s₀' s' m' (by omega) hlt a1 a2 a3 a4)
    · refine seg_bind_wrap (wpAny_rule ?_)
      show Seg _ A _ _ _ s₀ _ ((standAt qy >>= _).wrap _ _ _ _) _ _
      refine seg_bind_wrap (wpAny_standAt ?_)
      refine seg_bind_wrap ((W₁ _ hh2).self 0 _ _ _ hst₁₁ ?_)
      refine seg_again rfl (loop _ _ _ fun s₀' s' m' a1 a2 a3 a4 => ?_)
      exact seg_again rfl (ih (i + 1) s₀' s' m' (by omega) hlt a1 a2 a3 a4)
end
end Gx2
namespace Gx2
open PySem PySem.Spec PyProof.Rows L2
open Sem (wp)
structure MovedK (B : Nat) (wr : List Addr) (G : Array GenState → Array GenState → Prop) (s s' : Shared) : Prop where
  heap : ∀ b o, b < B → b ∉ wr → s.heap.get? b = some o → s'.heap.get? b = some o
  gens : G s.gens s'.gens
  drawn : s'.drawn = s.drawn
  os : s'.os = s.os
theorem MovedK.trans {B : Nat} {wr : List Addr} {G : Array GenState → Array GenState → Prop} {s s' s'' : Shared} (hg : ∀ a b c, G a b → G b c → G a c) (x : MovedK B wr G s s') (y : MovedK B wr G s' s'') : MovedK B wr G s s'' :=
  ⟨fun b o hB hb e => y.heap b o hB hb (x.heap b o hB hb e), hg _ _ _ x.gens y.gens, y.drawn.trans x.drawn, y.os.trans x.os⟩
structure WalksK (prog : Program) (w : World) (A : Around) (I : Addr) (B : Nat) (wr : List Addr) (G : Array GenState → Array GenState → Prop) (n : Nat) (P : Nat → Value → Prop) (St : Nat → Shared → Prop) : Prop where
  gtrans : ∀ a b c, G a b → G b c → G a c
  item : ∀ i (s : Shared) (Q : Option Value → Shared → Prop) (E : Value → Shared → Prop), i < n → St i s →
    (∀ v s', P i v → St (i + 1) s' → MovedK B wr G s s' → Q (some v) s') → wpAny (model prog w) A (pyNext (.ref I)) Q E s
  done : ∀ (s : Shared) (Q : Option Value → Shared → Prop) (E : Value → Shared → Prop), St n s → (∀ s', MovedK B wr G s s' → Q none s') → wpAny (model prog w) A (pyNext (.ref I)) Q E s
  self : ∀ i (s : Shared) (Q : Value → Shared → Prop) (E : Value → Shared → Prop), St i s → Q (.ref I) s → wpAny (model prog w) A (pyIter (.ref I)) Q E s
theorem WalksK.of_in1 {prog : Program} {w : World} {A : Around} {I : Addr} {B : Nat} {wr : List Addr} {G : Array GenState → Array GenState → Prop} {n : Nat} {P : Nat → Value → Prop} {St : Nat → Shared → Prop}
    (W : WalksK prog w A.in1 I B wr G n P St) : WalksK prog w A I B wr G n P St where
  gtrans := W.gtrans
  item := fun i s Q E hi st hQ => wpAny_of_in1 (W.item i s Q E hi st hQ)
  done := fun s Q E st hQ => wpAny_of_in1 (W.done s Q E st hQ)
  self := fun i s Q E st hQ => wpAny_of_in1 (W.self i s Q E st hQ)

section
variable {prog : Program} {w : World} {A : Around} {R : Result → Shared → Prop} {I : Addr} {B : Nat} {wr : List Addr} {G : Array GenState → Array GenState → Prop} {n : Nat} {P : Nat → Value → Prop} {St : Nat → Shared → Prop}
theorem codeAny_any_loopK (W : WalksK prog w A.in1 I B wr G n P St) (tr : Nat → Bool) (htr : TruthOf prog w A.in1 P tr) : ∀ (k i : Nat) (s : Shared), n - i = k → i ≤ n → St i s →
    (∀ s', MovedK B wr G s s' → R (.ok (.ret (.bool (((List.range n).drop i).any tr)))) s') → codeAny (model prog w) A (.builtin "any.loop" ⟨[.ref I], []⟩) R s := by
  intro k
  induction k with
  | zero =>
    intro i s hk hi hst hR
    have hin : i = n := by omega
    subst hin
    refine codeAny_builtin PySem.F.entry_any_loop ?_
    rw [Around.under_plainId PySem.F.plain_any_loop _]
    show wpAny _ A.in1 (pyNext (.ref I) >>= _) _ _ s
    refine wpAny_bind (W.done s _ _ hst fun s' hm => ?_)
    refine wpAny_bind (wpAny_rule (wpAny_pure ?_))
    have := hR s' hm
    rw [List.drop_of_length_le (by simp)] at this
    exact this
  | succ k ih =>
    intro i s hk hi hst hR
    have hlt : i < n := by omega
    have hd : (List.range n).drop i = i :: (List.range n).drop (i + 1) := by
      rw [List.drop_eq_getElem_cons (by simpa using hlt)]; simp
    refine codeAny_builtin PySem.F.entry_any_loop ?_
    rw [Around.under_plainId PySem.F.plain_any_loop _]
    show wpAny _ A.in1 (pyNext (.ref I) >>= _) _ _ s
    refine wpAny_bind (W.item i s _ _ hlt hst fun v s' hP hst' hm => ?_)
    refine wpAny_bind (wpAny_holding (htr i v _ _ _ hP ?_))
    refine wpAny_bind (wpAny_letGo ?_)
    cases hb : tr i with
    | false =>
      simp only [Bool.false_eq_true, if_false]
      refine wpAny_pure ⟨plainId_quiet PySem.F.plain_any_loop _, ih (i + 1) _ (by omega) hlt hst' fun s'' hm' => ?_⟩
      have := hR s'' (hm.trans W.gtrans hm')
      rw [hd, List.any_cons, hb, Bool.false_or] at this
      exact this
    | true =>
      simp only [if_true]
      refine wpAny_bind (wpAny_rule (wpAny_pure ?_))
      have := hR s' hm
      rw [hd, List.any_cons, hb, Bool.true_or] at this
      exact this
theorem call_any_walkK {x : Value} {Q : Value → Shared → Prop} {E : Value → Shared → Prop} {s : Shared}
    (h : wpAny (model prog w) A.in1 (pyIter x) (fun it s₂ => ∃ I B wr G n P St tr, it = .ref I ∧ WalksK prog w A.in1 I B wr G n P St ∧ St 0 s₂ ∧ TruthOf prog w A.in1 P tr ∧
      ∀ s', MovedK B wr G s₂ s' → Q (.bool ((List.range n).any tr)) s') E s) :
    wpAny (model prog w) A (call (.builtin "any") [x]) Q E s := by
  refine call_function_tree PySem.F.kind_any PySem.F.plain_any PySem.F.entry_any (PySem.F.args_any1 _) ?_
  unfold Builtin.«any»
  refine wpAny_bind (m := oneArg "any" _) (wpAny_pure ?_)
  refine wpAny_bind (wpAny_mono h (fun it s₂ h₂ => ?_) fun _ _ e => e)
  obtain ⟨I, B, wr, G, n, P, St, tr, rfl, W, hst, htr, hQ⟩ := h₂
  exact wpAny_pure ⟨plainId_quiet PySem.F.plain_any_loop _, codeAny_any_loopK W tr htr n 0 s₂ rfl (Nat.zero_le _) hst fun s' hm => by simpa using hQ s' hm⟩
end

def GenAtK (prog : Program) (w : World) (A : Around) (a : Addr) (g : Nat) (C : Addr) (B : Nat) (wr : List Addr) (N : Nat) (F : Nat → Value → Prop) (j : Nat) (s : Shared) : Prop :=
  s.heap.IsGen a g ∧ s.heap.NoLimit ∧ ∃ gs, s.gens[g]? = some gs ∧ ∀ s'' : Shared, (∀ b o, s.heap.get? b = some o → s''.heap.get? b = some o) →
    gs.Goes (model prog w) A.in1 (gend B C wr) (proto B C wr N F) (N - j) (.send .none) s''

section
variable {prog : Program} {w : World} {A : Around}
theorem WalksK.gen (hh : A.handled = none) (a : Addr) (g : Nat) (C : Addr) (B : Nat) (wr : List Addr) (N : Nat) (F : Nat → Value → Prop) (haC : a ≠ C) (haB : a < B) (haw : a ∉ wr) (hroom : A.depth < recursionLimit)
    (hcs : cStatics < B) (hcC : cStatics ≠ C) (hcw : cStatics ∉ wr) :
    WalksK prog w A a B (C :: wr) (GenOnlyQ g) N F (GenAtK prog w A a g C B wr N F) where
  gtrans := fun _ _ _ x y => x.trans y
  item := fun j s Q E hj st hQ => by
    obtain ⟨hg, hl, gs, hgs, hgo⟩ := st
    obtain ⟨m, hm⟩ : ∃ m, N - j = m + 1 := ⟨N - j - 1, by omega⟩
    rw [hm] at hgo
    refine wpAny_pyNext_genexpQ (P := fun n s₀ s₁ => n = 0 ∧ Since B C wr s₀ s₁) hh hl hroom hg hgs (hgo _ fun _ _ e => e) (fun v s₁ gs' hb hv => ?_) (fun s₁ hp h' hk => ?_)
    · obtain ⟨hF, ⟨h₁, tk₁, rfl, hk₁⟩, hkap⟩ := hv
      have hidx : N - 1 - (m + 1 - 1) = j := by omega
      rw [hidx] at hF
      refine hQ v _ hF ⟨let ⟨o, nm, qn, ho, r⟩ := hg; ⟨o, nm, qn, hk₁ a o haB haC haw ho, r⟩, (let ⟨mc, hns, hnn⟩ := hl; ⟨mc, hns.at' fun o e => hk₁ cStatics o hcs hcC hcw e, hnn⟩), gs', setGen_self (gs := .running) (setGen_self hgs), fun s'' hal => ?_⟩
        ⟨fun b o hB hb e => hk₁ b o hB (fun h => hb (h ▸ List.mem_cons_self ..)) (fun h => hb (List.mem_cons_of_mem _ h)) e, GenOnlyQ.of ((GenOnly.setGen s g .running).trans (GenOnly.setGen _ g gs')) (setGen_self (gs := .running) (setGen_self hgs)) hb, rfl, rfl⟩
      have e : N - (j + 1) = m := by omega
      rw [e]
      exact hkap s'' hal
    · exact absurd hp.1 (Nat.succ_ne_zero m)
  done := fun s Q E st hQ => by
    obtain ⟨hg, hl, gs, hgs, hgo⟩ := st
    rw [Nat.sub_self] at hgo
    refine wpAny_pyNext_genexpQ (P := fun n s₀ s₁ => n = 0 ∧ Since B C wr s₀ s₁) hh hl hroom hg hgs (hgo _ fun _ _ e => e) (fun v s₁ gs' hb hv => ?_) (fun s₁ hp h' hk => ?_)
    · obtain ⟨_, _, hkap⟩ := hv
      exact False.elim (hkap s₁ fun _ _ e => e)
    · obtain ⟨_, h₁, tk₁, rfl, hk₁⟩ := hp
      exact hQ _ ⟨fun b o hB hb e => hk b o (hk₁ b o hB (fun h => hb (h ▸ List.mem_cons_self ..)) (fun h => hb (List.mem_cons_of_mem _ h)) e), GenOnlyQ.of ((GenOnly.setGen s g .running).trans (GenOnly.setGen _ g .finished)) (setGen_self (gs := .running) (setGen_self hgs)) rfl, rfl, rfl⟩
  self := fun _ _ _ _ st hQ => wpAny_pyIter_gen st.1 hQ

theorem seg_start {elt iter : Expr} {x y : Str} {px py qy : Pos} {scope : Scope} {pos : Pos} {cenv : Env} {B : Nat} {wr fp : List Addr} {St₀ : Nat → Heap → Prop} {href : Heap} {pb : Nat → Bool} {ws : List Str} {I : Addr} {P : Nat → Value → Prop} {a₀ : Addr}
    (hh : A.handled = none) (hB : B = a₀ + 1) (ha₀ : ∃ o, href.get? a₀ = some o) (hal : a₀ ≠ cenv.locals) (haw : a₀ ∉ wr)
    (hfp : ∀ b ∈ fp, b < B) (hC : cenv.locals ∉ fp) (hCB : cenv.locals < B)
    (W₀ : ∀ A' : Around, A'.handled = none → Walks prog w A' I fp wr ws.length P St₀) (hP : ∀ i v, P i v → ∃ a t, ws[i]? = some a ∧ v = .str a t)
    (hx : cenv.kindOf x = some .local) (hy : cenv.kindOf y = some .local) (hkf : cenv.scope.kind = .function) (hp : (cenv.scope.kind == .class || (cenv.scope.kind == .module && cenv.locals != cenv.globals)) = false) (hco : cenv.scope.isCoroutine = false)
    (hel : ∀ (A' : Around) (E' : Value → Shared → Prop) (c : Nat) (u : Tok) (s₂ : Shared) (m₂ : Str → Option Value), A'.handled = none → s₂.heap.Ns cenv.locals m₂ → m₂ y = some (.str ⟨#[c]⟩ u) → Kept B cenv.locals wr href s₂.heap →
      wpAny (model prog w) A' (eval elt cenv) (fun v s₃ => v = .bool (pb c) ∧ Keeps s₂ s₃) E' s₂)
    (hdx : (x == ("__debug__" : Str)) = false) (s₀ s : Shared) (m : Str → Option Value) (hst : St₀ 0 s.heap) (hn : s.heap.Ns cenv.locals m) (hsince : Since B cenv.locals wr s₀ s) (hkp : Kept B cenv.locals wr href s.heap) :
      Seg (model prog w) A (gend B cenv.locals wr) (proto B cenv.locals wr (flat ws).length (fun n v => ∃ c, (flat ws)[n]? = some c ∧ v = .bool (pb c))) (flat ws).length s₀ (.compStart (gx elt iter x y px py qy scope pos) 0 (.ref I) .none cenv)
        ((model prog w).den (.compStart (gx elt iter x y px py qy scope pos) 0 (.ref I) .none cenv)) [] s := by
  have hh' : (A.over (.compStart (gx elt iter x y px py qy scope pos) 0 (.ref I) .none cenv) []).handled = none := hh
  have loop := seg_outer (iter := iter) (px := px) (py := py) (qy := qy) (scope := scope) (pos := pos) hh hB ha₀ hal haw hfp hC hCB W₀ hP hx hy hkf hp hco hel hdx ws.length 0 s₀ s m (Nat.sub_zero _) (Nat.zero_le _) hst hn hsince hkp
  rw [List.drop_zero] at loop
  show Seg _ A _ _ _ s₀ _ ((compStart (gx elt iter x y px py qy scope pos) 0 (.ref I) .none cenv).onRaise (leaving cenv)) [] s
  unfold compStart
  rw [Sem.onRaise_eq_wrap]
  show Seg _ A _ _ _ s₀ _ ((ask >>= _).wrap _ _ _ _) [] s
  refine seg_bind_wrap (wpAny_askSetting ?_)
  split
  · exact seg_again rfl loop
  · refine seg_bind_wrap (wpAny_rule ?_)
    show Seg _ A _ _ _ s₀ _ ((standAt iter.pos >>= _).wrap _ _ _ _) [] s
    exact seg_bind_wrap (wpAny_standAt (seg_bind_wrap ((W₀ _ hh').self 0 s _ _ hst (seg_again rfl loop))))

theorem make2 {M : Model} {E : Value → Shared → Prop} {s : Shared} {env : Env} {elt target iter : Expr} {g2 : Comprehension} {scope : Scope} {cl : List (Str × Addr)} {pos : Pos} {Q : Value → Shared → Prop}
    (hco : scope.isCoroutine = false) (hclos : closureFor scope env = pure cl) (hcell : ∀ y ∈ scope.names, y.2 ≠ .cell) (h0 : scope.names.lookup (".0" : Str) = some NameKind.local) (hkind : scope.kind = .function)
    (hroom : A.depth < recursionLimit)
    (h : wpAny M A (eval iter env) (fun xv s₁ => wpAny M A (pyIter xv) (fun it s₂ => s₂.heap.NoLimit ∧
      wpAny M A (genexprCode env pos (env.qual ++ "<genexpr>") scope) (fun code s₃ => wpAny M A (builtinsFor env.globals env.builtins) (fun bi s₄ =>
        ∀ h', h'.Ns s₄.heap.objs.size (fun y => if y = ".0" then some it else none) → Heap.SameBut s₄.heap.objs.size (s₄.heap.push { cls := .type "frame", data := .dict #[] }) h' →
          Q (.ref h'.objs.size) { s₄ with
            gens := s₄.gens.push (.fresh (.compStart (.GeneratorExp elt [⟨target, iter, [], 0⟩, g2] scope pos) 0 it .none (genEnv scope cl s₄.heap.objs.size code bi env))),
            toks := s₄.toks + 1 + 1 + 1,
            heap := h'.push { cls := .type "generator", data := .fields #[.int s₄.gens.size 0, .str "<genexpr>" (s₄.toks + 1), .str (env.qual ++ "<genexpr>") (s₄.toks + 1 + 1)] } }) E s₃) E s₂) E s₁) E s)
    (hs : ∀ x, genFold iter env x = pure x) :
    wpAny M A (eval (.GeneratorExp elt [⟨target, iter, [], 0⟩, g2] scope pos) env) Q E s := by
  rw [eval_gen2 _ _ _ _ _ _ _ hco, hclos]
  refine wpAny_bind (wpAny_mono h (fun xv s₁ h₁ => ?_) fun _ _ e => e)
  refine wpAny_bind (wpAny_standAt ?_)
  refine wpAny_bind (wpAny_of_eq (hs xv) ?_)
  refine wpAny_bind (wpAny_holding (wpAny_mono h₁ (fun it s₂ h₂ => ?_) fun _ _ e => e))
  refine wpAny_bind (wpAny_enterFrame h₂.1 hroom ?_)
  refine wpAny_bind (wpAny_pure ?_)
  refine wpAny_bind (wpAny_mono h₂.2 (fun code s₃ h₃ => ?_) fun _ _ e => e)
  refine wpAny_bind (wpAny_mono h₃ (fun bi s₄ h₄ => ?_) fun _ _ e => e)
  have hbinds : ∀ y ∈ ([((".0" : Str), it)] : List (Str × Value)), scope.names.lookup y.1 = some NameKind.local := by
    intro y hy
    rcases List.mem_cons.mp hy with rfl | hy
    · exact h0
    · cases hy
  refine wpAny_bind (wpAny_newFunctionEnv hcell hbinds (fun h' hn' hs' => ?_) hkind)
  have e : (fun y : Str => ([((".0" : Str), it)] : List (Str × Value)).reverse.lookup y) = fun y : Str => if y = (".0" : Str) then some it else none := by
    funext y
    by_cases hy : y = ".0"
    · subst hy; simp
    · have : (y == (".0" : Str)) = false := by simpa using hy
      simp [List.lookup, this, hy]
  rw [e] at hn'
  simp only [newGenerator, newFields]
  refine wpAny_bind (wpAny_newGen (wpAny_bind (wpAny_mkText (wpAny_bind (wpAny_mkText (wpAny_newObj_type ?_ (by size_fits)))))))
  exact h₄ h' hn' hs'
end
end Gx2
namespace Gx2
open PySem PySem.Spec PyProof.Rows L2 GxR
section
variable {X : Cx} {pins : List (Addr × Obj)} {σ : L2.St} {H : Hp} {s : Shared}
/-- the generator's frame -/
abbrev gE (X : Cx) (scope : Scope) (C : Addr) (code : Value) : Env := genEnv scope (cloFrom X.env.cells scope.names []) C code builtinsNs X.env
/-- the element of a two-clause one: a test of the sign -/
def Elt2 (X : Cx) (P : Addr) (scope : Scope) (y : Str) (elt : Expr) (pb : Nat → Bool) : Prop :=
  ∀ (pins : List (Addr × Obj)) (σ : L2.St) (H1 : Hp) (s1 : Shared), Inv X pins σ H1 s1 → ∀ (C : Addr) (code : Value) (A' : Around) (E' : Value → Shared → Prop) (c : Nat) (u : Tok) (s₂ : Shared) (m₂ : Str → Option Value), A'.handled = none →
    (∀ b o, b ≠ P → s1.heap.get? b = some o → s₂.heap.get? b = some o) → s₂.heap.Ns C m₂ → m₂ y = some (.str ⟨#[c]⟩ u) →
    wpAny (model X.prog X.w) A' (eval elt (gE X scope C code)) (fun v s₃ => v = .bool (pb c) ∧ Keeps s₂ s₃) E' s₂
def Ready2 (X : Cx) (pins : List (Addr × Obj)) (σ : L2.St) (H1 : Hp) (P : Addr) (ws : List Str) (pb : Nat → Bool) (g : Addr) (s5 : Shared) : Prop :=
  ∃ (B : Nat) (wr : List Addr) (G : Array GenState → Array GenState → Prop) (F : Nat → Value → Prop) (St : Nat → Shared → Prop),
    WalksK X.prog X.w X.A.in1 g B wr G (flat ws).length F St ∧ St 0 s5 ∧ TruthOf X.prog X.w X.A.in1 F (trF pb (flat ws)) ∧
    ∀ s', MovedK B wr G s5 s' → ∃ H2, Tabbed P H1 H2 ∧ Inv X pins σ H2 s'

theorem gen2 {c P : Addr} {elt iter : Expr} {x y : Str} {px py qy gpos : Pos} {scope : Scope} {pb : Nat → Bool} {te : TE} {k : Nat} {Q' : Value → Shared → Prop} {R : List Str → Hp → Prop}
    (hr : Room k X.A) (TB : TabB X.base X.mg c P) (hcode : X.env.code = .ref c) (S : GenS X.env scope x) (hyl : scope.names.lookup y = some .local) (hdx : (x == ("__debug__" : Str)) = false) (hi : PE X iter te) (hel : Elt2 X P scope y elt pb)
    (hs : ∀ v, genFold iter X.env v = pure v) (I : Inv X pins σ H s) (h : te σ H fun v H1 => ∃ (yl : Addr) (ws : List Str), v = .ref yl ∧ SqL X.K H1 yl (ws.map V.str) ∧ TabG H1 P ∧ R ws H1)
    (hQ : ∀ ws H1 g s5, R ws H1 → Ready2 X pins σ H1 P ws pb g s5 → Q' (.ref g) s5) :
    wpAny (model X.prog X.w) X.A (eval (gx elt iter x y px py qy scope gpos) X.env) Q' X.xe s := by
  have hd := hr.hd
  refine make2 S.co (closure_ok S.free) S.cell S.dot S.kind (by have := hr.dp; omega) ?_ hs
  refine thn (hi.run pins s σ H _ I h) fun xv s1 ⟨v, H1, I1, r1, q1⟩ => ?_
  obtain ⟨yl, ws, rfl, hyl2, ⟨ps, hP, ht⟩, q1⟩ := q1
  obtain rfl : xv = Value.ref yl := r1
  obtain ⟨its, rv, hl, hz⟩ := I1.list hyl2
  have hIL := hl.isList
  have hlen : its.length = ws.length := by rw [← rv.length, List.length_map]
  have hat : ∀ (i : Nat) (v : Value), its.toArray[i]? = some v → ∃ (a : Str) (u : Tok), ws[i]? = some a ∧ v = .str a u := fun i v hv => by
    have hv2 : its[i]? = some v := by simpa using hv
    have hi2 : i < its.length := (List.getElem?_eq_some_iff.mp hv2).1
    obtain ⟨a, ha⟩ : ∃ a, ws[i]? = some a := ⟨ws[i]'(by omega), List.getElem?_eq_getElem _⟩
    have hb : (ws.map V.str)[i]? = some (V.str a) := by rw [List.getElem?_map, ha] <;> rfl
    obtain ⟨u, hu, ru⟩ := rv.get hb
    rw [hv2] at hu
    cases hu
    obtain ⟨t, e⟩ := (show ∃ t, v = Value.str a t from ru)
    exact ⟨a, t, ha, e⟩
  refine wpAny_pyIter_list hIL ?_
  generalize ho : ({ cls := .type "list_iterator", data := .fields #[.ref yl, .int 0 0] } : Obj) = o
  have hitr : (s1.heap.push o).IsListIter s1.heap.objs.size yl 0 := by
    subst ho
    exact ⟨_, Heap.get?_push_size _ rfl, rfl, rfl⟩
  have hylt : yl < s1.heap.objs.size := by
    obtain ⟨_, e, _⟩ := _root_.id hIL
    exact Heap.lt_size e
  have hPs : s1.heap.get? P = some { cls := .none, data := .fields ps } := I1.hok P _ hP
  have hPlt : P < s1.heap.objs.size := Heap.lt_size hPs
  have hP2 : (s1.heap.push o).get? P = some { cls := .none, data := .fields ps } := Heap.get?_push_of_some _ hPs
  have cd : PySem.W.CodeHd (s1.heap.push o) c P := TB.code.keeps fun b u e => Heap.get?_push_of_some _ (I1.bk b u e)
  have lim2 : (s1.heap.push o).NoLimit := I1.nolimit.push o
  have cont : ∀ (code : Value) (h3 : Heap) (tk : Nat) (ps' : Array Value), Heap.ExtBut P (s1.heap.push o) h3 → (s1.heap.push o).objs.size ≤ h3.objs.size → h3.get? P = some { cls := .none, data := .fields ps' } → (∃ more, ps' = ps ++ more) → TriplesOk ps'.toList →
      wpAny (model X.prog X.w) X.A (builtinsFor X.env.globals X.env.builtins) (fun bi s₄ =>
        ∀ h', h'.Ns s₄.heap.objs.size (fun y => if y = ".0" then some (.ref s1.heap.objs.size) else none) → Heap.SameBut s₄.heap.objs.size (s₄.heap.push { cls := .type "frame", data := .dict #[] }) h' →
          Q' (.ref h'.objs.size) { s₄ with
            gens := s₄.gens.push (.fresh (.compStart (gx elt iter x y px py qy scope gpos) 0 (.ref s1.heap.objs.size) .none (genEnv scope (cloFrom X.env.cells scope.names []) s₄.heap.objs.size code bi X.env))),
            toks := s₄.toks + 1 + 1 + 1,
            heap := h'.push { cls := .type "generator", data := .fields #[.int s₄.gens.size 0, .str "<genexpr>" (s₄.toks + 1), .str (X.env.qual ++ "<genexpr>") (s₄.toks + 1 + 1)] } }) X.xe { s1 with heap := h3, toks := tk } := by
    intro code h3 tk ps' hx hsz hP3 hmore ht3
    obtain ⟨bm, ob, e1, e2, e3, e4, e5, e6, e7, e8⟩ := TB.bm
    have hcP : cStatics ≠ P := fun e => by
      obtain ⟨_, hns, _⟩ := I1.nolimit
      obtain ⟨o', es, ep, ho, hd, _⟩ := hns
      rw [e, hPs] at ho
      cases ho
      cases hd
    have hcl : cStatics < s1.heap.objs.size := let ⟨_, hns, _⟩ := I1.nolimit; hns.lt
    have sz2 : (s1.heap.push o).objs.size = s1.heap.objs.size + 1 := Heap.size_push ..
    have keep3 : ∀ b u, b ≠ P → s1.heap.get? b = some u → h3.get? b = some u := fun b u hb e => hx b u hb (Heap.get?_push_of_some _ e)
    refine wpAny_builtinsFor (m := X.mg) (by rw [I1.ok.glob]; exact ((I1.mod.glob.keeps I1.bk).push o).extBut hx TB.gP) e1 e2 (keep3 _ _ e4 (I1.bk _ _ e5)) e6 e7 e8 ?_
    have hylP : yl ≠ P := fun z => by
      obtain ⟨_, e, hc1, _, hd1⟩ := _root_.id hIL
      rw [z, hPs] at e
      cases e
      cases hd1
    have hIL3 : h3.IsList yl its.toArray := by
      obtain ⟨ob, e, r⟩ := _root_.id hIL
      exact ⟨ob, keep3 _ _ hylP e, r⟩
    have hItr3 : h3.IsListIter s1.heap.objs.size yl 0 := hitr.at fun u e => hx _ u (Nat.ne_of_gt hPlt) e
    have lim3 : h3.NoLimit := lim2.extBut hx hcP
    intro h' hn' hs'
    have hszc : h'.objs.size = h3.objs.size + 1 := by
      have q := hs'.1
      rw [Heap.size_push] at q
      exact q
    have keep' : ∀ b u, h3.get? b = some u → h'.get? b = some u := fun b u e => hs'.extBut b u (Nat.ne_of_lt (Heap.lt_size e)) (Heap.get?_push_of_some _ e)
    generalize hgo : ({ cls := .type "generator", data := .fields #[.int s1.gens.size 0, .str "<genexpr>" (tk + 1), .str (X.env.qual ++ "<genexpr>") (tk + 1 + 1)] } : Obj) = go
    have keep5 : ∀ b u, h3.get? b = some u → (h'.push go).get? b = some u := fun b u e => Heap.get?_push_of_some _ (keep' b u e)
    have haC : h'.objs.size ≠ h3.objs.size := by rw [hszc]; exact Nat.succ_ne_self _
    have sz1 : s1.heap.objs.size < h3.objs.size := by omega
    have nI : s1.heap.objs.size ≠ h3.objs.size := Nat.ne_of_lt sz1
    have haI : h'.objs.size ∉ [s1.heap.objs.size] := fun hm => by
      have z := List.mem_singleton.mp hm
      omega
    have hsI : cStatics ∉ [s1.heap.objs.size] := fun hm => Nat.ne_of_lt hcl (List.mem_singleton.mp hm)
    have hcl3 : cStatics < h3.objs.size := Nat.lt_trans hcl sz1
    have oldB : ∀ b u, s1.heap.get? b = some u → b < h'.objs.size + 1 ∧ b ≠ h3.objs.size ∧ b ∉ [s1.heap.objs.size] := fun b u e => by
      have hl := Heap.lt_size e
      refine ⟨?_, ?_, fun hm => ?_⟩
      · rw [hszc]
        exact Nat.lt_succ_of_lt (Nat.lt_succ_of_lt (Nat.lt_trans hl sz1))
      · exact Nat.ne_of_lt (Nat.lt_trans hl sz1)
      · exact Nat.ne_of_lt hl (List.mem_singleton.mp hm)
    have hgg : (h'.push go).IsGen h'.objs.size s1.gens.size := by
      subst hgo
      exact ⟨_, _, _, Heap.get?_push_size _ rfl, rfl, rfl, rfl⟩
    have hns5 : (h'.push go).Ns h3.objs.size (fun y => if y = ".0" then some (.ref s1.heap.objs.size) else none) := hn'.push _
    refine hQ ws H1 _ _ q1 ⟨h'.objs.size + 1, _, _, _, _, WalksK.gen (A := X.A.in1) hd h'.objs.size s1.gens.size h3.objs.size (h'.objs.size + 1) [s1.heap.objs.size] (flat ws).length (fun n v => ∃ c, (flat ws)[n]? = some c ∧ v = .bool (pb c)) haC (Nat.lt_succ_self _) haI (by have := hr.dp; show X.A.depth < recursionLimit; omega) (by rw [hszc]; exact Nat.lt_succ_of_lt (Nat.lt_succ_of_lt hcl3)) (Nat.ne_of_lt hcl3) hsI, ?_, ?_, fun s' hm => ?_⟩
    · refine ⟨hgg, lim3.keeps keep5, _, Array.getElem?_push_size .., fun s'' hal => ⟨rfl, ?_⟩⟩
      rw [Nat.sub_zero]
      refine seg_start (A := X.A.in1.in1) (cenv := gE X scope h3.objs.size code) (fp := [s1.heap.objs.size, yl]) (href := h'.push go) (St₀ := fun i h => h.IsListIter s1.heap.objs.size yl i ∧ h.IsList yl its.toArray) (P := fun i v => its.toArray[i]? = some v) (a₀ := h'.objs.size)
        hd rfl (let ⟨o, _, _, e, _⟩ := hgg; ⟨o, e⟩) haC haI ?_ ?_ ?_ (fun A' hA => ?_) (fun i v hv => ?_) S.loc hyl S.kind (by show ((scope.kind == .class) || (scope.kind == .module && _)) = false; rw [S.kind]; rfl) S.co ?_ hdx s'' s'' _ ?_ (hns5.at' fun o e => hal _ o e) (Since.refl _ _ _ _) (fun b o _ _ _ e => hal b o e)
      · intro b hb
        rcases List.mem_cons.mp hb with z | z
        · rw [z, hszc]
          exact Nat.lt_succ_of_lt (Nat.lt_succ_of_lt sz1)
        · rw [List.mem_singleton.mp z, hszc]
          exact Nat.lt_succ_of_lt (Nat.lt_succ_of_lt (Nat.lt_trans hylt sz1))
      · intro hm
        rcases List.mem_cons.mp hm with z | z
        · exact nI z.symm
        · exact Nat.ne_of_gt (Nat.lt_trans hylt sz1) (List.mem_singleton.mp z)
      · show h3.objs.size < h'.objs.size + 1
        rw [hszc]
        exact Nat.lt_succ_of_lt (Nat.lt_succ_self _)
      · have W := Walks.list (prog := X.prog) (w := X.w) hA s1.heap.objs.size yl (Nat.ne_of_lt hylt) its.toArray
        have hn5 : its.toArray.size = ws.length := by rw [List.size_toArray, hlen]
        rw [hn5] at W
        exact W
      · obtain ⟨a, u, ha, e⟩ := hat i v hv
        exact ⟨a, u, ha, e⟩
      · intro A' E' c u s₂ m₂ hA hn2 hm2 hk2
        refine hel pins σ H1 s1 I1 h3.objs.size code A' E' c u s₂ m₂ hA (fun b o hbP e => ?_) hn2 hm2
        obtain ⟨z1, z2, z3⟩ := oldB b o e
        exact hk2 b o z1 z2 z3 (keep5 b o (keep3 b o hbP e))
      · exact ⟨hItr3.at fun u e => hal _ u (keep5 _ u e), let ⟨ob, e, r⟩ := hIL3; ⟨ob, hal _ ob (keep5 _ ob e), r⟩⟩
    · intro j v sj Qj Ej hy hQj
      obtain ⟨cc, hcc, rfl⟩ := hy
      have hQ2 : Qj (trF pb (flat ws) j) sj := hQj
      rw [trF_some hcc] at hQ2
      exact wpAny_truthy_bool hQ2
    · obtain ⟨more, em⟩ := hmore
      have nw : ∀ b u, s1.heap.get? b = some u → b ∉ h3.objs.size :: [s1.heap.objs.size] := fun b u e hb => by
        obtain ⟨_, z2, z3⟩ := oldB b u e
        rcases List.mem_cons.mp hb with z | z
        · exact z2 z
        · exact z3 z
      have hgens : AllBare s'.gens := (I1.bare.push (g := .fresh (.compStart (gx elt iter x y px py qy scope gpos) 0 (.ref s1.heap.objs.size) .none (gE X scope h3.objs.size code))) rfl).moved hm.gens
      have J := inv_tab (more := more) (h' := s'.heap) (g' := s'.gens) (d' := s'.drawn) (t' := s'.toks) I1 hP (fun b u hb e => hm.heap b u (oldB b u e).1 (nw b u e) (keep5 b u (keep3 b u hb e)))
        (by rw [← em]; exact hm.heap P _ (oldB P _ hPs).1 (nw P _ hPs) (keep5 P _ hP3)) hgens
      rw [sh_eta s1 s' hm.os] at J
      exact ⟨upd H1 P (.tbl (ps ++ more)), ⟨⟨ps ++ more, upd_same, by rw [← em]; exact ht3⟩, fun b hb => upd_ne hb⟩, J⟩
  refine ⟨lim2, ?_⟩
  cases hf : codeAmong gpos ps.toList with
  | none =>
    refine wpAny_genexprCodeX hcode (cd.code hP2 ht) (cd.tab hP2) hf fun c' h' tk hx hge hlt hco' _ htab' _ => ?_
    obtain ⟨o1, vs, f1, tf, fl, tg, inF, tx, tt, op, _, _, _, _, _, _, _, _, _, htr, _⟩ := hco'
    exact cont _ h' tk _ hx (Nat.le_trans hge (Nat.le_of_lt hlt)) htab'.2 ⟨_, rfl⟩ htr
  | some cv =>
    refine wpAny_genexprCode_hit hcode (cd.code hP2 ht) hf ?_
    exact cont cv (s1.heap.push o) s1.toks ps (Heap.ExtBut.refl _ _) (Nat.le_refl _) hP2 ⟨#[], by simp⟩ ht

/-- any(test of y for x in e for y in x), e a list of texts -/
def tAny2 (K : PySem.W.Frag) (P : Addr) (pb : Nat → Bool) (te : TE) : TE := fun σ H Q => te σ H fun v H1 => ∃ (yl : Addr) (ws : List Str), v = .ref yl ∧ SqL K H1 yl (ws.map V.str) ∧ TabG H1 P ∧ ∀ H2, Tabbed P H1 H2 → Q (.bl ((flat ws).any pb)) H2
theorem pe_any2 {c P : Addr} {elt iter : Expr} {x y : Str} {px py qy p pos gpos : Pos} {scope : Scope} {pb : Nat → Bool} {te : TE} {k : Nat}
    (hr : Room k X.A) (hg : Gl X "any") (hm : X.mg "any" = none) (TB : TabB X.base X.mg c P) (hcode : X.env.code = .ref c) (S : GenS X.env scope x) (hyl : scope.names.lookup y = some .local) (hdx : (x == ("__debug__" : Str)) = false) (hi : PE X iter te) (hel : Elt2 X P scope y elt pb)
    (hs : ∀ v, genFold iter X.env v = pure v)
    (he : starEach [gx elt iter x y px py qy scope gpos] X.env = (false, eval (gx elt iter x y px py qy scope gpos) X.env) :: starEach [] X.env := by rfl) :
    PE X (.Call (.Name "any" p) [gx elt iter x y px py qy scope gpos] [] pos) (tAny2 X.K P pb te) := by
  refine ⟨fun pins s σ H Q I h => ?_⟩
  refine wpAny_Call_Name_kw (ld_blt I hg hm boot_any ?_)
  refine PyProof.Rows.callWith_builtin1 ?_ he (by rfl)
  rw [he]
  show wpAny _ _ (spliced ((false, eval (gx elt iter x y px py qy scope gpos) X.env) :: backTo pos (starEach [] X.env))) _ _ s
  refine Calls.spliced_cons (gen2 (R := fun ws H1 => ∀ H2, Tabbed P H1 H2 → Q (.bl ((flat ws).any pb)) H2) hr TB hcode S hyl hdx hi hel hs I h fun ws H1 g s5 hR hG => ?_)
  obtain ⟨B, wr, G, F, St, W, hst, htr, hI⟩ := hG
  refine Calls.spliced_nil ?_
  refine call_any_walkK (W.self 0 _ _ _ hst ⟨g, B, wr, G, _, F, St, _, rfl, W, hst, htr, fun s' hmv => ?_⟩)
  obtain ⟨H2, hT, J⟩ := hI s' hmv
  refine ⟨.bl _, H2, J, rfl, ?_⟩
  rw [any_trF]
  exact hR H2 hT
end
end Gx2
namespace Gx2
open PySem PySem.Spec PyProof.Rows L2 GxR
/-- the test at place j -/
def trS (pb : Str → Bool) (l : List Str) (j : Nat) : Bool := match l[j]? with
  | some b => pb b
  | none => false
theorem trS_some {pb : Str → Bool} {l : List Str} {j : Nat} {b : Str} (h : l[j]? = some b) : trS pb l j = pb b := by
  unfold trS
  rw [h]
theorem any_trS (l : List Str) (pb : Str → Bool) : (List.range l.length).any (trS pb l) = l.any pb := by
  rw [Bool.eq_iff_iff, List.any_eq_true, List.any_eq_true]
  constructor
  · intro ⟨j, hj, h⟩
    have hj' := List.mem_range.mp hj
    rw [trS_some (List.getElem?_eq_getElem hj')] at h
    exact ⟨l[j], List.getElem_mem hj', h⟩
  · intro ⟨b, hb, h⟩
    obtain ⟨j, hj, e⟩ := List.getElem_of_mem hb
    refine ⟨j, List.mem_range.mpr hj, ?_⟩
    rw [trS_some (List.getElem?_eq_getElem hj), e]
    exact h
section
variable {X : Cx} {pins : List (Addr × Obj)} {σ : L2.St} {H : Hp} {s : Shared}
def Elt1 (X : Cx) (P : Addr) (scope : Scope) (x : Str) (elt : Expr) (Ex : L2.St → Addr → List Str → Prop) (pb : List Str → Str → Bool) : Prop :=
  ∀ (pins : List (Addr × Obj)) (σ : L2.St) (H1 : Hp) (s1 : Shared) (yl : Addr) (ws : List Str), Inv X pins σ H1 s1 → SqL X.K H1 yl (ws.map V.str) → H1 P ≠ none → (∃ ps, H1 P = some (.tbl ps)) → Ex σ yl ws → ∀ (C : Addr) (code : Value) (A' : Around) (E' : Value → Shared → Prop) (a : Str) (t : Tok) (s₂ : Shared) (m₂ : Str → Option Value), A'.handled = none →
    (∀ b o, b ≠ P → s1.heap.get? b = some o → s₂.heap.get? b = some o) → a ∈ ws → s₂.heap.Ns C m₂ → m₂ x = some (.str a t) →
    wpAny (model X.prog X.w) A' (eval elt (gE X scope C code)) (fun v s₃ => v = .bool (pb ws a) ∧ Keeps s₂ s₃) E' s₂
def Ready1 (X : Cx) (pins : List (Addr × Obj)) (σ : L2.St) (H1 : Hp) (P : Addr) (ws : List Str) (pb : Str → Bool) (g : Addr) (s5 : Shared) : Prop :=
  ∃ (fp wr : List Addr) (G : Array GenState → Array GenState → Prop) (F : Nat → Value → Prop) (St : Nat → Shared → Prop),
    WalksS X.prog X.w X.A.in1 g fp wr G ws.length F St ∧ St 0 s5 ∧ TruthOf X.prog X.w X.A.in1 F (trS pb ws) ∧
    ∀ s', Moved wr G s5 s' → ∃ H2, Tabbed P H1 H2 ∧ Inv X pins σ H2 s'

theorem gen1 {c P : Addr} {elt iter : Expr} {x : Str} {px gpos : Pos} {scope : Scope} {Ex : L2.St → Addr → List Str → Prop} {pb : List Str → Str → Bool} {te : TE} {k : Nat} {Q' : Value → Shared → Prop} {R : List Str → Hp → Prop}
    (hr : Room k X.A) (TB : TabB X.base X.mg c P) (hcode : X.env.code = .ref c) (S : GenS X.env scope x) (hi : PE X iter te) (hel : Elt1 X P scope x elt Ex pb)
    (hs : ∀ v, genFold iter X.env v = pure v) (I : Inv X pins σ H s) (h : te σ H fun v H1 => ∃ (yl : Addr) (ws : List Str), v = .ref yl ∧ SqL X.K H1 yl (ws.map V.str) ∧ Ex σ yl ws ∧ TabG H1 P ∧ R ws H1)
    (hQ : ∀ ws H1 g s5, R ws H1 → Ready1 X pins σ H1 P ws (pb ws) g s5 → Q' (.ref g) s5) :
    wpAny (model X.prog X.w) X.A (eval (.GeneratorExp elt [⟨.Name x px, iter, [], 0⟩] scope gpos) X.env) Q' X.xe s := by
  refine wpAny_GeneratorExp_walksQ hr.hd S.co (closure_ok S.free) S.cell S.dot S.loc S.kind (by have := hr.dp; omega) ?_ hs
  refine thn (hi.run pins s σ H _ I h) fun xv s1 ⟨v, H1, I1, r1, q1⟩ => ?_
  obtain ⟨yl, ws, rfl, hyl, hEx, ⟨ps, hP, ht⟩, q1⟩ := q1
  obtain rfl : xv = Value.ref yl := r1
  obtain ⟨its, rv, hl, hz⟩ := I1.list hyl
  have hIL := hl.isList
  have hlen : its.length = ws.length := by rw [← rv.length, List.length_map]
  have hat : ∀ (i : Nat) (v : Value), its.toArray[i]? = some v → ∃ (a : Str) (u : Tok), ws[i]? = some a ∧ v = .str a u := fun i v hv => by
    have hv2 : its[i]? = some v := by simpa using hv
    have hi2 : i < its.length := (List.getElem?_eq_some_iff.mp hv2).1
    obtain ⟨a, ha⟩ : ∃ a, ws[i]? = some a := ⟨ws[i]'(by omega), List.getElem?_eq_getElem _⟩
    have hb : (ws.map V.str)[i]? = some (V.str a) := by rw [List.getElem?_map, ha] <;> rfl
    obtain ⟨u, hu, ru⟩ := rv.get hb
    rw [hv2] at hu
    cases hu
    obtain ⟨t, e⟩ := (show ∃ t, v = Value.str a t from ru)
    exact ⟨a, t, ha, e⟩
  refine wpAny_pyIter_list hIL ?_
  generalize ho : ({ cls := .type "list_iterator", data := .fields #[.ref yl, .int 0 0] } : Obj) = o
  have hitr : (s1.heap.push o).IsListIter s1.heap.objs.size yl 0 := by
    subst ho
    exact ⟨_, Heap.get?_push_size _ rfl, rfl, rfl⟩
  have hylt : yl < s1.heap.objs.size := by
    obtain ⟨_, e, _⟩ := _root_.id hIL
    exact Heap.lt_size e
  have hPs : s1.heap.get? P = some { cls := .none, data := .fields ps } := I1.hok P _ hP
  have hPlt : P < s1.heap.objs.size := Heap.lt_size hPs
  have hP2 : (s1.heap.push o).get? P = some { cls := .none, data := .fields ps } := Heap.get?_push_of_some _ hPs
  have cd : PySem.W.CodeHd (s1.heap.push o) c P := TB.code.keeps fun b u e => Heap.get?_push_of_some _ (I1.bk b u e)
  have lim2 : (s1.heap.push o).NoLimit := I1.nolimit.push o
  have cont : ∀ (code : Value) (h3 : Heap) (tk : Nat) (ps' : Array Value), Heap.ExtBut P (s1.heap.push o) h3 → (s1.heap.push o).objs.size ≤ h3.objs.size → h3.get? P = some { cls := .none, data := .fields ps' } → (∃ more, ps' = ps ++ more) → TriplesOk ps'.toList →
      wpAny (model X.prog X.w) X.A (builtinsFor X.env.globals X.env.builtins) (fun bi s₄ =>
        ∃ Ia fp wr n₀ Pf St₀ pz F, Value.ref s1.heap.objs.size = .ref Ia ∧ (∀ A' : Around, A'.handled = none → Walks X.prog X.w A' Ia fp wr n₀ Pf St₀) ∧ St₀ 0 s₄.heap ∧ (∀ b ∈ fp, b < s₄.heap.objs.size) ∧ s₄.heap.NoLimit ∧ cStatics ∉ wr ∧
          (∀ href : Heap, (∀ b o, s₄.heap.get? b = some o → href.get? b = some o) →
            QuietGen X.prog X.w (genEnv scope (cloFrom X.env.cells scope.names []) s₄.heap.objs.size code bi X.env) x [] elt (List.range s₄.heap.objs.size) wr Pf pz F href) ∧
          (∀ a h₅ tk gs, gs.bare = true → s₄.heap.objs.size < a → h₅.objs.size = a + 1 → (∀ b o, s₄.heap.get? b = some o → h₅.get? b = some o) →
            WalksS X.prog X.w X.A.in4 a (a :: s₄.heap.objs.size :: List.range s₄.heap.objs.size) (s₄.heap.objs.size :: wr) (GenOnlyQ s₄.gens.size) (passing pz n₀ 0).length
              (fun j y => ∃ i, (passing pz n₀ 0)[j]? = some i ∧ F i y) (GenAt X.prog X.w X.A.in4 a s₄.gens.size s₄.heap.objs.size (List.range s₄.heap.objs.size) wr pz n₀ F) →
            GenAt X.prog X.w X.A.in4 a s₄.gens.size s₄.heap.objs.size (List.range s₄.heap.objs.size) wr pz n₀ F 0 { s₄ with gens := s₄.gens.push gs, toks := tk, heap := h₅ } →
            Q' (.ref a) { s₄ with gens := s₄.gens.push gs, toks := tk, heap := h₅ })) X.xe { s1 with heap := h3, toks := tk } := by
    intro code h3 tk ps' hx hsz hP3 hmore ht3
    obtain ⟨bm, ob, e1, e2, e3, e4, e5, e6, e7, e8⟩ := TB.bm
    have hcP : cStatics ≠ P := fun e => by
      obtain ⟨_, hns, _⟩ := I1.nolimit
      obtain ⟨o', es, ep, ho, hd, _⟩ := hns
      rw [e, hPs] at ho
      cases ho
      cases hd
    have hcl : cStatics < s1.heap.objs.size := let ⟨_, hns, _⟩ := I1.nolimit; hns.lt
    have sz2 : (s1.heap.push o).objs.size = s1.heap.objs.size + 1 := Heap.size_push ..
    have keep3 : ∀ b u, b ≠ P → s1.heap.get? b = some u → h3.get? b = some u := fun b u hb e => hx b u hb (Heap.get?_push_of_some _ e)
    refine wpAny_builtinsFor (m := X.mg) (by rw [I1.ok.glob]; exact ((I1.mod.glob.keeps I1.bk).push o).extBut hx TB.gP) e1 e2 (keep3 _ _ e4 (I1.bk _ _ e5)) e6 e7 e8 ?_
    have hylP : yl ≠ P := fun z => by
      obtain ⟨_, e, hc1, _, hd1⟩ := _root_.id hIL
      rw [z, hPs] at e
      cases e
      cases hd1
    have hIL3 : h3.IsList yl its.toArray := by
      obtain ⟨ob, e, r⟩ := _root_.id hIL
      exact ⟨ob, keep3 _ _ hylP e, r⟩
    have hItr3 : h3.IsListIter s1.heap.objs.size yl 0 := hitr.at fun u e => hx _ u (Nat.ne_of_gt hPlt) e
    refine ⟨s1.heap.objs.size, [s1.heap.objs.size, yl], [s1.heap.objs.size], its.toArray.size, (fun i v => its.toArray[i]? = some v), (fun i h => h.IsListIter s1.heap.objs.size yl i ∧ h.IsList yl its.toArray), (fun _ => true),
      (fun i y => ∃ (a : Str), ws[i]? = some a ∧ y = .bool (pb ws a)), rfl, (fun A' hA => Walks.list hA _ _ (Nat.ne_of_lt hylt) _), ⟨hItr3, hIL3⟩, ?_, lim2.extBut hx hcP, ?_, ?_, ?_⟩
    · intro b hb
      rcases List.mem_cons.mp hb with z | z
      · rw [z]
        show s1.heap.objs.size < h3.objs.size
        omega
      · rcases List.mem_cons.mp z with z | z
        · rw [z]
          have e9 : s1.heap.objs.size ≤ h3.objs.size := by omega
          exact Nat.lt_of_lt_of_le hylt e9
        · cases z
    · intro z
      rcases List.mem_cons.mp z with z | z
      · exact Nat.ne_of_lt hcl z
      · cases z
    · intro href hhref
      refine ⟨fun A' E' i v s₂ m₂ hA hPv hn hm hk => ?_, fun A' E' i v s₂ m₂ hA hPv hp hn hm hk => ?_⟩
      · simp only [List.forIn_nil]
        exact wpAny_pure ⟨rfl, GxR.keeps_refl _⟩
      · obtain ⟨a, u, ha, rfl⟩ := hat i v hPv
        refine wpAny_mono (hel pins σ H1 s1 yl ws I1 hyl (by rw [hP]; simp) ⟨ps, hP⟩ hEx _ code A' E' a u s₂ m₂ hA (fun b o hbP e => ?_) (List.mem_of_getElem? ha) hn hm) (fun y s3 r => ?_) fun _ _ e => e
        · have hl := Heap.lt_size e
          refine hk b (List.mem_range.mpr ?_) (fun z => Nat.ne_of_lt hl (List.mem_singleton.mp z)) o (hhref b o (keep3 b o hbP e))
          show b < h3.objs.size
          have e9 : s1.heap.objs.size ≤ h3.objs.size := by omega
          exact Nat.lt_of_lt_of_le hl e9
        · exact ⟨⟨a, ha, r.1⟩, r.2⟩
    · intro g h5 tk5 gs hgb hag hsz5 hk5 W5 hgat
      simp only [GxR.passing_true, List.length_range] at W5
      have hn5 : its.toArray.size = ws.length := by rw [List.size_toArray, hlen]
      rw [hn5] at W5 hgat
      refine hQ ws H1 g _ q1 ⟨_, _, _, _, _, W5.in4_1, hgat, ?_, fun s' hm => ?_⟩
      · intro j v sj Qj Ej hy hQj
        obtain ⟨i, hij, a, ha, rfl⟩ := hy
        obtain ⟨hj, ej⟩ := List.getElem?_eq_some_iff.mp hij
        rw [List.getElem_range] at ej
        subst ej
        have hQ2 : Qj (trS (pb ws) ws j) sj := hQj
        rw [trS_some ha] at hQ2
        exact wpAny_truthy_bool hQ2
      · obtain ⟨more, em⟩ := hmore
        have nwr : ∀ b u, s1.heap.get? b = some u → b ∉ h3.objs.size :: [s1.heap.objs.size] := fun b u e hb => by
          have hl := Heap.lt_size e
          rcases List.mem_cons.mp hb with z | z
          · rw [z] at hl
            have h9 : (h3.objs.size : Nat) < s1.heap.objs.size := hl
            omega
          · rcases List.mem_cons.mp z with z | z
            · rw [z] at hl
              exact Nat.lt_irrefl _ hl
            · cases z
        have J := GxR.inv_tab (more := more) (h' := s'.heap) (g' := s'.gens) (d' := s'.drawn) (t' := s'.toks) I1 hP (fun b u hb e => hm.heap b u (nwr b u e) (hk5 b u (keep3 b u hb e)))
          (by rw [← em]; exact hm.heap P _ (nwr P _ hPs) (hk5 P _ hP3)) (AllBare.movedS (I1.bare.push hgb) hm)
        rw [GxR.sh_eta s1 s' hm.os] at J
        refine ⟨upd H1 P (.tbl (ps ++ more)), ⟨⟨ps ++ more, upd_same, by rw [← em]; exact ht3⟩, fun b hb => upd_ne hb⟩, J⟩
  refine ⟨lim2, ?_⟩
  cases hf : codeAmong gpos ps.toList with
  | none =>
    refine wpAny_genexprCodeX hcode (cd.code hP2 ht) (cd.tab hP2) hf fun c' h' tk hx hge hlt hco' _ htab' _ => ?_
    obtain ⟨o1, vs, f1, tf, fl, tg, inF, tx, tt, op, _, _, _, _, _, _, _, _, _, htr, _⟩ := hco'
    exact cont _ h' tk _ hx (Nat.le_trans hge (Nat.le_of_lt hlt)) htab'.2 ⟨_, rfl⟩ htr
  | some cv =>
    refine wpAny_genexprCode_hit hcode (cd.code hP2 ht) hf ?_
    exact cont cv (s1.heap.push o) s1.toks ps (Heap.ExtBut.refl _ _) (Nat.le_refl _) hP2 ⟨#[], by simp⟩ ht

/-- any(test of x for x in e), e a list of texts -/
def tAny1 (K : PySem.W.Frag) (P : Addr) (Ex : L2.St → Addr → List Str → Prop) (pb : List Str → Str → Bool) (te : TE) : TE := fun σ H Q => te σ H fun v H1 => ∃ (yl : Addr) (ws : List Str), v = .ref yl ∧ SqL K H1 yl (ws.map V.str) ∧ Ex σ yl ws ∧ TabG H1 P ∧ ∀ H2, Tabbed P H1 H2 → Q (.bl (ws.any (pb ws))) H2
theorem pe_any1 {c P : Addr} {elt iter : Expr} {x : Str} {px p pos gpos : Pos} {scope : Scope} {Ex : L2.St → Addr → List Str → Prop} {pb : List Str → Str → Bool} {te : TE} {k : Nat}
    (hr : Room k X.A) (hg : Gl X "any") (hm : X.mg "any" = none) (TB : TabB X.base X.mg c P) (hcode : X.env.code = .ref c) (S : GenS X.env scope x) (hi : PE X iter te) (hel : Elt1 X P scope x elt Ex pb)
    (hs : ∀ v, genFold iter X.env v = pure v)
    (he : starEach [.GeneratorExp elt [⟨.Name x px, iter, [], 0⟩] scope gpos] X.env = (false, eval (.GeneratorExp elt [⟨.Name x px, iter, [], 0⟩] scope gpos) X.env) :: starEach [] X.env := by rfl) :
    PE X (.Call (.Name "any" p) [.GeneratorExp elt [⟨.Name x px, iter, [], 0⟩] scope gpos] [] pos) (tAny1 X.K P Ex pb te) := by
  refine ⟨fun pins s σ H Q I h => ?_⟩
  refine wpAny_Call_Name_kw (ld_blt I hg hm boot_any ?_)
  refine PyProof.Rows.callWith_builtin1 ?_ he (by rfl)
  rw [he]
  show wpAny _ _ (spliced ((false, eval (.GeneratorExp elt [⟨.Name x px, iter, [], 0⟩] scope gpos) X.env) :: backTo pos (starEach [] X.env))) _ _ s
  refine Calls.spliced_cons (gen1 (R := fun ws H1 => ∀ H2, Tabbed P H1 H2 → Q (.bl (ws.any (pb ws))) H2) hr TB hcode S hi hel hs I h fun ws H1 g s5 hR hG => ?_)
  obtain ⟨fp, wr, G, F, St, W, hst, htr, hI⟩ := hG
  refine Calls.spliced_nil ?_
  refine call_any_walkS (W.self 0 _ _ _ hst ⟨g, fp, wr, G, _, F, St, _, rfl, W, hst, htr, fun s' hmv => ?_⟩)
  obtain ⟨H2, hT, J⟩ := hI s' hmv
  refine ⟨.bl _, H2, J, rfl, ?_⟩
  rw [any_trS]
  exact hR H2 hT
end

/-! ### elements -/
section
variable {prog : Program} {w : World} {A : Around} {E : Value → Shared → Prop} {s : Shared} {cenv : Env}
theorem el_name {x : Str} {p : Pos} {v : Value} {m : Str → Option Value} {Q : Value → Shared → Prop} (hk : cenv.scope.kind = .function) (hx : cenv.kindOf x = some .local) (hn : s.heap.Ns cenv.locals m) (hm : m x = some v) (h : Q v s) (hd : (x == ("__debug__" : Str)) = false := by decide) :
    wpAny (model prog w) A (eval (.Name x p) cenv) Q E s := wpAny_Name (wpAny_loadName_local hk hx hn hm h) hd
theorem el_glob {x : Str} {p : Pos} {v : Value} {mg : Str → Option Value} {Q : Value → Shared → Prop} (hk : cenv.scope.kind = .function) (hx : cenv.kindOf x = some .globalImplicit) (hg : s.heap.Ns cenv.globals mg) (hm : mg x = some v) (h : Q v s) (hd : (x == ("__debug__" : Str)) = false := by decide) :
    wpAny (model prog w) A (eval (.Name x p) cenv) Q E s := Calls.Name_function_global hk hx (Calls.loadGlobal_global hg hm h) hd
theorem el_blt {x : Str} {p : Pos} {v : Value} {mg mb : Str → Option Value} {Q : Value → Shared → Prop} (hk : cenv.scope.kind = .function) (hx : cenv.kindOf x = some .globalImplicit) (hg : s.heap.Ns cenv.globals mg) (hmiss : mg x = none) (hb : s.heap.Ns cenv.builtins mb) (hv : mb x = some v) (h : Q v s) (hd : (x == ("__debug__" : Str)) = false := by decide) :
    wpAny (model prog w) A (eval (.Name x p) cenv) Q E s := Calls.Name_function_global hk hx (Calls.loadGlobal_builtin hg hmiss hb hv h) hd
/-- len(e) of a text -/
theorem el_len {e : Expr} {p1 p3 : Pos} {mg mb : Str → Option Value} {Q : Value → Shared → Prop} {R : Str → Shared → Prop} (hk : cenv.scope.kind = .function) (hx : cenv.kindOf "len" = some .globalImplicit) (hg : s.heap.Ns cenv.globals mg) (hmiss : mg "len" = none) (hb : s.heap.Ns cenv.builtins mb) (hv : mb "len" = some (.builtin "len"))
    (he1 : wpAny (model prog w) A (eval e cenv) (fun v s' => ∃ a t, v = .str a t ∧ a.length ≤ 1000 ∧ R a s') E s)
    (h : ∀ a s' tk u, R a s' → Q (.int a.length u) { s' with toks := tk })
    (he : starEach [e] cenv = (false, eval e cenv) :: starEach [] cenv := by rfl) :
    wpAny (model prog w) A (eval (.Call (.Name "len" p1) [e] [] p3) cenv) Q E s := by
  refine wpAny_Call_Name_kw (el_blt hk hx hg hmiss hb hv ?_)
  refine PyProof.Rows.callWith_builtin1 ?_ he (by rfl)
  rw [he]
  show wpAny _ _ (spliced ((false, eval e cenv) :: backTo p3 (starEach [] cenv))) _ _ s
  refine Calls.spliced_cons (wpAny_mono he1 (fun v s' hv => ?_) fun _ _ e => e)
  obtain ⟨a, t, rfl, hl, hR⟩ := hv
  refine Calls.spliced_nil ?_
  exact PyProof.Rows.len_str (by omega) (h a s' _ _ hR)
end
end Gx2
namespace Gx2
open PySem PySem.Spec PyProof.Rows L2 GxR
section
variable {X : Cx} {P : Addr} {scope : Scope}
theorem base_keeps {pins : List (Addr × Obj)} {σ : L2.St} {H1 : Hp} {s1 s₂ : Shared} (I : Inv X pins σ H1 s1) (hP : H1 P ≠ none) (hk : ∀ b o, b ≠ P → s1.heap.get? b = some o → s₂.heap.get? b = some o) :
    ∀ b o, X.base.get? b = some o → s₂.heap.get? b = some o := fun b o e => by
  obtain ⟨e1, e2⟩ := I.bs b o e
  refine hk b o (fun z => ?_) e1
  rw [z] at e2
  exact hP e2
/-- len(row) > MOST -/
theorem elt_gt {x cN : Str} {n : Int} {t0 : Tok} {p1 p2 p3 p4 p5 : Pos} (hk : scope.kind = .function) (hl : scope.names.lookup ("len" : Str) = some .globalImplicit) (hc : scope.names.lookup cN = some .globalImplicit) (hx : scope.names.lookup x = some .local)
    (hmg : X.mg "len" = none) (hmc : X.mg cN = some (.int n t0)) (hdx : (x == ("__debug__" : Str)) = false := by decide) (hdc : (cN == ("__debug__" : Str)) = false := by decide) :
    Elt1 X P scope x (.Compare (.Call (.Name "len" p1) [.Name x p2] [] p3) [.Gt] [.Name cN p4] p5) (fun _ _ ws => ∀ a ∈ ws, a.length ≤ 1000) (fun _ a => decide (n < (a.length : Int))) := by
  intro pins σ H1 s1 yl ws I hS hP hPt hEx C code A' E' a t s₂ m₂ hA hkeep ha hn hm
  have hB := base_keeps I hP hkeep
  have hg : s₂.heap.Ns mainGlobals X.mg := I.mod.glob.keeps hB
  obtain ⟨mb, hb0, hb1⟩ := I.mod.blt
  have hb : s₂.heap.Ns builtinsNs mb := hb0.keeps hB
  have eG : (gE X scope C code).globals = mainGlobals := I.ok.glob
  refine wpAny_Compare1 ?_
  refine el_len (R := fun b s' => b = a ∧ s' = s₂) hk hl (by rw [eG]; exact hg) hmg hb ((hb1 "len" (by decide)).trans PySem.boot_len) ?_ ?_
  · exact el_name hk hx hn hm ⟨a, t, rfl, hEx a ha, rfl, rfl⟩ hdx
  · rintro b s' tk u ⟨rfl, rfl⟩
    refine el_glob hk hc (by rw [eG]; exact hg) hmc ?_ hdc
    exact PyProof.Rows.gt_int ⟨rfl, keeps_tok _ _⟩
/-- len(row) != len(rows[0]) -/
theorem elt_ne {x r : Str} {i : Nat} {p1 p2 p3 p4 p5 p6 p7 p8 p9 : Pos} {k0 : Nat} (hk : scope.kind = .function) (hl : scope.names.lookup ("len" : Str) = some .globalImplicit) (hx : scope.names.lookup x = some .local) (hr : scope.names.lookup r = some .free)
    (hfree : ∀ c, X.env.cells.lookup r = some c → (cloFrom X.env.cells scope.names []).lookup r = some c) (hN : X.N[i]? = some r) (hv : X.env.kindOf r = some .cell)
    (hmg : X.mg "len" = none) (hdx : (x == ("__debug__" : Str)) = false := by decide) (hdr : (r == ("__debug__" : Str)) = false := by decide) (hdcr : (r == ("__classdict__" : Str)) = false := by decide) :
    Elt1 X P scope x (.Compare (.Call (.Name "len" p1) [.Name x p2] [] p3) [.NotEq] [.Call (.Name "len" p4) [.Subscript (.Name r p5) (.Constant (.int 0) k0 p6) p7] [] p8] p9)
      (fun σ yl ws => (∀ a ∈ ws, a.length ≤ 1000) ∧ σ[i]? = some (some (.ref yl))) (fun ws a => (a.length : Int) != ((ws.headD "").length : Int)) := by
  intro pins σ H1 s1 yl ws I hS hP hPt hEx C code A' E' a t s₂ m₂ hA hkeep ha hn hm
  obtain ⟨hEx, hσ⟩ := hEx
  have hB := base_keeps I hP hkeep
  have hg : s₂.heap.Ns mainGlobals X.mg := I.mod.glob.keeps hB
  obtain ⟨mb, hb0, hb1⟩ := I.mod.blt
  have hb : s₂.heap.Ns builtinsNs mb := hb0.keeps hB
  have eG : (gE X scope C code).globals = mainGlobals := I.ok.glob
  obtain ⟨ps, hPt⟩ := hPt
  have hPs : s1.heap.get? P = some { cls := .none, data := .fields ps } := I.hok P _ hPt
  -- rows itself
  obtain ⟨m, hn0, hl0⟩ := I.loc
  obtain ⟨u, ru, lk⟩ := hl0 i r _ hN hσ (.inr (.inl hv))
  obtain rfl : u = Value.ref yl := ru
  have hcell : ∃ c, X.env.cells.lookup r = some c ∧ s1.heap.IsCell c (some (.ref yl)) := by
    rcases lk with ⟨hk2, _⟩ | ⟨_, c, hc, hcell⟩
    · rw [hv] at hk2
      cases hk2
    · exact ⟨c, hc, hcell⟩
  obtain ⟨c, hc, oc, hoc, hdc⟩ := hcell
  have hcP : c ≠ P := fun z => by
    rw [z, hPs] at hoc
    cases hoc
    cases hdc
  have hcell2 : s₂.heap.IsCell c (some (.ref yl)) := ⟨oc, hkeep c oc hcP hoc, hdc⟩
  obtain ⟨its, rv, hl2, hz⟩ := I.list hS
  have hIL := hl2.isList
  have hylP : yl ≠ P := fun z => by
    obtain ⟨_, e, hc1, _, hd1⟩ := _root_.id hIL
    rw [z, hPs] at e
    cases e
    cases hd1
  have hIL2 : s₂.heap.IsList yl its.toArray := by
    obtain ⟨ob, e, q⟩ := _root_.id hIL
    exact ⟨ob, hkeep yl ob hylP e, q⟩
  obtain ⟨b0, rest, rfl⟩ : ∃ b0 rest, ws = b0 :: rest := by
    cases ws with
    | nil => cases ha
    | cons b0 rest => exact ⟨b0, rest, rfl⟩
  obtain ⟨u0, hu0, ru0⟩ := rv.get (i := 0) (x := V.str b0) rfl
  obtain ⟨t0, rfl⟩ := (show ∃ t, u0 = Value.str b0 t from ru0)
  refine wpAny_Compare1 ?_
  refine el_len (R := fun b s' => b = a ∧ s' = s₂) hk hl (by rw [eG]; exact hg) hmg hb ((hb1 "len" (by decide)).trans PySem.boot_len) ?_ ?_
  · exact el_name hk hx hn hm ⟨a, t, rfl, hEx a ha, rfl, rfl⟩ hdx
  · rintro b s' tk u ⟨rfl, rfl⟩
    refine el_len (R := fun b s3 => b = b0 ∧ ∃ tk3, s3 = { s' with toks := tk3 }) hk hl (by rw [eG]; exact hg) hmg hb ((hb1 "len" (by decide)).trans PySem.boot_len) ?_ ?_
    · refine Subscript_ (wpAny_Name (wpAny_loadName_free hk hr (hfree c hc) hcell2 ?_ hdcr) hdr)
      refine wpAny_Constant_int ?_
      exact item_listR hIL2 (by decide) (by decide) (by simpa using hu0) ⟨b0, t0, rfl, hEx b0 List.mem_cons_self, rfl, _, rfl⟩ (by with_unfolding_all rfl)
    · rintro b s3 tk2 u2 ⟨rfl, tk3, rfl⟩
      exact PyProof.Rows.ne_int ⟨rfl, keeps_tok _ _⟩
/-- sign not in SIGNS -/
theorem elt_notin {y cN : Str} {z : Str} {t0 : Tok} {p1 p2 p3 : Pos} (hk : scope.kind = .function) (hc : scope.names.lookup cN = some .globalImplicit) (hy : scope.names.lookup y = some .local) (hmc : X.mg cN = some (.str z t0)) (hgP : mainGlobals ≠ P) (hdy : (y == ("__debug__" : Str)) = false := by decide) (hdc : (cN == ("__debug__" : Str)) = false := by decide) :
    Elt2 X P scope y (.Compare (.Name y p1) [.NotIn] [.Name cN p2] p3) (fun c => !decide (c ∈ z.cps.toList)) := by
  intro pins σ H1 s1 I C code A' E' c u s₂ m₂ hA hkeep hn hm
  have eG : (gE X scope C code).globals = mainGlobals := I.ok.glob
  have hg : s₂.heap.Ns mainGlobals X.mg := (I.mod.glob.keeps I.bk).at' fun o e => hkeep _ o hgP e
  refine wpAny_Compare1 ?_
  refine el_name hk hy hn hm ?_ hdy
  refine el_glob hk hc (by rw [eG]; exact hg) hmc ?_ hdc
  refine PyProof.Rows.notIn_str ?_
  rw [PySem.StrLaws.found_one]
  exact ⟨rfl, keeps_refl _⟩
end
end Gx2
namespace Sf
open PySem L2
def top (i : Nat) : Stmt := PySem.Challenge.pw_slabfloor_k13_whole_floors_turned.main.body.getD i (.Pass ⟨0, 0, 0, 0⟩)
abbrev s_refuse_wrong : Stmt := top 14
abbrev s_sign_at : Stmt := top 15
abbrev s_neighbours : Stmt := top 16
abbrev s_neighbours_of_cells : Stmt := top 17
abbrev srefuse_no_cell : Stmt := top 18
abbrev sFloor___init__ : Stmt := inClass (top 19) 0
abbrev sFloor_cells : Stmt := inClass (top 19) 1
abbrev sFloor_has : Stmt := inClass (top 19) 2
abbrev sFloor_row_and_column : Stmt := inClass (top 19) 3
abbrev sFloor_sign : Stmt := inClass (top 19) 4
abbrev sFloor_shade : Stmt := inClass (top 19) 5
abbrev sFloor_may : Stmt := inClass (top 19) 6
abbrev sFloor_beside : Stmt := inClass (top 19) 7
abbrev sLaying___init__ : Stmt := inClass (top 21) 0
abbrev sLaying_put : Stmt := inClass (top 21) 1
abbrev sLaying_lift : Stmt := inClass (top 21) 2
abbrev sLaying_bare : Stmt := inClass (top 21) 3
abbrev sLaying_slabs : Stmt := inClass (top 21) 4
abbrev sLaying_copied : Stmt := inClass (top 21) 5
abbrev squarter : Stmt := top 24
abbrev squarter_place : Stmt := top 25
abbrev sreached : Stmt := top 27
abbrev sway_to : Stmt := top 28
abbrev sturned : Stmt := top 29
abbrev sbetter : Stmt := top 31
abbrev slaid : Stmt := top 32
abbrev s_law_cell_at : Stmt := top 34
abbrev s_law_number : Stmt := top 35
abbrev s_law_rows : Stmt := top 36
abbrev s_law_may : Stmt := top 37
abbrev s_law_whole : Stmt := top 38
abbrev s_law_listed : Stmt := top 39
abbrev s_law_truth : Stmt := top 40
abbrev s_law_quarter : Stmt := top 41
abbrev slaw : Stmt := top 42
/-- all that was tracked is as it was, but for the table at P, which may have grown -/
structure Sm (P : Addr) (H H' : Hp) : Prop where
  k : ∀ b o, b ≠ P → H b = some o → H' b = some o
  t : GxR.TabG H P → GxR.TabG H' P
theorem Sm.of {P : Addr} {H H' : Hp} (e : Same H H') : Sm P H H' := ⟨fun b o _ h => e b o h, fun ⟨ps, h, q⟩ => ⟨ps, e _ _ h, q⟩⟩
theorem Sm.refl (P : Addr) (H : Hp) : Sm P H H := .of (Same.refl H)
theorem Sm.trans {P : Addr} {H H1 H2 : Hp} (a : Sm P H H1) (b : Sm P H1 H2) : Sm P H H2 := ⟨fun c o hc h => b.k c o hc (a.k c o hc h), fun h => b.t (a.t h)⟩
theorem Sm.tabbed {P : Addr} {H H' : Hp} (h : GxR.Tabbed P H H') : Sm P H H' := ⟨fun b o hb e => by rw [h.2 b hb]; exact e, fun _ => h.1⟩
theorem Sm.free {P : Addr} {H H' : Hp} (e : Sm P H H') (hT : GxR.TabG H P) {l : Addr} (h : H' l = none) : H l = none := by
  by_cases hl : l = P
  · obtain ⟨ps, z, _⟩ := e.t hT
    rw [hl, z] at h
    cases h
  · cases q : H l with
    | none => rfl
    | some o =>
      rw [e.k l o hl q] at h
      cases h
theorem Sm.seq {P : Addr} {K : PySem.W.Frag} {H H' : Hp} {a : Addr} {xs : List V} (e : Sm P H H') (hT : GxR.TabG H P) (h : SqL K H a xs) : SqL K H' a xs := by
  obtain ⟨ps, z, _⟩ := hT
  rcases h with (h | ⟨o, h⟩) | h
  · exact .inl (.inl (e.k _ _ (fun q => by rw [q, z] at h; cases h) h))
  · exact .inl (.inr ⟨o, e.k _ _ (fun q => by rw [q, z] at h; cases h) h⟩)
  · exact .inr h
theorem Same.new {H : Hp} {a : Addr} {o : HO} (h : H a = none) : Same H (upd H a o) := fun b u e => by
  rw [upd_ne (ne_of_none e h)]
  exact e
/-! ### the script's cells -/
/-- script[k], 0 beyond -/
def cellN (ns : List Int) (k : Nat) : Int := ns.getD k 0
theorem int_at {ns : List Int} {j : Nat} (h : j < ns.length) : (ns.map V.int)[j]? = some (V.int (ns.getD j 0)) := by
  rw [List.getElem?_map, List.getElem?_eq_getElem h, List.getD_eq_getElem?_getD, List.getElem?_eq_getElem h] <;> rfl
def spCellAt (K : PySem.W.Frag) : Sp := fun vs H Q _ => ∃ (a : Addr) (ns : List Int) (k : Nat), vs = [.ref a, .int k] ∧ SqL K H a (ns.map V.int) ∧ Q (.int (cellN ns k)) H
def spNumber (K : PySem.W.Frag) : Sp := fun vs H Q _ => ∃ (a : Addr) (ns : List Int) (k : Nat), vs = [.ref a, .int k] ∧ SqL K H a (ns.map V.int) ∧ ns.length ≤ 63 ∧ k ≤ 100000 ∧ ∀ r : Int, Q (.int r) H
section
variable {P : Program} {w : World} {K : PySem.W.Frag} {mg : Str → Option Value} {base : Heap}
theorem scCell : FnScope ["_law_script", "_law_k"] ["_law_script", "_law_k"] (defScope s_law_cell_at) := ⟨rfl, rfl, rfl, by decide +kernel, rfl, by decide +kernel, by decide +kernel⟩
theorem ok_cell {f : Addr} {fd : FuncData} (F : Fun K "_law_cell_at" "_law_cell_at" s_law_cell_at f fd) (gL : mg "len" = none) : FnOk P w K mg base CX0 1 f fd ["_law_script", "_law_k"] (spCellAt K) := by
  refine F.ok scCell (fun vs H Q E h => ?_) (fun cdv A outer s H vs Q E hr h => ?_)
  · obtain ⟨a, ns, k, rfl, _⟩ := h
    rfl
  · obtain ⟨a, ns, k, rfl, hS, hQ⟩ := h
    refine ⟨_, pss_cons (ps_if (pt_cmpR op_lt (pv 1) (pe_callB call_len (by rfl) gL PySem.boot_len (pa_cons (pv 0) pa_nil)) (nomark _)) (pss_one (ps_ret (pe_ix ix_list (pv 0) (pv 1) (fun _ _ => rfl)))) pss_nil) (pss_one (ps_ret pe_int)), ?_⟩
    refine ⟨_, rfl, _, rfl, _, _, rfl, .inl ⟨_, hS, rfl⟩, _, _, rfl, rfl, _, rfl, ?_⟩
    rw [List.length_map]
    refine ite2 (fun hc => ?_) (fun hc => ?_)
    · have hlt : k < ns.length := by
        have := of_decide_eq_true hc
        omega
      exact ⟨_, rfl, _, rfl, _, _, _, _, rfl, rfl, hS, atI_nat (int_at hlt), hQ⟩
    · have hge : ns.length ≤ k := by
        have := of_decide_eq_false (Bool.eq_false_iff.mpr hc)
        omega
      have e : cellN ns k = 0 := by
        unfold cellN
        rw [List.getD_eq_getElem?_getD, List.getElem?_eq_none hge] <;> rfl
      rw [e] at hQ
      exact hQ
theorem scNumber : FnScope ["_law_script", "_law_k", "_law_base"] ["_law_script", "_law_k"] (defScope s_law_number) := ⟨rfl, rfl, rfl, by decide +kernel, rfl, by decide +kernel, by decide +kernel⟩
theorem ok_number {f : Addr} {fd : FuncData} (F : Fun K "_law_number" "_law_number" s_law_number f fd) (gL : mg "len" = none) : FnOk P w K mg base CX0 1 f fd ["_law_script", "_law_k"] (spNumber K) := by
  refine F.ok scNumber (fun vs H Q E h => ?_) (fun cdv A outer s H vs Q E hr h => ?_)
  · obtain ⟨a, ns, k, rfl, _⟩ := h
    rfl
  · obtain ⟨a, ns, k, rfl, hS, hl, hk, hQ⟩ := h
    refine ⟨_, pss_cons (ps_if (pt_cmpR op_eq (pe_callB call_len (by rfl) gL PySem.boot_len (pa_cons (pv 0) pa_nil)) pe_int (nomark _)) (pss_one (ps_ret (pv 1))) pss_nil)
      (pss_cons (ps_set (i := 2) scNumber.nd rfl (Or.inl rfl) (pe_op op_add (pe_ix ix_list (pv 0) (pe_op op_modN (pe_op op_add pe_int (pv 1)) (pe_callB call_len (by rfl) gL PySem.boot_len (pa_cons (pv 0) pa_nil))) (fun _ _ => rfl)) (pe_op op_mul pe_int (pe_op op_fdivN (pv 1) (pe_callB call_len (by rfl) gL PySem.boot_len (pa_cons (pv 0) pa_nil))))))
      (pss_one (ps_ret (pe_op op_mod (pe_op op_mul (pv 2) pe_int) pe_int)))), ?_⟩
    refine ⟨_, rfl, _, _, rfl, .inl ⟨_, hS, rfl⟩, rfl, _, rfl, ?_⟩
    rw [List.length_map]
    refine ite2 (fun hc => ?_) (fun hc => ?_)
    · exact ⟨_, rfl, hQ _⟩
    · have hne : ns.length ≠ 0 := by
        intro e
        apply hc
        rw [e]
        rfl
      have hpos : (0 : Int) < (ns.length : Int) := by omega
      have hm0 : 0 ≤ Int.fmod (2 + (k : Int)) (ns.length : Int) := Int.fmod_nonneg_of_pos _ hpos
      have hm1 : Int.fmod (2 + (k : Int)) (ns.length : Int) < (ns.length : Int) := Int.fmod_lt_of_pos _ hpos
      obtain ⟨j, hj⟩ : ∃ j : Nat, Int.fmod (2 + (k : Int)) (ns.length : Int) = (j : Int) := ⟨(Int.fmod (2 + (k : Int)) (ns.length : Int)).toNat, by omega⟩
      have hjl : j < ns.length := by omega
      refine ⟨_, rfl, _, rfl, _, _, rfl, rfl, _, rfl, _, _, rfl, .inl ⟨_, hS, rfl⟩, _, _, rfl, rfl, ?_, ?_⟩
      · rw [List.length_map]
        omega
      · rw [List.length_map]
        refine ⟨_, _, _, _, rfl, rfl, hS, at_of hj (int_at hjl), ?_⟩
        refine ⟨_, rfl, _, rfl, _, _, rfl, .inl ⟨_, hS, rfl⟩, _, _, rfl, rfl, ?_, ?_⟩
        · rw [List.length_map]
          exact ⟨by omega, by omega⟩
        · rw [List.length_map]
          refine ⟨_, _, rfl, rfl, .inl ⟨by decide, by decide⟩, _, _, rfl, rfl, ?_⟩
          exact ⟨_, rfl, _, _, rfl, rfl, .inr ⟨by decide, by decide⟩, _, _, rfl, rfl, (by show (0 : Int) < 65521; decide), hQ _⟩
end
end Sf
namespace Sf
open PySem L2
theorem join_flat : ∀ ws : List Str, (Txt.join ("" : Str) ws).cps.toList = Gx2.flat ws := by
  intro ws
  show (Builtin.Str.glued _ ws).cps.toList = _
  rw [StrLaws.glued_eq_join]
  have e0 : ("" : Str) = ⟨#[]⟩ := by decide +kernel
  induction ws with
  | nil => rfl
  | cons a r ih =>
    cases r with
    | nil =>
      show a.cps.toList = (a :: []).flatMap _
      simp
    | cons b r =>
      show (a ++ ("" : Str) ++ Str.join ("" : Str) (b :: r)).cps.toList = (a :: b :: r).flatMap (fun a => a.cps.toList)
      rw [Str.cps_append, Str.cps_append, Array.toList_append, Array.toList_append, ih, List.flatMap_cons, e0]
      simp
/-- a sign that a floor may have -/
def okSign (c : Nat) : Prop := c = 46 ∨ c = 45 ∨ c = 124 ∨ c = 35
def wide (ws : List Str) : Nat := (ws.headD "").length
structure Wf (ws : List Str) : Prop where
  high : ws.length ≤ 12
  len : ∀ a ∈ ws, a.length = wide ws
  wid : wide ws ≤ 12
  sign : ∀ a ∈ ws, ∀ c ∈ a.cps.toList, okSign c
theorem empty_len : ("" : Str).length = 0 := by decide +kernel
theorem Wf.of {ws : List Str} {n : Nat} (h1 : ws.length ≤ 12) (h2 : ∀ a ∈ ws, a.length = n) (h3 : n ≤ 12) (h4 : ∀ a ∈ ws, ∀ c ∈ a.cps.toList, okSign c) : Wf ws := by
  cases ws with
  | nil => exact ⟨h1, fun a ha => (by cases ha), (by show ("" : Str).length ≤ 12; rw [empty_len]; omega), h4⟩
  | cons b r =>
    have e : Sf.wide (b :: r) = n := h2 b List.mem_cons_self
    exact ⟨h1, fun a ha => (h2 a ha).trans e.symm, (by rw [e]; exact h3), h4⟩
/-- the six menus -/
def menus : List Str := [".", "....-|#.", ".-|#", "..#", "...-||", ".#-.-."]
structure MenuOk (z : Str) : Prop where
  pos : 0 < z.length
  sm : z.length ≤ 8
  sg : ∀ c ∈ z.cps.toList, okSign c
theorem menu_b : menus.all (fun z => decide (0 < z.length) && decide (z.length ≤ 8) && z.cps.toList.all (fun c => c == 46 || c == 45 || c == 124 || c == 35)) = true := by decide +kernel
theorem menu_ok : ∀ z ∈ menus, MenuOk z := fun z hz => by
  have h := List.all_eq_true.mp menu_b z hz
  simp only [Bool.and_eq_true, decide_eq_true_eq, List.all_eq_true, Bool.or_eq_true, beq_iff_eq] at h
  exact ⟨h.1.1, h.1.2, fun c hc => by
    have q := h.2 c hc
    unfold okSign
    omega⟩
theorem mod_nat (i : Int) {k : Int} (h : 0 < k) : ∃ n : Nat, i % k = (n : Int) ∧ (n : Int) < k :=
  ⟨(i % k).toNat, (Int.toNat_of_nonneg (Int.emod_nonneg _ (by omega))).symm, by rw [Int.toNat_of_nonneg (Int.emod_nonneg _ (by omega))]; exact Int.emod_lt_of_pos _ h⟩
/-- _law_rows: some rows of a floor, a new list -/
def spRows (K : PySem.W.Frag) : Sp := fun vs H Q _ => ∃ (a : Addr) (ns : List Int), vs = [.ref a] ∧ SqL K H a (ns.map V.int) ∧ ns.length ≤ 63 ∧
  ∀ (l : Addr) (ws : List Str) (H' : Hp), Wf ws → Same H H' → H l = none → H' l = some (.lst (ws.map V.str)) → Q (.ref l) H'
theorem sum_len {c n : Nat} : ∀ {ys : List Str}, (∀ y ∈ ys, y.length = c) → (ys.map (·.length)).sum = ys.length * c
  | [], _ => by simp
  | y :: r, h => by
    rw [List.map_cons, List.sum_cons, h y List.mem_cons_self, sum_len (n := n) (fun z hz => h z (List.mem_cons_of_mem _ hz)), List.length_cons, Nat.succ_mul]
    omega
theorem len_flat1 : ∀ {ys : List Str}, (∀ y ∈ ys, y.length = 1) → (Gx2.flat ys).length = ys.length
  | [], _ => rfl
  | y :: r, h => by
    have e : y.cps.toList.length = 1 := by
      rw [Array.length_toList]
      exact h y List.mem_cons_self
    show ((y :: r).flatMap _).length = _
    rw [List.flatMap_cons, List.length_append, e, List.length_cons, Nat.add_comm 1]
    show (Gx2.flat r).length + 1 = _
    rw [len_flat1 (fun z hz => h z (List.mem_cons_of_mem _ hz))]
section
variable {P : Program} {w : World} {K : PySem.W.Frag} {mg : Str → Option Value} {base : Heap}
def nRows : List Str := ["_law_script", "_law_first", "_law_high", "_law_wide", "_law_menu", "_law_rows_here", "_law_row", "_law_signs", "_law_column"]
theorem scRows : FnScope nRows ["_law_script"] (defScope s_law_rows) := ⟨rfl, rfl, rfl, by decide +kernel, rfl, by decide +kernel, by decide +kernel⟩
theorem ok_rows {f fc fn : Addr} {fd fdc fdn : FuncData} (F : Fun K "_law_rows" "_law_rows" s_law_rows f fd)
    (GC : FnOk P w K mg base CX0 1 fc fdc ["_law_script", "_law_k"] (spCellAt K)) (gC : mg "_law_cell_at" = some (.ref fc)) (kC : PySem.W.keepIn K (.ref fc) = true) (bC : Binds K fdc ["_law_script", "_law_k"] [])
    (GN : FnOk P w K mg base CX0 1 fn fdn ["_law_script", "_law_k"] (spNumber K)) (gN : mg "_law_number" = some (.ref fn)) (kN : PySem.W.keepIn K (.ref fn) = true) (bN : Binds K fdn ["_law_script", "_law_k"] [])
    (gL : mg "len" = none) (gR : mg "range" = none) : FnOk P w K mg base CX0 2 f fd ["_law_script"] (spRows K) := by
  refine F.ok scRows (fun vs H Q E h => ?_) (fun cdv A outer s H vs Q E hr h => ?_)
  · obtain ⟨a, ns, rfl, _⟩ := h
    rfl
  · obtain ⟨a, ns, rfl, hS, hl, hQ⟩ := h
    refine ⟨_, pss_cons (ps_set (i := 1) scRows.nd rfl (Or.inl rfl) (pe_call GC hr rfl gC kC bC .nil pass0 (pa_cons (pv 0) (pa_cons pe_int pa_nil))))
      (pss_cons (ps_set (i := 2) scRows.nd rfl (Or.inl rfl) (pe_op op_mod (pv 1) pe_int))
      (pss_cons (ps_set (i := 3) scRows.nd rfl (Or.inr rfl) (pe_op op_mod (pe_op op_fdiv (pv 1) pe_int) pe_int))
      (C8.pss_cut (ps_if (pt_cmpR op_eq (pe_op op_mod (pe_op op_fdiv (pv 1) pe_int) pe_int) pe_int (nomark _)) (pss_cons (ps_set (i := 2) scRows.nd rfl (Or.inl rfl) (pe_op op_mod (pe_op op_fdiv (pv 1) pe_int) pe_int)) (pss_one (ps_set (i := 3) scRows.nd rfl (Or.inr rfl) (pe_op op_mod (pe_op op_fdiv (pv 1) pe_int) pe_int)))) pss_nil)
      (C8.pss_cut (ps_if (pt_cmpR op_eq (pe_op op_mod (pe_op op_fdiv (pv 1) pe_int) pe_int) pe_int (nomark _)) (pss_cons (ps_set (i := 2) scRows.nd rfl (Or.inl rfl) (pe_op op_mod (pe_op op_fdiv (pv 1) pe_int) pe_int)) (pss_one (ps_set (i := 3) scRows.nd rfl (Or.inr rfl) (pe_op op_mod (pe_op op_fdiv (pv 1) pe_int) pe_int)))) pss_nil)
      (C8.pss_cut (ps_if (PW.pt (pw_and (pt_cmpR op_eq (pe_op op_mod (pe_op op_fdiv (pv 1) pe_int) pe_int) pe_int (nomark _)) (pw_and1 (pt_cmpR op_eq (pe_op op_mod (pe_op op_fdiv (pv 1) pe_int) pe_int) pe_int (nomark _))))) (pss_cons (ps_set (i := 2) scRows.nd rfl (Or.inl rfl) (pe_op op_mod (pe_op op_fdiv (pv 1) pe_int) pe_int)) (pss_one (ps_set (i := 3) scRows.nd rfl (Or.inr rfl) (pe_op op_mod (pe_op op_fdiv (pv 1) pe_int) pe_int)))) pss_nil)
      (pss_cons (ps_set (i := 4) scRows.nd rfl (Or.inr rfl) (pe_ix ix_list (pe_lst (pa_cons pe_str (pa_cons pe_str (pa_cons pe_str (pa_cons pe_str (pa_cons pe_str (pa_cons pe_str pa_nil))))))) (pe_op op_mod (pe_call GC hr rfl gC kC bC .nil pass0 (pa_cons (pv 0) (pa_cons pe_int pa_nil))) pe_int) (fun _ _ => rfl)))
      (pss_cons (ps_set (i := 5) scRows.nd rfl (Or.inl rfl) (pe_lst pa_nil))
      (pss_cons (ps_for PassesOwn.never rfl (pi_range1 rfl gR (pa_cons (pv 2) pa_nil)) (pg_name (i := 6) scRows.nd rfl (Or.inr rfl))
        (pss_cons (ps_setLc (i := 7) (own := [("_law_column", 8)]) (g := gName 8) (tt := tYes) rfl scRows.nd rfl rfl (sw_true rfl rfl rfl (by decide +kernel)) (pi_range1 rfl gR (pa_cons (pv 3) pa_nil)) (blkOk_by (N := nRows) (sc := defScope s_law_rows) (by decide +kernel)) (fun _ _ _ _ _ => pg_name (i := 8) scRows.nd rfl (Or.inl rfl)) (fun _ _ _ _ _ => pts_nil)
            (fun _ _ _ _ _ => pe_ix ix_str (pv 4) (pe_op op_modN (pe_call GN hr rfl gN kN bN .nil pass0 (pa_cons (pv 0) (pa_cons (pe_op op_add (pe_op op_mul (pv 6) (pv 3)) (pv 8)) pa_nil))) (pe_callB call_len_str (by rfl) gL PySem.boot_len (pa_cons (pv 4) pa_nil))) (fun _ _ => rfl)))
        (pss_one (ps_expr (pe_bm PySem.F.plainAttrs_list PySem.F.slot_list_append PySem.F.type_list_append mt_append (pv 5) (pa_cons (pe_join pe_str (pv 7)) pa_nil))))))
      (pss_one (ps_ret (pv 5))))))))))), ?_⟩
    refine ⟨_, rfl, a, ns, 0, rfl, hS, ?_⟩
    refine ⟨_, rfl, _, _, rfl, rfl, (by show (0 : Int) < 7; decide), ?_⟩
    refine ⟨_, rfl, _, _, rfl, rfl, ⟨by decide, by decide⟩, _, _, rfl, rfl, (by show (0 : Int) < 7; decide), ?_⟩
    generalize cellN ns 0 = first
    let Mid : L2.St → Hp → Prop := fun σ' H' => ∃ hi wd : Nat, hi ≤ 12 ∧ wd ≤ 12 ∧ H = H' ∧ σ' = [some (.ref a), some (.int first), some (.int hi), some (.int wd), none, none, none, none, none]
    have mk : ∀ {i j : Int} {k1 k2 : Int}, 0 < k1 → k1 ≤ 13 → 0 < k2 → k2 ≤ 13 → Mid [some (.ref a), some (.int first), some (.int (i % k1)), some (.int (j % k2)), none, none, none, none, none] H := fun {i j k1 k2} h1 h2 h3 h4 => by
      obtain ⟨n1, e1, l1⟩ := mod_nat i h1
      obtain ⟨n2, e2, l2⟩ := mod_nat j h3
      exact ⟨n1, n2, by omega, by omega, rfl, by rw [e1, e2]⟩
    refine ⟨Mid, ?_, ?_⟩
    · refine ⟨_, rfl, _, _, rfl, rfl, ⟨by decide, by decide⟩, _, _, rfl, rfl, (by show (0 : Int) < 8; decide), rfl, _, rfl, ?_⟩
      refine ite2 (fun hc => ?_) (fun hc => ?_)
      · refine ⟨_, rfl, _, _, rfl, rfl, ⟨by decide, by decide⟩, _, _, rfl, rfl, (by show (0 : Int) < 13; decide), ?_⟩
        refine ⟨_, rfl, _, _, rfl, rfl, ⟨by decide, by decide⟩, _, _, rfl, rfl, (by show (0 : Int) < 5; decide), ?_⟩
        exact mk (by decide) (by decide) (by decide) (by decide)
      · exact mk (by decide) (by decide) (by decide) (by decide)
    rintro _ _ ⟨hi, wd, h1, h2, rfl, rfl⟩
    refine ⟨Mid, ?_, ?_⟩
    · refine ⟨_, rfl, _, _, rfl, rfl, ⟨by decide, by decide⟩, _, _, rfl, rfl, (by show (0 : Int) < 8; decide), rfl, _, rfl, ?_⟩
      refine ite2 (fun hc => ?_) (fun hc => ?_)
      · refine ⟨_, rfl, _, _, rfl, rfl, ⟨by decide, by decide⟩, _, _, rfl, rfl, (by show (0 : Int) < 5; decide), ?_⟩
        refine ⟨_, rfl, _, _, rfl, rfl, ⟨by decide, by decide⟩, _, _, rfl, rfl, (by show (0 : Int) < 13; decide), ?_⟩
        exact mk (by decide) (by decide) (by decide) (by decide)
      · exact ⟨hi, wd, h1, h2, rfl, rfl⟩
    clear h1 h2
    rintro _ _ ⟨hi, wd, h1, h2, rfl, rfl⟩
    refine ⟨Mid, ?_, ?_⟩
    · refine ⟨_, rfl, _, _, rfl, rfl, ⟨by decide, by decide⟩, _, _, rfl, rfl, (by show (0 : Int) < 8; decide), rfl, _, rfl, ?_⟩
      refine ite2 (fun hc => ?_) (fun hc => ?_)
      · refine ⟨_, rfl, _, _, rfl, rfl, ⟨by decide, by decide⟩, _, _, rfl, rfl, (by show (0 : Int) < 4; decide), rfl, _, rfl, ?_⟩
        refine ite2 (fun hc => ?_) (fun hc => ?_)
        · refine ⟨_, rfl, _, _, rfl, rfl, ⟨by decide, by decide⟩, _, _, rfl, rfl, (by show (0 : Int) < 13; decide), ?_⟩
          refine ⟨_, rfl, _, _, rfl, rfl, ⟨by decide, by decide⟩, _, _, rfl, rfl, (by show (0 : Int) < 13; decide), ?_⟩
          exact mk (by decide) (by decide) (by decide) (by decide)
        · exact ⟨hi, wd, h1, h2, rfl, rfl⟩
      · exact ⟨hi, wd, h1, h2, rfl, rfl⟩
    clear h1 h2
    rintro _ _ ⟨hi, wd, h1, h2, rfl, rfl⟩
    clear mk Mid
    -- the menu
    refine ⟨(by show 6 ≤ sizeLine; decide), fun lm hlm => ?_⟩
    have s0 : Same H (upd H lm (.lst (menus.map V.str))) := Same.new hlm
    refine ⟨_, rfl, a, ns, 1, rfl, s0.seq hS, _, _, rfl, rfl, (by show (0 : Int) < 6; decide), ?_⟩
    obtain ⟨mi, hmi, hml⟩ := mod_nat (cellN ns 1) (k := 6) (by decide)
    have hml2 : mi < 6 := by omega
    obtain ⟨z, hz⟩ : ∃ z, menus[mi]? = some z := ⟨_, List.getElem?_eq_getElem (show mi < menus.length from hml2)⟩
    have Z := menu_ok z (List.mem_of_getElem? hz)
    refine ⟨lm, menus.map V.str, _, .str z, rfl, rfl, .inl (.inl upd_same), at_of hmi (by rw [List.getElem?_map, hz] <;> rfl), ?_⟩
    refine ⟨(by show 0 ≤ sizeLine; decide), fun lr hlr => ?_⟩
    have s1 : Same H (upd (upd H lm (.lst (menus.map V.str))) lr (.lst [])) := s0.trans (Same.new hlr)
    have hlr0 : H lr = none := s0.free hlr
    -- for row in range(high)
    refine ⟨_, rfl, (hi : Int), rfl, by omega, by omega, for_range (n := (hi : Int).toNat) (fun i σ H2 => ∃ (ws : List Str) (v6 v7 : Option V), σ = [some (.ref a), some (.int first), some (.int hi), some (.int wd), some (.str z), some (.ref lr), v6, v7, none] ∧ Same H H2 ∧ H2 lr = some (.lst (ws.map V.str)) ∧ ws.length = i ∧ (∀ x ∈ ws, x.length = wd) ∧ ∀ x ∈ ws, ∀ c ∈ x.cps.toList, okSign c)
      ⟨[], none, none, rfl, s1, upd_same, rfl, (fun x hx => by cases hx), fun x hx => by cases hx⟩ ?_ ?_⟩
    · rintro i σ H2 hi2 ⟨ws, v6, v7, rfl, s2, hw, hwl, hw1, hw2⟩
      have hil : i < hi := by omega
      -- signs = [..]
      refine ⟨_, rfl, (wd : Int), rfl, by omega, by omega, fun D hD => ?_⟩
      refine lc_range (lo := 0) (n := (wd : Int).toNat) (fun j H3 => ∃ ys : List Str, Same H2 H3 ∧ H3 D = some (.lst (ys.map V.str)) ∧ ys.length = j ∧ (∀ y ∈ ys, y.length = 1) ∧ ∀ y ∈ ys, ∀ c ∈ y.cps.toList, okSign c) ?_ ?_ ?_
      · exact ⟨[], Same.new hD, upd_same, rfl, fun x hx => (by cases hx), fun x hx => (by cases hx)⟩
      · rintro j H3 hj ⟨ys, s3, hD3, hyl, hy1, hy2⟩
        have hjl : j < wd := by omega
        refine ⟨rfl, ?_⟩
        refine ⟨_, rfl, _, rfl, _, rfl, _, rfl, _, _, rfl, rfl, .inl ⟨by omega, by omega⟩, _, rfl, _, _, rfl, rfl, a, ns, i * wd + j, ?_, s3.seq (s2.seq hS), hl, ?_, fun r => ?_⟩
        · show [V.ref a, V.int ((0 + (i : Int)) * (wd : Int) + (0 + (j : Int)))] = [V.ref a, V.int ((i * wd + j : Nat) : Int)]
          rw [Int.zero_add, Int.zero_add, Int.natCast_add, Int.natCast_mul]
        · have : i * wd ≤ 12 * 12 := Nat.mul_le_mul (by omega) h2
          omega
        · have hp := Z.pos
          have hs8 := Z.sm
          have hzs : z.length ≤ sizeLine := Nat.le_trans hs8 (by decide)
          refine ⟨_, rfl, z, rfl, hzs, _, _, rfl, rfl, by omega, ?_⟩
          have hm0 : 0 ≤ Int.fmod r (z.length : Int) := Int.fmod_nonneg_of_pos _ (by omega)
          have hm1 : Int.fmod r (z.length : Int) < (z.length : Int) := Int.fmod_lt_of_pos _ (by omega)
          obtain ⟨jj, hjj⟩ : ∃ jj : Nat, Int.fmod r (z.length : Int) = (jj : Int) := ⟨(Int.fmod r (z.length : Int)).toNat, (Int.toNat_of_nonneg hm0).symm⟩
          have hjj2 : jj < z.cps.size := by
            have : (z.length : Int) = (z.cps.size : Int) := rfl
            omega
          have hcc : z.cps.toList[jj]? = some z.cps[jj] := by rw [Array.getElem?_toList, Array.getElem?_eq_getElem hjj2]
          refine ⟨z, _, z.cps[jj], rfl, rfl, hzs, by rw [hjj]; exact atI_nat hcc, ys.map V.str, hD3, ?_, ys ++ [⟨#[z.cps[jj]]⟩], ?_, ?_, ?_, ?_, ?_⟩
          · rw [List.length_map]
            exact small1000 (by omega)
          · exact fun b o e => by rw [upd_ne (ne_of_none e hD)]; exact s3 b o e
          · rw [upd_same, List.map_append] <;> rfl
          · rw [List.length_append, hyl] <;> rfl
          · intro y hy
            rcases List.mem_append.mp hy with q | q
            · exact hy1 y q
            · rw [List.mem_singleton.mp q] <;> rfl
          · intro y hy c hc
            rcases List.mem_append.mp hy with q | q
            · exact hy2 y q c hc
            · rw [List.mem_singleton.mp q] at hc
              have e : c = z.cps[jj] := List.mem_singleton.mp hc
              rw [e]
              exact Z.sg _ (List.mem_of_getElem? hcc)
      · rintro H3 ⟨ys, s3, hD3, hyl, hy1, hy2⟩
        have hyl2 : ys.length = wd := by omega
        have nD : D ≠ lr := fun e => by rw [e, hw] at hD; cases hD
        have jl : (Gx2.flat ys).length = wd := by rw [len_flat1 hy1, hyl2]
        have jc : (Txt.join ("" : Str) ys).cps.toList = Gx2.flat ys := join_flat ys
        have jlen : (Txt.join ("" : Str) ys).length = wd := by
          show (Txt.join ("" : Str) ys).cps.size = wd
          rw [← Array.length_toList, jc, jl]
        have hw3 : H3 lr = some (.lst (ws.map V.str)) := s3 _ _ hw
        refine ⟨_, rfl, .inl ⟨rfl, _, SqL.of hw3⟩, ⟨_, rfl⟩, _, rfl, _, D, ys, rfl, rfl, .inl (SqL.of hD3), ?_, ?_⟩
        · rw [sum_len (n := 0) hy1, hyl2, empty_len]
          omega
        · refine ⟨lr, _, _, rfl, rfl, hw3, by rw [List.length_map]; exact small1000 (by omega), ?_⟩
          refine ⟨ws ++ [Txt.join ("" : Str) ys], _, _, rfl, ?_, ?_, ?_, ?_, ?_⟩
          · exact fun b o e => by rw [upd_ne (ne_of_none e hlr0)]; exact s3 b o (s2 b o e)
          · rw [upd_same, List.map_append] <;> rfl
          · rw [List.length_append, hwl] <;> rfl
          · intro x hx
            rcases List.mem_append.mp hx with q | q
            · exact hw1 x q
            · rw [List.mem_singleton.mp q]
              exact jlen
          · intro x hx c hc
            rcases List.mem_append.mp hx with q | q
            · exact hw2 x q c hc
            · rw [List.mem_singleton.mp q, jc] at hc
              obtain ⟨y, hy, hcy⟩ := List.mem_flatMap.mp hc
              exact hy2 y hy c hcy
    · rintro σ H2 ⟨ws, v6, v7, rfl, s2, hw, hwl, hw1, hw2⟩
      exact ⟨_, rfl, hQ lr ws H2 (Wf.of (by omega) hw1 h2 hw2) s2 hlr0 hw⟩
end
end Sf
namespace Sf
open PySem L2 Gx2
/-- a def whose code object stands at c -/
structure FunC (K : PySem.W.Frag) (x qual : Str) (st : Stmt) (f : Addr) (fd : FuncData) (c : Addr) : Prop where
  ex : ∃ (oc : Value) (od : Option Addr) (kV doc pm : Value) (an : Option Addr) (ct : Value) (osl : Array (Option Value)),
    fd = PySem.W.fnOf x qual (defArgs st) (defBody st) (defScope st) .none kV doc pm an (.ref c) ct ∧ K.lookup f = some ⟨oc, od, .func fd, osl⟩ ∧ PySem.W.codeIn K (.ref c) qual = true
  kp : PySem.W.keepIn K (.ref f) = true
/-- _refuse_wrong of rows that are a floor's -/
def spRefuse (K : PySem.W.Frag) (P : Addr) : Sp := fun vs H Q _ => ∃ (l : Addr) (ws : List Str), vs = [.ref l] ∧ SqL K H l (ws.map V.str) ∧ Wf ws ∧ GxR.TabG H P ∧ ∀ H', Sm P H H' → Q .non H'
theorem any_false {α : Type} {l : List α} {p : α → Bool} (h : ∀ a ∈ l, p a = false) : l.any p = false := by
  rw [List.any_eq_false]
  intro a ha
  rw [h a ha]
  exact Bool.false_ne_true
theorem free_none {names : List (Str × NameKind)} {cells : List (Str × Addr)} (h : (names.all fun y => !decide (y.2 = .free)) = true) : ∀ y ∈ names, y.2 = .free → ∃ c, cells.lookup y.1 = some c := fun y hy e => by
  have q := List.all_eq_true.mp h y hy
  rw [e] at q
  cases q
theorem free_one {names : List (Str × NameKind)} {cells : List (Str × Addr)} {x : Str} {c : Addr} (h : (names.all fun y => !decide (y.2 = .free) || decide (y.1 = x)) = true) (hc : cells.lookup x = some c) : ∀ y ∈ names, y.2 = .free → ∃ c, cells.lookup y.1 = some c := fun y hy e => by
  have q := List.all_eq_true.mp h y hy
  rw [e] at q
  have q2 : y.1 = x := by simpa using q
  rw [q2]
  exact ⟨c, hc⟩
theorem iteTd {c A B : Prop} [Decidable c] (hc : c) (h : A) : if decide c = true then A else B := by
  rw [decide_eq_true hc]
  exact iteT h
theorem iteNS2 {c A B : Prop} [Decidable c] (hc : ¬ c) (h : B) : if decide c = true then A else B := by
  rw [decide_eq_false hc]
  exact iteF h
section
variable {P : Program} {w : World} {K : PySem.W.Frag} {mg : Str → Option Value} {base : Heap}
theorem scRefuse : FnScope ["rows"] ["rows"] (defScope s_refuse_wrong) := ⟨rfl, rfl, rfl, by decide +kernel, rfl, by decide +kernel, by decide +kernel⟩
theorem ok_refuse {f c Pt : Addr} {fd : FuncData} {tM tS : Tok} (F : FunC K "_refuse_wrong" "_refuse_wrong" s_refuse_wrong f fd c) (TB : GxR.TabB base mg c Pt) (gL : mg "len" = none) (gA : mg "any" = none) (gM : mg "MOST" = some (.int 12 tM)) (gS : mg "SIGNS" = some (.str ".-|#" tS)) :
    FnOk P w K mg base CX0 1 f fd ["rows"] (spRefuse K Pt) := by
  obtain ⟨oc, od, kV, doc, pm, an, ct, osl, rfl, lk, hcd⟩ := F.ex
  refine fn_of lk hcd scRefuse (fun vs H Q E h => ?_) fun A outer s H vs Q E hr hsp => ?_
  · obtain ⟨l, ws, rfl, _⟩ := h
    rfl
  · obtain ⟨l, ws, rfl, hS, hw, hT, hQ⟩ := hsp
    have hs1000 : ∀ a ∈ ws, a.length ≤ 1000 := fun a ha => by
      have := hw.len a ha
      have := hw.wid
      omega
    refine ⟨_, pss_cons (ps_if (PW.pt (pw_or (pt_cmpR op_gt (pe_callB call_len (by rfl) gL PySem.boot_len (pa_cons (pv 0) pa_nil)) (pe_glob (v := .int 12) rfl gM ⟨_, rfl⟩) (nomark _))
        (pw_or1 (pt_val (pe_any1 hr rfl gA TB rfl ⟨rfl, rfl, by decide +kernel, rfl, rfl, free_none (by decide +kernel)⟩ (pv 0) (elt_gt rfl rfl rfl rfl gL gM) (fun _ => rfl)))))) (pss_one ps_never) pss_nil)
      (pss_cons (ps_if (pt_val (pe_any1 hr rfl gA TB rfl ⟨rfl, rfl, by decide +kernel, rfl, rfl, free_one (by decide +kernel) (x := "rows") (c := s.heap.objs.size + 1) rfl⟩ (pv 0) (elt_ne (i := 0) rfl rfl rfl rfl (fun c hc => by (show (List.lookup _ [(_, (List.lookup _ _).getD 0)]) = _; rw [hc]; rfl)) rfl rfl gL) (fun _ => rfl))) (pss_one ps_never) pss_nil)
      (pss_one (ps_if (pt_val (pe_any2 hr rfl gA TB rfl ⟨rfl, rfl, by decide +kernel, rfl, rfl, free_none (by decide +kernel)⟩ rfl rfl (pv 0) (elt_notin rfl rfl rfl gS TB.gP) (fun _ => rfl))) (pss_one ps_never) pss_nil))), ?_⟩
    refine ⟨_, rfl, _, _, rfl, .inl ⟨_, hS, rfl⟩, _, _, rfl, rfl, _, rfl, ?_⟩
    have hh := hw.high
    refine iteNS2 (by rw [List.length_map]; omega) ?_
    refine ⟨_, rfl, l, ws, rfl, hS, hs1000, hT, fun H1 hT1 => ?_⟩
    have S1 := Sm.tabbed hT1
    have e1 : ws.any (fun a => decide ((12 : Int) < (a.length : Int))) = false := any_false fun a ha => decide_eq_false (by have := hw.len a ha; have := hw.wid; omega)
    refine ⟨_, rfl, ?_⟩
    rw [e1]
    refine iteF ?_
    refine ⟨_, rfl, l, ws, rfl, S1.seq hT hS, ⟨hs1000, rfl⟩, hT1.1, fun H2 hT2 => ?_⟩
    have S2 := S1.trans (Sm.tabbed hT2)
    have e2 : ws.any (fun a => (a.length : Int) != ((ws.headD "").length : Int)) = false := any_false fun a ha => by
      have := hw.len a ha
      rw [this]
      exact bne_self_eq_false _
    refine ⟨_, rfl, ?_⟩
    rw [e2]
    refine iteF ?_
    refine ⟨_, rfl, l, ws, rfl, S2.seq hT hS, hT2.1, fun H3 hT3 => ?_⟩
    have S3 := S2.trans (Sm.tabbed hT3)
    have e3 : (flat ws).any (fun c => !decide (c ∈ (".-|#" : Str).cps.toList)) = false := any_false fun c hc => by
      obtain ⟨a, ha, hca⟩ := List.mem_flatMap.mp hc
      have q := hw.sign a ha c hca
      have ez : (".-|#" : Str).cps.toList = [46, 45, 124, 35] := by decide +kernel
      rw [ez]
      unfold okSign at q
      rcases q with q | q | q | q <;> (rw [q]; decide)
    refine ⟨_, rfl, ?_⟩
    rw [e3]
    refine iteF ?_
    exact hQ _ S3
end
end Sf
namespace Sf
open PySem L2
/-! ### the floor as plain functions -/
def signAt (ws : List Str) (r c : Nat) : Nat := (ws.getD r ("" : Str)).cps.getD c 35
def sgN (ws : List Str) (r c : Int) : Nat := if 0 ≤ r ∧ r < (ws.length : Int) ∧ 0 ≤ c ∧ c < (wide ws : Int) then signAt ws r.toNat c.toNat else 35
def sg1 (n : Nat) : Str := ⟨#[n]⟩
def steps : List (Int × Int × Str) := [(-1, 0, ".|"), (0, -1, ".-"), (0, 1, ".-"), (1, 0, ".|")]
def tk (z : Str) (n : Nat) : Bool := decide (n ∈ z.cps.toList)
def stepOk (ws : List Str) (r c : Int) (p : Int × Int × Str) : Bool := tk p.2.2 (sgN ws r c) && tk p.2.2 (sgN ws (r + p.1) (c + p.2.1))
def stepTo (wd : Nat) (r c : Int) (p : Int × Int × Str) : Int := (r + p.1) * (wd : Int) + c + p.2.1
def nbs (ws : List Str) (r c : Int) : List Int := (steps.filter (stepOk ws r c)).map (stepTo (wide ws) r c)
theorem Same.sqT {K : PySem.W.Frag} {H H' : Hp} {a : Addr} {xs : List V} (e : Same H H') (h : SqT K H a xs) : SqT K H' a xs := by
  rcases h with (h | ⟨o, h⟩) | h
  · exact .inl (.inl (e _ _ h))
  · exact .inl (.inr ⟨o, e _ _ h⟩)
  · exact .inr h
theorem row_at {ws : List Str} {r : Nat} (h : r < ws.length) : ws[r]? = some (ws.getD r ("" : Str)) := by
  rw [List.getD_eq_getElem?_getD, List.getElem?_eq_getElem h] <;> rfl
theorem Wf.rlen {ws : List Str} (w : Wf ws) {r : Nat} (h : r < ws.length) : (ws.getD r ("" : Str)).length = wide ws := w.len _ (List.mem_of_getElem? (row_at h))
theorem sign_at {ws : List Str} (w : Wf ws) {r c : Nat} (h : r < ws.length) (hc : c < wide ws) : (ws.getD r ("" : Str)).cps.toList[c]? = some (signAt ws r c) := by
  have e : (ws.getD r ("" : Str)).cps.size = wide ws := w.rlen h
  have hc2 : c < (ws.getD r ("" : Str)).cps.size := by omega
  unfold signAt
  rw [Array.getElem?_toList, Array.getElem?_eq_getElem hc2, Array.getD_eq_getD_getElem?, Array.getElem?_eq_getElem hc2] <;> rfl
theorem sgN_in {ws : List Str} {r c : Nat} (h : r < ws.length) (hc : c < wide ws) : sgN ws (r : Int) (c : Int) = signAt ws r c := by
  unfold sgN
  rw [if_pos ⟨by omega, by omega, by omega, by omega⟩]
  rfl
theorem str_at {ws : List Str} {r : Nat} (h : r < ws.length) : (ws.map V.str)[r]? = some (V.str (ws.getD r ("" : Str))) := by
  rw [List.getElem?_map, row_at h] <;> rfl
def spSignAt (K : PySem.W.Frag) : Sp := fun vs H Q _ => ∃ (l : Addr) (ws : List Str) (r c : Int), vs = [.ref l, .int r, .int c] ∧ SqT K H l (ws.map V.str) ∧ Wf ws ∧ Q (.str (sg1 (sgN ws r c))) H
def spNbs (K : PySem.W.Frag) : Sp := fun vs H Q _ => ∃ (l : Addr) (ws : List Str) (r c : Nat), vs = [.ref l, .int r, .int c] ∧ SqT K H l (ws.map V.str) ∧ Wf ws ∧ r < ws.length ∧ c < wide ws ∧
  ∀ (lf : Addr) (H' : Hp), Same H H' → H lf = none → H' lf = some (.lst ((nbs ws r c).map V.int)) → Q (.ref lf) H'
/-- STEPS, as the top has written it -/
def StepsAt (K : PySem.W.Frag) (t0 : Addr) : Prop := ∃ ts : List Addr, ts.length = 4 ∧ (∀ H, SqT K H t0 (ts.map V.ref)) ∧ ∀ (i : Nat) (t : Addr) (p : Int × Int × Str), ts[i]? = some t → steps[i]? = some p → ∀ H, SqT K H t [.int p.1, .int p.2.1, .str p.2.2]
section
variable {P : Program} {w : World} {K : PySem.W.Frag} {mg : Str → Option Value} {base : Heap}
theorem scSignAt : FnScope ["rows", "row", "column"] ["rows", "row", "column"] (defScope s_sign_at) := ⟨rfl, rfl, rfl, by decide +kernel, rfl, by decide +kernel, by decide +kernel⟩
theorem ok_signAt {f : Addr} {fd : FuncData} {tP : Tok} (F : Fun K "_sign_at" "_sign_at" s_sign_at f fd) (gL : mg "len" = none) (gP : mg "PILLAR" = some (.str "#" tP)) : FnOk P w K mg base CX0 1 f fd ["rows", "row", "column"] (spSignAt K) := by
  refine F.ok scSignAt (fun vs H Q E h => ?_) (fun cdv A outer s H vs Q E hr h => ?_)
  · obtain ⟨l, ws, r, c, rfl, _⟩ := h
    rfl
  · obtain ⟨l, ws, r, c, rfl, hS, hw, hQ⟩ := h
    have hh := hw.high
    have hwd := hw.wid
    have eP : ("#" : Str) = sg1 35 := by decide +kernel
    have out : ¬ (0 ≤ r ∧ r < (ws.length : Int) ∧ 0 ≤ c ∧ c < (wide ws : Int)) → Q (.str ("#" : Str)) H := fun hn => by
      rw [eP]
      have e : sgN ws r c = 35 := by
        unfold sgN
        rw [if_neg hn]
      rw [e] at hQ
      exact hQ
    refine ⟨_, pss_cons (ps_if (PW.pt (pw_and (pt_chain op_le op_lt pe_int (pv 1) (pe_callB call_len (by rfl) gL PySem.boot_len (pa_cons (pv 0) pa_nil)))
        (pw_and1 (pt_chain op_le op_lt pe_int (pv 2) (pe_callB call_len_str (by rfl) gL PySem.boot_len (pa_cons (pe_ix ix_tup (pv 0) (pv 1) (fun _ _ => rfl)) pa_nil)))))) (pss_one (ps_ret (pe_ix ix_str (pe_ix ix_tup (pv 0) (pv 1) (fun _ _ => rfl)) (pv 2) (fun _ _ => rfl)))) pss_nil)
      (pss_one (ps_ret (pe_glob (v := .str "#") rfl gP ⟨_, rfl⟩))), ?_⟩
    refine ⟨_, rfl, _, _, rfl, rfl, _, rfl, ?_⟩
    refine ite2 (fun h1 => ?_) (fun h1 => ?_)
    · have h1' : 0 ≤ r := of_decide_eq_true h1
      refine ⟨_, rfl, _, _, rfl, .inr ⟨_, hS, rfl⟩, _, _, rfl, rfl, _, rfl, ?_⟩
      rw [List.length_map]
      refine ite2 (fun h2 => ?_) (fun h2 => ?_)
      · have h2' : r < (ws.length : Int) := of_decide_eq_true h2
        obtain ⟨rn, rfl⟩ : ∃ rn : Nat, r = (rn : Int) := ⟨r.toNat, by omega⟩
        have hrn : rn < ws.length := by omega
        have hlr := hw.rlen hrn
        refine ⟨_, rfl, _, _, rfl, rfl, _, rfl, ?_⟩
        refine ite2 (fun h3 => ?_) (fun h3 => ?_)
        · have h3' : 0 ≤ c := of_decide_eq_true h3
          refine ⟨_, rfl, _, rfl, _, _, _, _, rfl, rfl, hS, atI_nat (str_at hrn), _, rfl, Nat.le_trans (by rw [hlr]; exact hwd) (by decide), _, _, rfl, rfl, _, rfl, ?_⟩
          rw [hlr]
          refine ite2 (fun h4 => ?_) (fun h4 => ?_)
          · have h4' : c < (wide ws : Int) := of_decide_eq_true h4
            obtain ⟨cn, rfl⟩ : ∃ cn : Nat, c = (cn : Int) := ⟨c.toNat, by omega⟩
            have hcn : cn < wide ws := by omega
            refine ⟨_, rfl, _, rfl, _, _, _, _, rfl, rfl, hS, atI_nat (str_at hrn), _, rfl, _, _, _, rfl, rfl, Nat.le_trans (by rw [hlr]; exact hwd) (by decide), atI_nat (sign_at hw hrn hcn), ?_⟩
            rw [sgN_in hrn hcn] at hQ
            exact hQ
          · exact out fun q => h4 (decide_eq_true q.2.2.2)
        · exact ⟨false, rfl, out fun q => h3 (decide_eq_true q.2.2.1)⟩
      · exact out fun q => h2 (decide_eq_true q.2.1)
    · exact ⟨false, rfl, out fun q => h1 (decide_eq_true q.1)⟩
def nNbs : List Str := ["rows", "row", "column", "wide", "sign", "found", "down", "right", "takers"]
theorem scNbs : FnScope nNbs ["rows", "row", "column"] (defScope s_neighbours) := ⟨rfl, rfl, rfl, by decide +kernel, rfl, by decide +kernel, by decide +kernel⟩
theorem ok_nbs {f fs t0 : Addr} {fd fds : FuncData} (F : Fun K "_neighbours" "_neighbours" s_neighbours f fd) (GS : FnOk P w K mg base CX0 1 fs fds ["rows", "row", "column"] (spSignAt K)) (gS : mg "_sign_at" = some (.ref fs)) (kS : PySem.W.keepIn K (.ref fs) = true) (bS : Binds K fds ["rows", "row", "column"] [])
    (gL : mg "len" = none) (gT : mg "STEPS" = some (.ref t0)) (T : StepsAt K t0) : FnOk P w K mg base CX0 2 f fd ["rows", "row", "column"] (spNbs K) := by
  refine F.ok scNbs (fun vs H Q E h => ?_) (fun cdv A outer s H vs Q E hr h => ?_)
  · obtain ⟨l, ws, r, c, rfl, _⟩ := h
    rfl
  · obtain ⟨l, ws, r, c, rfl, hS, hw, hr1, hc1, hQ⟩ := h
    have hh := hw.high
    have hwd := hw.wid
    have hlr := hw.rlen hr1
    have sz : (ws.getD r ("" : Str)).length ≤ sizeLine := Nat.le_trans (by rw [hlr]; exact hwd) (by decide)
    obtain ⟨ts, htl, hT0, hT⟩ := T
    refine ⟨_, pss_cons (ps_set (i := 3) scNbs.nd rfl (Or.inl rfl) (pe_callB call_len_str (by rfl) gL PySem.boot_len (pa_cons (pe_ix ix_tup (pv 0) (pv 1) (fun _ _ => rfl)) pa_nil)))
      (pss_cons (ps_set (i := 4) scNbs.nd rfl (Or.inl rfl) (pe_ix ix_str (pe_ix ix_tup (pv 0) (pv 1) (fun _ _ => rfl)) (pv 2) (fun _ _ => rfl)))
      (pss_cons (ps_set (i := 5) scNbs.nd rfl (Or.inl rfl) (pe_lst pa_nil))
      (pss_cons (ps_for PassesOwn.never rfl (pi_tup (pe_glob (v := .ref t0) rfl gT rfl)) (pg_tup (by rfl) (pgs_cons (pg_name (i := 6) scNbs.nd rfl (Or.inl rfl)) (pgs_cons (pg_name (i := 7) scNbs.nd rfl (Or.inl rfl)) (pgs_cons (pg_name (i := 8) scNbs.nd rfl (Or.inl rfl)) pgs_nil))))
        (pss_one (ps_if (PW.pt (pw_and (pt_cmpR op_in_sign (pv 4) (pv 8) rfl) (pw_and1 (pt_cmpR op_in_sign (pe_call GS hr rfl gS kS bS .nil pass0 (pa_cons (pv 0) (pa_cons (pe_op op_add (pv 1) (pv 6)) (pa_cons (pe_op op_add (pv 2) (pv 7)) pa_nil)))) (pv 8) rfl))))
          (pss_one (ps_expr (pe_bm PySem.F.plainAttrs_list PySem.F.slot_list_append PySem.F.type_list_append mt_append (pv 5) (pa_cons (pe_op op_add (pe_op op_add (pe_op op_mul (pe_op op_add (pv 1) (pv 6)) (pv 3)) (pv 2)) (pv 7)) pa_nil)))) pss_nil)))
      (pss_one (ps_ret (pv 5)))))), ?_⟩
    refine ⟨_, rfl, _, rfl, _, _, _, _, rfl, rfl, hS, atI_nat (str_at hr1), _, rfl, sz, ?_⟩
    rw [hlr]
    refine ⟨_, rfl, _, rfl, _, _, _, _, rfl, rfl, hS, atI_nat (str_at hr1), _, rfl, _, _, _, rfl, rfl, sz, atI_nat (sign_at hw hr1 hc1), ?_⟩
    refine ⟨(by show 0 ≤ sizeLine; decide), fun lf hlf => ?_⟩
    refine ⟨t0, rfl, ⟨_, hT0 _⟩, for_tup (K := K) (a := t0) (xs := ts.map V.ref) (fun i σ H2 => ∃ v6 v7 v8 : Option V, σ = [some (.ref l), some (.int r), some (.int c), some (.int (wide ws)), some (.str ⟨#[signAt ws r c]⟩), some (.ref lf), v6, v7, v8] ∧ Same H H2 ∧
      H2 lf = some (.lst ((((steps.take i).filter (stepOk ws r c)).map (stepTo (wide ws) r c)).map V.int))) ⟨none, none, none, rfl, Same.new hlf, upd_same⟩ (fun _ _ _ _ _ => hT0 _) ?_ ?_⟩
    · rintro i y σ H2 hi ⟨v6, v7, v8, rfl, s2, h5⟩
      have hil : i < 4 := by
        have := (List.getElem?_eq_some_iff.mp hi).1
        rw [List.length_map] at this
        omega
      obtain ⟨t, ht, rfl⟩ : ∃ t, ts[i]? = some t ∧ y = V.ref t := by
        rw [List.getElem?_map] at hi
        cases e : ts[i]? with
        | none => rw [e] at hi; cases hi
        | some t => rw [e] at hi; exact ⟨t, rfl, (Option.some.inj hi).symm⟩
      obtain ⟨p, hp⟩ : ∃ p, steps[i]? = some p := ⟨_, List.getElem?_eq_getElem (show i < steps.length from hil)⟩
      obtain ⟨d, e, z⟩ := p
      have hstep := hT i t _ ht hp
      have tke : steps.take (i + 1) = steps.take i ++ [(d, e, z)] := by
        rw [List.take_add_one, hp] <;> rfl
      have en : sgN ws (r : Int) (c : Int) = signAt ws r c := sgN_in hr1 hc1
      have noK : ¬ stepOk ws r c (d, e, z) = true → ((steps.take (i + 1)).filter (stepOk ws r c)).map (stepTo (wide ws) r c) = ((steps.take i).filter (stepOk ws r c)).map (stepTo (wide ws) r c) := fun hn => by
        rw [tke, List.filter_append, List.filter_cons_of_neg hn, List.filter_nil, List.append_nil]
      have yesK : stepOk ws r c (d, e, z) = true → ((steps.take (i + 1)).filter (stepOk ws r c)).map (stepTo (wide ws) r c) = ((steps.take i).filter (stepOk ws r c)).map (stepTo (wide ws) r c) ++ [stepTo (wide ws) r c (d, e, z)] := fun hn => by
        rw [tke, List.filter_append, List.filter_cons_of_pos hn, List.filter_nil, List.map_append] <;> rfl
      have hdb : d.natAbs ≤ 1 ∧ e.natAbs ≤ 1 := by
        have : ∀ q ∈ steps, q.1.natAbs ≤ 1 ∧ q.2.1.natAbs ≤ 1 := by decide +kernel
        exact this _ (List.mem_of_getElem? hp)
      refine ⟨t, _, rfl, hstep _, rfl, _, _, rfl, _, _, rfl, _, _, rfl, rfl, ?_⟩
      refine ⟨_, rfl, _, rfl, _, _, rfl, rfl, _, rfl, ?_⟩
      refine ite2 (fun h1 => ?_) (fun h1 => ?_)
      · refine ⟨_, rfl, _, rfl, _, rfl, _, _, rfl, rfl, _, rfl, _, rfl, _, _, rfl, rfl, l, ws, _, _, rfl, Same.sqT s2 hS, hw, ?_⟩
        refine ⟨_, rfl, _, _, rfl, rfl, _, rfl, ?_⟩
        refine ite2 (fun h2 => ?_) (fun h2 => ?_)
        · have hok : stepOk ws r c (d, e, z) = true := by
            unfold stepOk tk
            rw [en]
            exact Bool.and_eq_true_iff.mpr ⟨h1, h2⟩
          refine ⟨_, rfl, .inl ⟨rfl, _, SqL.of h5⟩, _, rfl, _, rfl, _, _, rfl, rfl, _, rfl, _, _, rfl, rfl, .inl ⟨by omega, by omega⟩, _, rfl, _, _, rfl, rfl, _, rfl, _, _, rfl, rfl, lf, _, _, rfl, rfl, h5, ?_, ?_⟩
          · rw [List.length_map, List.length_map]
            refine small1000 (Nat.le_trans (List.length_filter_le _ _) ?_)
            rw [List.length_take]
            omega
          · refine ⟨_, _, _, rfl, ?_, ?_⟩
            · exact fun b o q => by rw [upd_ne (ne_of_none q hlf)]; exact s2 b o q
            · rw [upd_same, yesK hok, List.map_append] <;> rfl
        · refine ⟨_, _, _, rfl, s2, ?_⟩
          rw [noK]
          · exact h5
          · intro q
            unfold stepOk tk at q
            exact h2 (Bool.and_eq_true_iff.mp q).2
      · refine ⟨_, _, _, rfl, s2, ?_⟩
        rw [noK]
        · exact h5
        · intro q
          unfold stepOk tk at q
          rw [en] at q
          exact h1 (Bool.and_eq_true_iff.mp q).1
    · rintro σ H2 ⟨v6, v7, v8, rfl, s2, h5⟩
      refine ⟨_, rfl, hQ lf H2 s2 hlf ?_⟩
      rw [h5]
      have e4 : steps.take (ts.map V.ref).length = steps := by
        rw [List.length_map, htl]
        rfl
      rw [e4]
      rfl
end
end Sf
namespace Sf
open PySem L2
/-- the sign at a place -/
def atP (ws : List Str) (p : Nat) : Nat := signAt ws (p / wide ws) (p % wide ws)
/-- the cells among the first n places -/
def cellsTo (ws : List Str) (n : Nat) : List Nat := (List.range n).filter fun p => decide (atP ws p ≠ 35)
def cellsOf (ws : List Str) : List Nat := cellsTo ws (ws.length * wide ws)
def nbsP (ws : List Str) (p : Nat) : List Int := nbs ws ((p / wide ws : Nat) : Int) ((p % wide ws : Nat) : Int)
theorem cellsTo_succ (ws : List Str) (n : Nat) : cellsTo ws (n + 1) = if atP ws n ≠ 35 then cellsTo ws n ++ [n] else cellsTo ws n := by
  unfold cellsTo
  rw [List.range_succ, List.filter_append]
  by_cases h : atP ws n ≠ 35
  · rw [if_pos h]
    simp [List.filter_cons, h]
  · rw [if_neg h]
    simp only [Decidable.not_not] at h
    simp [List.filter_cons, h]
theorem cellsTo_lt {ws : List Str} {n p : Nat} (h : p ∈ cellsTo ws n) : p < n := List.mem_range.mp (List.mem_filter.mp h).1
theorem cellsTo_mem {ws : List Str} {n p : Nat} : p ∈ cellsTo ws n ↔ p < n ∧ atP ws p ≠ 35 := by
  unfold cellsTo
  rw [List.mem_filter, List.mem_range, decide_eq_true_eq]
theorem cellsTo_len (ws : List Str) (n : Nat) : (cellsTo ws n).length ≤ n := by
  have := List.length_filter_le (fun p => decide (atP ws p ≠ 35)) (List.range n)
  rw [List.length_range] at this
  exact this
/-- the table: each cell's place, and the address of the list of the cells beside it -/
def tab (f : Nat → Addr) (ps : List Nat) : List (Key × V) := ps.map fun (p : Nat) => ((Sum.inl (p : Int) : Key), V.ref (f p))
theorem valV_tab (f : Nat → Addr) (i : Int) : ∀ ps : List Nat, valV (tab f ps) (Sum.inl i : Key) = if (0 ≤ i ∧ i.toNat ∈ ps) then some (.ref (f i.toNat)) else none
  | [] => by
    rw [if_neg (fun q => by cases q.2)]
    rfl
  | p :: r => by
    show valV (((Sum.inl (p : Int) : Key), V.ref (f p)) :: tab f r) _ = _
    by_cases e : (p : Int) = i
    · subst e
      rw [valV_pos rfl, if_pos ⟨by omega, by rw [Int.toNat_natCast]; exact List.mem_cons_self⟩, Int.toNat_natCast]
    · rw [valV_neg (fun q => e (Sum.inl.inj q)), valV_tab f i r]
      by_cases h : 0 ≤ i ∧ i.toNat ∈ r
      · rw [if_pos h, if_pos ⟨h.1, List.mem_cons_of_mem _ h.2⟩]
      · rw [if_neg h, if_neg]
        rintro ⟨h0, h1⟩
        rcases List.mem_cons.mp h1 with q | q
        · exact e (by omega)
        · exact h ⟨h0, q⟩
theorem tab_congr {f g : Nat → Addr} {ps : List Nat} (h : ∀ p ∈ ps, f p = g p) : tab f ps = tab g ps := by
  unfold tab
  exact List.map_congr_left fun p hp => by rw [h p hp]
/-- the table stands at d -/
structure TabAt (H : Hp) (d : Addr) (ws : List Str) (ps : List Nat) (f : Nat → Addr) : Prop where
  dc : H d = some (.dK (tab f ps))
  ls : ∀ p ∈ ps, H (f p) = some (.lst ((nbsP ws p).map V.int))
theorem TabAt.same {H H' : Hp} {d : Addr} {ws : List Str} {ps : List Nat} {f : Nat → Addr} (t : TabAt H d ws ps f) (s : Same H H') : TabAt H' d ws ps f := ⟨s _ _ t.dc, fun p hp => s _ _ (t.ls p hp)⟩
theorem ne_tbl {H : Hp} {P a : Addr} {o : HO} (hT : GxR.TabG H P) (h : H a = some o) (ho : ∀ ps, o ≠ .tbl ps) : a ≠ P := fun e => by
  obtain ⟨ps, z, _⟩ := hT
  rw [e, z] at h
  exact ho ps (Option.some.inj h).symm
theorem TabAt.sm {P : Addr} {H H' : Hp} {d : Addr} {ws : List Str} {ps : List Nat} {f : Nat → Addr} (t : TabAt H d ws ps f) (hT : GxR.TabG H P) (s : Sm P H H') : TabAt H' d ws ps f :=
  ⟨s.k _ _ (ne_tbl hT t.dc (fun _ z => by cases z)) t.dc, fun p hp => s.k _ _ (ne_tbl hT (t.ls p hp) (fun _ z => by cases z)) (t.ls p hp)⟩
def spTable (K : PySem.W.Frag) : Sp := fun vs H Q _ => ∃ (l : Addr) (ws : List Str), vs = [.ref l, .int (wide ws)] ∧ SqT K H l (ws.map V.str) ∧ Wf ws ∧
  ∀ (d : Addr) (f : Nat → Addr) (H' : Hp), Same H H' → H d = none → TabAt H' d ws (cellsOf ws) f → (∀ p ∈ cellsOf ws, H (f p) = none) → Q (.ref d) H'
section
variable {P : Program} {w : World} {K : PySem.W.Frag} {mg : Str → Option Value} {base : Heap}
def nTable : List Str := ["rows", "wide", "table", "row", "column"]
theorem scTable : FnScope nTable ["rows", "wide"] (defScope s_neighbours_of_cells) := ⟨rfl, rfl, rfl, by decide +kernel, rfl, by decide +kernel, by decide +kernel⟩
theorem ok_table {f fn : Addr} {fd fdn : FuncData} {tP : Tok} (F : Fun K "_neighbours_of_cells" "_neighbours_of_cells" s_neighbours_of_cells f fd) (GN : FnOk P w K mg base CX0 2 fn fdn ["rows", "row", "column"] (spNbs K)) (gN : mg "_neighbours" = some (.ref fn)) (kN : PySem.W.keepIn K (.ref fn) = true) (bN : Binds K fdn ["rows", "row", "column"] [])
    (gL : mg "len" = none) (gR : mg "range" = none) (gP : mg "PILLAR" = some (.str "#" tP)) : FnOk P w K mg base CX0 3 f fd ["rows", "wide"] (spTable K) := by
  refine F.ok scTable (fun vs H Q E h => ?_) (fun cdv A outer s H vs Q E hr h => ?_)
  · obtain ⟨l, ws, rfl, _⟩ := h
    rfl
  · obtain ⟨l, ws, rfl, hS, hw, hQ⟩ := h
    have hu := hu_of hr
    have hh := hw.high
    have hwd := hw.wid
    refine ⟨_, pss_cons (ps_set (i := 2) scTable.nd rfl (Or.inl rfl) pe_dnewK)
      (pss_cons (ps_for PassesOwn.never rfl (pi_range1 rfl gR (pa_cons (pe_callB call_len (by rfl) gL PySem.boot_len (pa_cons (pv 0) pa_nil)) pa_nil)) (pg_name (i := 3) scTable.nd rfl (Or.inl rfl))
        (pss_one (ps_for PassesOwn.never rfl (pi_range1 rfl gR (pa_cons (pv 1) pa_nil)) (pg_name (i := 4) scTable.nd rfl (Or.inl rfl))
          (pss_one (ps_if (pt_cmpR op_ne (pe_ix ix_str (pe_ix ix_tup (pv 0) (pv 3) (fun _ _ => rfl)) (pv 4) (fun _ _ => rfl)) (pe_glob (v := .str "#") rfl gP ⟨_, rfl⟩) (nomark _))
            (pss_one (ps_dput hu (pv 2) (pe_op op_add (pe_op op_mul (pv 3) (pv 1)) (pv 4)) (pe_call GN hr rfl gN kN bN .nil pass0 (pa_cons (pv 0) (pa_cons (pv 3) (pa_cons (pv 4) pa_nil)))) rfl)) pss_nil)))))
      (pss_one (ps_ret (pv 2)))), ?_⟩
    intro d hd
    refine ⟨_, rfl, _, _, rfl, .inr ⟨_, Same.sqT (Same.new hd) hS, rfl⟩, ?_⟩
    rw [List.length_map]
    refine ⟨_, rfl, by omega, by omega, for_range (n := ((ws.length : Nat) : Int).toNat) (fun i σ H2 => ∃ (v3 v4 : Option V) (f : Nat → Addr), σ = [some (.ref l), some (.int (wide ws)), some (.ref d), v3, v4] ∧ Same H H2 ∧ TabAt H2 d ws (cellsTo ws (i * wide ws)) f ∧ ∀ p ∈ cellsTo ws (i * wide ws), H (f p) = none)
      ⟨none, none, fun _ => 0, rfl, Same.new hd, ?_, ?_⟩ ?_ ?_⟩
    · rw [Nat.zero_mul]
      exact ⟨upd_same, fun p hp => by cases hp⟩
    · rw [Nat.zero_mul]
      exact fun p hp => by cases hp
    · rintro i σ H2 hi ⟨v3, v4, f, rfl, s2, T2, n2⟩
      have hil : i < ws.length := by omega
      refine ⟨_, rfl, _, rfl, by omega, by omega, for_range (n := ((wide ws : Nat) : Int).toNat) (fun j σ H3 => ∃ (v4 : Option V) (f : Nat → Addr), σ = [some (.ref l), some (.int (wide ws)), some (.ref d), some (.int (0 + (i : Int))), v4] ∧ Same H H3 ∧ TabAt H3 d ws (cellsTo ws (i * wide ws + j)) f ∧ ∀ p ∈ cellsTo ws (i * wide ws + j), H (f p) = none)
        ⟨v4, f, rfl, s2, T2, n2⟩ ?_ ?_⟩
      · clear T2 n2 f v4
        rintro j σ H3 hj ⟨v4, f, rfl, s3, T3, n3⟩
        have hjl : j < wide ws := by omega
        have sz : (ws.getD i ("" : Str)).length ≤ sizeLine := Nat.le_trans (by rw [hw.rlen hil]; exact hwd) (by decide)
        have e1 : (i * wide ws + j) / wide ws = i := by
          rw [Nat.mul_comm, Nat.mul_add_div (by omega), Nat.div_eq_of_lt hjl, Nat.add_zero]
        have e2 : (i * wide ws + j) % wide ws = j := by
          rw [Nat.mul_comm, Nat.mul_add_mod, Nat.mod_eq_of_lt hjl]
        have ea : atP ws (i * wide ws + j) = signAt ws i j := by
          unfold atP
          rw [e1, e2]
        have z1 : (0 : Int) + (i : Int) = (i : Int) := Int.zero_add _
        have z2 : (0 : Int) + (j : Int) = (j : Int) := Int.zero_add _
        have nb : nbsP ws (i * wide ws + j) = nbs ws i j := by
          unfold nbsP
          rw [e1, e2]
        refine ⟨_, rfl, _, rfl, _, _, _, _, rfl, rfl, Same.sqT s3 hS, by rw [z1]; exact atI_nat (str_at hil), _, rfl, _, _, _, rfl, rfl, sz, by rw [z2]; exact atI_nat (sign_at hw hil hjl), ?_⟩
        have eP : ("#" : Str) = sg1 35 := by decide +kernel
        refine ⟨rfl, _, rfl, ?_⟩
        rw [eP]
        have ed : (V.str ⟨#[signAt ws i j]⟩ = V.str (sg1 35)) ↔ signAt ws i j = 35 := ⟨fun q => by
          have q1 := V.str.inj q
          unfold sg1 at q1
          injection q1 with q2
          have q3 := congrArg (fun a : Array Nat => a.toList) q2
          exact (List.cons.inj q3).1, fun q => by rw [q]; rfl⟩
        by_cases h35 : signAt ws i j = 35
        · rw [decide_eq_true (ed.mpr h35)]
          refine iteF ?_
          refine ⟨_, f, rfl, s3, ?_, ?_⟩
          · rw [← Nat.add_assoc, cellsTo_succ, if_neg (by rw [ea, h35]; simp)]
            exact T3
          · rw [← Nat.add_assoc, cellsTo_succ, if_neg (by rw [ea, h35]; simp)]
            exact n3
        · rw [decide_eq_false (fun q => h35 (ed.mp q))]
          refine iteT ?_
          refine ⟨_, rfl, _, rfl, _, rfl, l, ws, i, j, by rw [z1, z2] <;> rfl, Same.sqT s3 hS, hw, hil, hjl, fun lf H4 s4 hlf h4 => ?_⟩
          have T4 := T3.same s4
          have hlf0 : H lf = none := s3.free hlf
          have key : V.int ((0 + (i : Int)) * (wide ws : Int) + (0 + (j : Int))) = kV (Sum.inl ((i * wide ws + j : Nat) : Int)) := by
            rw [z1, z2]
            show V.int _ = V.int _
            rw [Int.natCast_add, Int.natCast_mul]
          have nin : ¬ (i * wide ws + j) ∈ cellsTo ws (i * wide ws + j) := fun q => Nat.lt_irrefl _ (cellsTo_lt q)
          have vn : valV (tab f (cellsTo ws (i * wide ws + j))) (Sum.inl ((i * wide ws + j : Nat) : Int) : Key) = none := by
            rw [valV_tab, if_neg]
            rintro ⟨_, q⟩
            rw [Int.toNat_natCast] at q
            exact nin q
          have ndl : lf ≠ d := fun e => by
            have q := s4 _ _ T3.dc
            rw [e, q] at h4
            cases h4
          refine ⟨_, rfl, _, rfl, _, rfl, _, _, rfl, rfl, .inl ⟨by omega, by omega⟩, _, rfl, _, _, rfl, rfl, d, _, rfl, by show DPut H4 d (V.int ((0 + (i : Int)) * (wide ws : Int) + (0 + (j : Int)))) _ _; rw [key]; exact DPut.k T4.dc (small1000 (by
            unfold tab
            rw [List.length_map]
            have := cellsTo_len ws (i * wide ws + j)
            have : i * wide ws ≤ 12 * 12 := Nat.mul_le_mul (by omega) hwd
            omega)), ?_⟩
          let f' : Nat → Addr := fun p => if p = i * wide ws + j then lf else f p
          have ff : ∀ p ∈ cellsTo ws (i * wide ws + j), f p = f' p := fun p hp => (if_neg (fun e : p = i * wide ws + j => nin (by rw [e] at hp; exact hp))).symm
          have fn : f' (i * wide ws + j) = lf := if_pos rfl
          refine ⟨_, f', rfl, ?_, ?_, ?_⟩
          · exact fun b o q => by rw [upd_ne (ne_of_none q hd)]; exact s4 b o (s3 b o q)
          · rw [← Nat.add_assoc, cellsTo_succ, if_pos (by rw [ea]; exact h35)]
            refine ⟨?_, fun p hp => ?_⟩
            · rw [upd_same, putK_new _ vn]
              unfold tab
              rw [List.map_append, List.map_cons, List.map_nil, fn]
              show some (HO.dK (tab f _ ++ _)) = some (HO.dK (tab f' _ ++ _))
              rw [tab_congr ff]
            · rcases List.mem_append.mp hp with q | q
              · rw [← ff p q, upd_ne (fun e => by
                  have z := T4.dc
                  rw [← e, T4.ls p q] at z
                  cases z)]
                exact T4.ls p q
              · rw [List.mem_singleton.mp q, fn, upd_ne ndl, nb]
                exact h4
          · rw [← Nat.add_assoc, cellsTo_succ, if_pos (by rw [ea]; exact h35)]
            intro p hp
            rcases List.mem_append.mp hp with q | q
            · rw [← ff p q]
              exact n3 p q
            · rw [List.mem_singleton.mp q, fn]
              exact hlf0
      · rintro σ H3 ⟨v4, f, rfl, s3, T3, n3⟩
        have ew : ((wide ws : Nat) : Int).toNat = wide ws := Int.toNat_natCast _
        rw [ew] at T3 n3
        refine ⟨_, _, f, rfl, s3, ?_, ?_⟩
        · rw [Nat.succ_mul]
          exact T3
        · rw [Nat.succ_mul]
          exact n3
    · rintro σ H2 ⟨v3, v4, f, rfl, s2, T2, n2⟩
      rw [Int.toNat_natCast] at T2 n2
      exact ⟨_, rfl, hQ d f H2 s2 hd T2 n2⟩
end
end Sf
namespace Sf
open PySem L2
/-! ### the Floor object -/
def flds (lr : Addr) (ws : List Str) (d lt : Addr) : List (Str × V) := putF "_neighbours" (.ref d) (putF "_signs" (.ref lt) (putF "wide" (.int (wide ws)) (putF "high" (.int ws.length) (putF "rows" (.ref lr) []))))
theorem fne : ¬ (("rows" : Str) = "high") ∧ ¬ (("rows" : Str) = "wide") ∧ ¬ (("rows" : Str) = "_neighbours") ∧ ¬ (("high" : Str) = "wide") ∧ ¬ (("high" : Str) = "_neighbours") ∧ ¬ (("wide" : Str) = "_neighbours") ∧ ¬ (("rows" : Str) = "_signs") ∧ ¬ (("high" : Str) = "_signs") ∧ ¬ (("wide" : Str) = "_signs") ∧ ¬ (("_signs" : Str) = "_neighbours") := by decide +kernel
theorem flds_rows (lr : Addr) (ws : List Str) (d lt : Addr) : (flds lr ws d lt).lookup ("rows" : Str) = some (.ref lr) := by
  obtain ⟨a, b, c, e, f, g, h, i, j, k⟩ := fne
  unfold flds
  rw [lookup_putF, if_neg c, lookup_putF, if_neg h, lookup_putF, if_neg b, lookup_putF, if_neg a, lookup_putF, if_pos rfl]
theorem flds_high (lr : Addr) (ws : List Str) (d lt : Addr) : (flds lr ws d lt).lookup ("high" : Str) = some (.int ws.length) := by
  obtain ⟨a, b, c, e, f, g, h, i, j, k⟩ := fne
  unfold flds
  rw [lookup_putF, if_neg f, lookup_putF, if_neg i, lookup_putF, if_neg e, lookup_putF, if_pos rfl]
theorem flds_wide (lr : Addr) (ws : List Str) (d lt : Addr) : (flds lr ws d lt).lookup ("wide" : Str) = some (.int (wide ws)) := by
  obtain ⟨a, b, c, e, f, g, h, i, j, k⟩ := fne
  unfold flds
  rw [lookup_putF, if_neg g, lookup_putF, if_neg j, lookup_putF, if_pos rfl]
theorem flds_signs (lr : Addr) (ws : List Str) (d lt : Addr) : (flds lr ws d lt).lookup ("_signs" : Str) = some (.ref lt) := by
  obtain ⟨a, b, c, e, f, g, h, i, j, k⟩ := fne
  unfold flds
  rw [lookup_putF, if_neg k, lookup_putF, if_pos rfl]
theorem flds_nbs (lr : Addr) (ws : List Str) (d lt : Addr) : (flds lr ws d lt).lookup ("_neighbours" : Str) = some (.ref d) := by
  unfold flds
  rw [lookup_putF, if_pos rfl]
theorem flds_no (lr : Addr) (ws : List Str) (d lt : Addr) {m : Str} (h1 : ¬ m = "_neighbours") (h2 : ¬ m = "wide") (h3 : ¬ m = "high") (h4 : ¬ m = "rows") (h5 : ¬ m = "_signs" := by decide +kernel) : (flds lr ws d lt).lookup m = none := by
  unfold flds
  rw [lookup_putF, if_neg h1, lookup_putF, if_neg h5, lookup_putF, if_neg h2, lookup_putF, if_neg h3, lookup_putF, if_neg h4]
  all_goals rfl
/-- where the tuple of the signs stands: ahead of no cell -/
def topP (ws : List Str) : Nat := ws.length * wide ws
theorem topP_no {ws : List Str} {p : Nat} (h : p ∈ cellsOf ws) : p ≠ topP ws := Nat.ne_of_lt (cellsTo_lt h)
/-- a Floor of the rows ws stands at x -/
structure FloorAt (C : Addr) (H : Hp) (x dx lr d : Addr) (f : Nat → Addr) (ws : List Str) : Prop where
  ob : H x = some (.ins C dx (flds lr ws d (f (topP ws))))
  rw : H lr = some (.lst (ws.map V.str))
  tb : TabAt H d ws (cellsOf ws) f
  sg : H (f (topP ws)) = some (.tup (ws.map V.str))
theorem FloorAt.same {C : Addr} {H H' : Hp} {x dx lr d : Addr} {f : Nat → Addr} {ws : List Str} (a : FloorAt C H x dx lr d f ws) (s : Same H H') : FloorAt C H' x dx lr d f ws := ⟨s _ _ a.ob, s _ _ a.rw, a.tb.same s, s _ _ a.sg⟩
/-- its parts are new -/
structure FNew (H0 : Hp) (lr d : Addr) (f : Nat → Addr) (ws : List Str) : Prop where
  rw : H0 lr = none
  dc : H0 d = none
  ls : ∀ p ∈ cellsOf ws, H0 (f p) = none
  sg : H0 (f (topP ws)) = none
theorem SqL_but {K : PySem.W.Frag} {H H' : Hp} {x l : Addr} {xs : List V} (h : SqL K H l xs) (nx : ∀ ys, H x ≠ some (.lst ys)) (nf : ∀ o u, H x ≠ some (.frz o u)) (k : ∀ b o, b ≠ x → H b = some o → H' b = some o) : SqL K H' l xs := by
  rcases h with (h | ⟨o, h⟩) | h
  · exact .inl (.inl (k _ _ (fun e => by rw [e] at h; exact nx _ h) h))
  · exact .inl (.inr ⟨o, k _ _ (fun e => by rw [e] at h; exact nf _ _ h) h⟩)
  · exact .inr h
def spInit (K : PySem.W.Frag) (Pt C : Addr) : Sp := fun vs H Q _ => ∃ (x dx l : Addr) (ws : List Str), vs = [.ref x, .ref l] ∧ H x = some (.ins C dx []) ∧ SqL K H l (ws.map V.str) ∧ Wf ws ∧ GxR.TabG H Pt ∧
  ∀ (lr d : Addr) (f : Nat → Addr) (H' : Hp), FNew H lr d f ws → (∀ b o, b ≠ x → b ≠ Pt → H b = some o → H' b = some o) → GxR.TabG H' Pt → FloorAt C H' x dx lr d f ws → Q .non H'
def isCell (ws : List Str) (i : Int) : Bool := decide (0 ≤ i ∧ i.toNat ∈ cellsOf ws)
def mayB (ws : List Str) (i j : Int) : Bool := isCell ws i && decide (j ∈ nbsP ws i.toNat)
def nats (ps : List Nat) : List V := ps.map fun (p : Nat) => V.int (p : Int)
def spCells (C : Addr) : Sp := fun vs H Q _ => ∃ (x dx lr d : Addr) (f : Nat → Addr) (ws : List Str), vs = [.ref x] ∧ FloorAt C H x dx lr d f ws ∧ ∀ (l : Addr) (H' : Hp), Same H H' → H l = none → H' l = some (.lst (nats (cellsOf ws))) → Q (.ref l) H'
def spHas (C : Addr) : Sp := fun vs H Q _ => ∃ (x dx lr d : Addr) (f : Nat → Addr) (ws : List Str) (i : Int), vs = [.ref x, .int i] ∧ FloorAt C H x dx lr d f ws ∧ Q (.bl (isCell ws i)) H
def spMay (C : Addr) : Sp := fun vs H Q _ => ∃ (x dx lr d : Addr) (f : Nat → Addr) (ws : List Str) (i j : Int), vs = [.ref x, .int i, .int j] ∧ FloorAt C H x dx lr d f ws ∧ Q (.bl (mayB ws i j)) H
/-- the class as the top has made it -/
structure FTxt (K : PySem.W.Frag) (mg : Str → Option Value) (C : Addr) : Prop where
  cl : Cls K C
  nR : NoAttr K C "rows"
  nH : NoAttr K C "high"
  nW : NoAttr K C "wide"
  nN : NoAttr K C "_neighbours"
  nS : NoAttr K C "_signs"
  mgC : mg "Floor" = some (.ref C)
theorem in_ints (j : Int) : ∀ l : List Int, inV (V.int j) (l.map V.int) = decide (j ∈ l)
  | [] => rfl
  | a :: r => by
    have ih := in_ints j r
    unfold inV at ih ⊢
    rw [List.map_cons, List.any_cons, ih, Bool.eq_iff_iff, Bool.or_eq_true, decide_eq_true_eq, decide_eq_true_eq, List.mem_cons]
    show (eqV (V.int a) (V.int j) = true ∨ _) ↔ _
    have e : eqV (V.int a) (V.int j) = true ↔ j = a := by
      simp [eqV]
      exact ⟨fun h => h.symm, fun h => h.symm⟩
    rw [e]
theorem flat_ints (l : List Int) : (l.map V.int).all flatV = true := List.all_eq_true.mpr fun x hx => by
  obtain ⟨i, _, rfl⟩ := List.mem_map.mp hx
  rfl
section
variable {P : Program} {w : World} {K : PySem.W.Frag} {mg : Str → Option Value} {base : Heap}
theorem scInit : FnScope ["self", "rows"] ["self", "rows"] (defScope sFloor___init__) := ⟨rfl, rfl, rfl, by decide +kernel, rfl, by decide +kernel, by decide +kernel⟩
theorem ok_init {f fr ft C Pt : Addr} {fd fdr fdt : FuncData} (F : Fun K "__init__" "Floor.__init__" sFloor___init__ f fd) (T : FTxt K mg C) (GR : FnOk P w K mg base CX0 1 fr fdr ["rows"] (spRefuse K Pt)) (gR : mg "_refuse_wrong" = some (.ref fr)) (kR : PySem.W.keepIn K (.ref fr) = true) (bR : Binds K fdr ["rows"] [])
    (GT : FnOk P w K mg base CX0 3 ft fdt ["rows", "wide"] (spTable K)) (gT : mg "_neighbours_of_cells" = some (.ref ft)) (kT : PySem.W.keepIn K (.ref ft) = true) (bT : Binds K fdt ["rows", "wide"] []) (gL : mg "len" = none) (gl : mg "list" = none) (gt : mg "tuple" = none) :
    FnOk P w K mg base CX0 4 f fd ["self", "rows"] (spInit K Pt C) := by
  refine F.ok scInit (fun vs H Q E h => ?_) (fun cdv A outer s H vs Q E hr h => ?_)
  · obtain ⟨x, dx, l, ws, rfl, _⟩ := h
    rfl
  · obtain ⟨x, dx, l, ws, rfl, hx, hS, hw, hT, hQ⟩ := h
    have hu := hu_of hr
    have hr1 : Room 1 _ := hr.mono (by decide)
    refine ⟨_, pss_cons (ps_expr (pe_call GR hr1 rfl gR kR bR .nil pass0 (pa_cons (pv 1) pa_nil)))
      (pss_cons (ps_fld (pv 0) (pe_callTy call_list_of (by rfl) gl (by decide +kernel) (pa_cons (pv 1) pa_nil)) rfl)
      (pss_cons (ps_fld (pv 0) (pe_callB call_len (by rfl) gL PySem.boot_len (pa_cons (pv 1) pa_nil)) rfl)
      (C8.pss_cut (ps_fld (pv 0) (pe_ifExp (pt_truth (pv 1) (by intro _; rfl)) (pe_callB call_len_str (by rfl) gL PySem.boot_len (pa_cons (pe_ix ix_list (pv 1) pe_int (fun _ _ => rfl)) pa_nil)) pe_int) rfl)
      (pss_cons (ps_fld (pv 0) (pe_callTy call_tuple_of (by rfl) gt (by decide +kernel) (pa_cons (pv 1) pa_nil)) rfl)
      (pss_one (ps_fld (pv 0) (pe_call GT hr rfl gT kT bT .nil pass0 (pa_cons (pe_fld (pv 0) rfl) (pa_cons (pe_fld (pv 0) rfl) pa_nil))) rfl)))))), ?_⟩
    refine ⟨_, rfl, l, ws, rfl, hS, hw, hT, fun H1 S1 => ?_⟩
    have hT1 := S1.t hT
    have hS1 := S1.seq hT hS
    have hx1 : H1 x = some (.ins C dx []) := S1.k _ _ (ne_tbl hT hx (fun _ z => by cases z)) hx
    refine ⟨_, rfl, l, _, rfl, .inl hS1, fun lr hlr => ?_⟩
    have nxl : x ≠ lr := ne_of_none hx1 hlr
    refine ⟨_, rfl, x, C, dx, _, rfl, (by rw [upd_ne nxl]; exact hx1), T.cl, T.nR, (by show 0 < 1000; decide), ?_⟩
    -- what stands now: H2
    generalize h2 : upd (upd H1 lr (.lst (ws.map V.str))) x (.ins C dx (putF "rows" (.ref lr) [])) = H2
    have k2 : ∀ b o, b ≠ x → H1 b = some o → H2 b = some o := fun b o hb e => by
      rw [← h2, upd_ne hb, upd_ne (ne_of_none e hlr)]
      exact e
    have hx2 : H2 x = some (.ins C dx (putF "rows" (.ref lr) [])) := by rw [← h2, upd_same]
    have hl2 : H2 lr = some (.lst (ws.map V.str)) := by rw [← h2, upd_ne nxl.symm, upd_same]
    have hS2 : SqL K H2 l (ws.map V.str) := SqL_but hS1 (fun _ z => by rw [hx1] at z; cases z) (fun _ _ z => by rw [hx1] at z; cases z) k2
    refine ⟨_, rfl, _, _, rfl, .inl ⟨_, hS2, rfl⟩, _, rfl, x, C, dx, _, rfl, hx2, T.cl, T.nH, (by show 1 < 1000; decide), ?_⟩
    rw [List.length_map]
    generalize h3 : upd H2 x (.ins C dx (putF "high" (.int ((ws.length : Nat) : Int)) (putF "rows" (.ref lr) []))) = H3
    have k3 : ∀ b o, b ≠ x → H2 b = some o → H3 b = some o := fun b o hb e => by
      rw [← h3, upd_ne hb]
      exact e
    have hx3 : H3 x = some (.ins C dx (putF "high" (.int ((ws.length : Nat) : Int)) (putF "rows" (.ref lr) []))) := by rw [← h3, upd_same]
    have hS3 : SqL K H3 l (ws.map V.str) := SqL_but hS2 (fun _ z => by rw [hx2] at z; cases z) (fun _ _ z => by rw [hx2] at z; cases z) k3
    refine ⟨fun σ' H' => σ' = [some (.ref x), some (.ref l)] ∧ H' = upd H3 x (.ins C dx (putF "wide" (.int ((wide ws : Nat) : Int)) (putF "high" (.int ((ws.length : Nat) : Int)) (putF "rows" (.ref lr) [])))), ?_, ?_⟩
    · refine ⟨_, rfl, _, .inl ⟨_, hS3, rfl⟩, ?_⟩
      cases ws with
      | nil =>
        refine iteF ?_
        refine ⟨_, rfl, x, C, dx, _, rfl, hx3, T.cl, T.nW, (by show 2 < 1000; decide), rfl, ?_⟩
        have e0 : wide ([] : List Str) = 0 := empty_len
        rw [e0]
        rfl
      | cons a r =>
        refine iteT ?_
        have ea : wide (a :: r) = a.length := rfl
        have wl := hw.wid
        refine ⟨_, rfl, _, _, _, _, rfl, rfl, hS3, atI_nat (j := 0) rfl, a, rfl, Nat.le_trans (by rw [← ea]; exact wl) (by decide), ?_⟩
        exact ⟨_, rfl, x, C, dx, _, rfl, hx3, T.cl, T.nW, (by show 2 < 1000; decide), rfl, rfl⟩
    · rintro _ H4 ⟨rfl, h4⟩
      have hx4 : H4 x = some (.ins C dx (putF "wide" (.int ((wide ws : Nat) : Int)) (putF "high" (.int ((ws.length : Nat) : Int)) (putF "rows" (.ref lr) [])))) := by rw [h4, upd_same]
      have k4 : ∀ b o, b ≠ x → H3 b = some o → H4 b = some o := fun b o hb e => by
        rw [h4, upd_ne hb]
        exact e
      have hS4 : SqL K H4 l (ws.map V.str) := SqL_but hS3 (fun _ z => by rw [hx3] at z; cases z) (fun _ _ z => by rw [hx3] at z; cases z) k4
      refine ⟨_, rfl, l, _, rfl, .inl ⟨hS4, fun lt hlt => ?_⟩⟩
      have nxt : x ≠ lt := ne_of_none hx4 hlt
      have nPx : x ≠ Pt := ne_tbl hT hx (fun _ z => by cases z)
      let fs5 : List (Str × V) := putF "_signs" (.ref lt) (putF "wide" (.int ((wide ws : Nat) : Int)) (putF "high" (.int ((ws.length : Nat) : Int)) (putF "rows" (.ref lr) [])))
      refine ⟨_, rfl, x, C, dx, _, rfl, (by rw [upd_ne nxt]; exact hx4), T.cl, T.nS, (by show 3 < 1000; decide), ?_⟩
      generalize h5 : upd (upd H4 lt (.tup (ws.map V.str))) x (.ins C dx (putF "_signs" (.ref lt) (putF "wide" (.int ((wide ws : Nat) : Int)) (putF "high" (.int ((ws.length : Nat) : Int)) (putF "rows" (.ref lr) []))))) = H5
      have k5 : ∀ b o, b ≠ x → H4 b = some o → H5 b = some o := fun b o hb e => by
        rw [← h5, upd_ne hb, upd_ne (ne_of_none e hlt)]
        exact e
      have hx5 : H5 x = some (.ins C dx fs5) := by rw [← h5, upd_same]
      have ht5 : H5 lt = some (.tup (ws.map V.str)) := by rw [← h5, upd_ne nxt.symm, upd_same]
      have lw : fs5.lookup ("wide" : Str) = some (V.int ((wide ws : Nat) : Int)) := by
        show (putF "_signs" _ _).lookup _ = _
        rw [lookup_putF, if_neg fne.2.2.2.2.2.2.2.2.1, lookup_putF, if_pos rfl]
      have lg : fs5.lookup ("_signs" : Str) = some (V.ref lt) := by
        show (putF "_signs" _ _).lookup _ = _
        rw [lookup_putF, if_pos rfl]
      refine ⟨_, rfl, x, C, dx, _, _, rfl, hx5, T.cl, T.nS, lg, _, rfl, x, C, dx, _, _, rfl, hx5, T.cl, T.nW, lw, lt, ws, rfl, SqT.of ht5, hw, fun d f H6 s6 hd t6 n6 => ?_⟩
      have hx6 := s6 _ _ hx5
      refine ⟨_, rfl, x, C, dx, _, rfl, hx6, T.cl, T.nN, (by show 4 < 1000; decide), ?_⟩
      have up1 : ∀ b o, b ≠ x → H1 b = some o → H5 b = some o := fun b o hb e => k5 b o hb (k4 b o hb (k3 b o hb (k2 b o hb e)))
      have nd : ∀ b o, H5 b = some o → b ≠ d := fun b o e => ne_of_none e hd
      have f0 : ∀ b, b ≠ x → H5 b = none → H b = none := fun b hb e => by
        cases q : H b with
        | none => rfl
        | some o =>
          by_cases hbp : b = Pt
          · obtain ⟨ps, z, _⟩ := hT1
            have := up1 b _ hb (by rw [hbp]; exact z)
            rw [e] at this
            cases this
          · have := up1 b o hb (S1.k b o hbp q)
            rw [e] at this
            cases this
      have ft : H lt = none := by
        cases q : H lt with
        | none => rfl
        | some o =>
          by_cases hbp : lt = Pt
          · obtain ⟨ps, z, _⟩ := hT1
            have := k4 lt _ nxt.symm (k3 _ _ nxt.symm (k2 _ _ nxt.symm (by rw [hbp]; exact z)))
            rw [hlt] at this
            cases this
          · have := k4 lt _ nxt.symm (k3 _ _ nxt.symm (k2 _ _ nxt.symm (S1.k _ o hbp q)))
            rw [hlt] at this
            cases this
      have lr5 : H5 lr = some (.lst (ws.map V.str)) := k5 _ _ nxl.symm (k4 _ _ nxl.symm (k3 _ _ nxl.symm hl2))
      have hdx : d ≠ x := (nd _ _ hx5).symm
      have hfx : ∀ p ∈ cellsOf ws, f p ≠ x := fun p hp e => by
        have := n6 p hp
        rw [e, hx5] at this
        cases this
      let f' : Nat → Addr := fun p => if p = topP ws then lt else f p
      have ff : ∀ p ∈ cellsOf ws, f p = f' p := fun p hp => (if_neg (topP_no hp)).symm
      have ft' : f' (topP ws) = lt := if_pos rfl
      refine hQ lr d f' _ ⟨S1.free hT hlr, f0 d hdx hd, fun p hp => by rw [← ff p hp]; exact f0 _ (hfx p hp) (n6 p hp), by rw [ft']; exact ft⟩ (fun b o hb hp e => ?_) ?_ ⟨?_, ?_, ⟨?_, fun p hp => ?_⟩, ?_⟩
      · rw [upd_ne hb]
        exact s6 b o (up1 b o hb (S1.k b o hp e))
      · obtain ⟨ps, z, q⟩ := hT1
        exact ⟨ps, by rw [upd_ne nPx.symm]; exact s6 _ _ (up1 _ _ nPx.symm z), q⟩
      · rw [upd_same, ft']
        rfl
      · rw [upd_ne nxl.symm]
        exact s6 _ _ lr5
      · rw [upd_ne hdx, t6.dc, tab_congr ff]
      · rw [← ff p hp, upd_ne (hfx p hp)]
        exact t6.ls p hp
      · rw [ft', upd_ne nxt.symm]
        exact s6 _ _ ht5
theorem scCells : FnScope ["self"] ["self"] (defScope sFloor_cells) := ⟨rfl, rfl, rfl, by decide +kernel, rfl, by decide +kernel, by decide +kernel⟩
theorem tab_keys (f : Nat → Addr) (ps : List Nat) : ((tab f ps).map fun kv => kV kv.1) = nats ps := by
  unfold tab nats
  rw [List.map_map]
  rfl
theorem ok_cells {f C : Addr} {fd : FuncData} (F : Fun K "cells" "Floor.cells" sFloor_cells f fd) (T : FTxt K mg C) (gl : mg "list" = none) : FnOk P w K mg base CX0 1 f fd ["self"] (spCells C) := by
  refine F.ok scCells (fun vs H Q E h => ?_) (fun cdv A outer s H vs Q E hr h => ?_)
  · obtain ⟨x, dx, lr, d, g, ws, rfl, _⟩ := h
    rfl
  · obtain ⟨x, dx, lr, d, g, ws, rfl, a, hQ⟩ := h
    refine ⟨_, pss_one (ps_ret (pe_callTy (call_listD rfl) (by rfl) gl (by decide +kernel) (pa_cons (pe_fld (pv 0) rfl) pa_nil))), ?_⟩
    refine ⟨_, rfl, x, C, dx, _, _, rfl, a.ob, T.cl, T.nN, flds_nbs _ _ _ _, d, _, rfl, .inl a.tb.dc, fun l hl => ?_⟩
    refine hQ l _ (Same.new hl) hl ?_
    rw [upd_same, tab_keys]
theorem scHas : FnScope ["self", "place"] ["self", "place"] (defScope sFloor_has) := ⟨rfl, rfl, rfl, by decide +kernel, rfl, by decide +kernel, by decide +kernel⟩
theorem ok_has {f C : Addr} {fd : FuncData} (F : Fun K "has" "Floor.has" sFloor_has f fd) (T : FTxt K mg C) : FnOk P w K mg base CX0 1 f fd ["self", "place"] (spHas C) := by
  refine F.ok scHas (fun vs H Q E h => ?_) (fun cdv A outer s H vs Q E hr h => ?_)
  · obtain ⟨x, dx, lr, d, g, ws, i, rfl, _⟩ := h
    rfl
  · obtain ⟨x, dx, lr, d, g, ws, i, rfl, a, hQ⟩ := h
    have hu := hu_of hr
    refine ⟨_, pss_one (ps_ret (pe_cmp (pc_din hu (pv 1) (pe_fld (pv 0) rfl)) rfl)), ?_⟩
    refine ⟨_, rfl, _, rfl, x, C, dx, _, _, rfl, a.ob, T.cl, T.nN, flds_nbs _ _ _ _, d, _, rfl, DGet.k (k := Sum.inl i) a.tb.dc, ?_⟩
    have e : (valV (tab g (cellsOf ws)) (Sum.inl i : Key)).isSome = isCell ws i := by
      rw [valV_tab]
      unfold isCell
      by_cases h : 0 ≤ i ∧ i.toNat ∈ cellsOf ws
      · rw [if_pos h, decide_eq_true h] <;> rfl
      · rw [if_neg h, decide_eq_false h] <;> rfl
    rw [e]
    exact hQ
end
end Sf
namespace Sf
open PySem L2
section
variable {P : Program} {w : World} {K : PySem.W.Frag} {mg : Str → Option Value} {base : Heap}
theorem scMay : FnScope ["self", "one", "other"] ["self", "one", "other"] (defScope sFloor_may) := ⟨rfl, rfl, rfl, by decide +kernel, rfl, by decide +kernel, by decide +kernel⟩
theorem ok_may {f fh C : Addr} {fd fdh : FuncData} (F : Fun K "may" "Floor.may" sFloor_may f fd) (T : FTxt K mg C) (GH : FnOk P w K mg base CX0 1 fh fdh ["self", "place"] (spHas C)) (mH : Meth K C "has" fh) (bH : Binds K fdh ["self", "place"] []) : FnOk P w K mg base CX0 2 f fd ["self", "one", "other"] (spMay C) := by
  refine F.ok scMay (fun vs H Q E h => ?_) (fun cdv A outer s H vs Q E hr h => ?_)
  · obtain ⟨x, dx, lr, d, g, ws, i, j, rfl, _⟩ := h
    rfl
  · obtain ⟨x, dx, lr, d, g, ws, i, j, rfl, a, hQ⟩ := h
    have hu := hu_of hr
    refine ⟨_, pss_one (ps_ret (pe_and (pe_meth (pv 0) T.cl mH GH hr bH .nil pass0 (pa_cons (pv 1) pa_nil)) (pe_one (pe_cmpR op_in_seq (pv 2) (pe_dget hu (pe_fld (pv 0) rfl) (pv 1) (fun _ _ => rfl)) (by rfl))))), ?_⟩
    refine ⟨_, rfl, x, dx, _, rfl, a.ob, flds_no _ _ _ _ (by decide +kernel) (by decide +kernel) (by decide +kernel) (by decide +kernel), _, rfl, x, dx, lr, d, g, ws, i, rfl, a, _, rfl, ?_⟩
    by_cases hc : 0 ≤ i ∧ i.toNat ∈ cellsOf ws
    · have e : isCell ws i = true := decide_eq_true hc
      rw [e]
      refine iteT ?_
      refine ⟨_, rfl, _, rfl, x, C, dx, _, _, rfl, a.ob, T.cl, T.nN, flds_nbs _ _ _ _, _, rfl, d, .ref (g i.toNat), rfl, ?_, ?_⟩
      · have q := DGet.k (k := (Sum.inl i : Key)) a.tb.dc
        rw [valV_tab, if_pos hc] at q
        exact q
      · refine ⟨_, _, rfl, .inl (SqL.of (a.tb.ls _ hc.2)), rfl, flat_ints _, ?_⟩
        rw [in_ints]
        unfold mayB at hQ
        rw [e] at hQ
        exact hQ
    · have e : isCell ws i = false := decide_eq_false hc
      rw [e]
      refine iteF ?_
      unfold mayB at hQ
      rw [e] at hQ
      exact hQ
end
end Sf
namespace Sf
open PySem PySem.Spec PyProof.Rows L2
structure Rz (K : PySem.W.Frag) (mg : Str → Option Value) (nm : Str) (C : Addr) : Prop where
  g : mg nm = some (.ref C)
  x : PySem.W.excIn K C [.type "ValueError", .type "Exception", .type "BaseException", .type "object"] "ValueError.__new__" = true
  k : PySem.W.keepIn K (.ref C) = true
  s : PySem.W.subIn K (.ref C) (.type "BaseException") = some true
  t : PySem.W.typeIn K (.ref C) = some (.type "type")
def spRef (C cN : Addr) : Sp := fun vs H Q E => ∃ (x dx lr df : Addr) (f : Nat → Addr) (ws : List Str) (i : Int), vs = [.ref x, .int i] ∧ FloorAt C H x dx lr df f ws ∧ (isCell ws i = true → Q .non H) ∧ (isCell ws i = false → E (.ref cN) none H)
section
variable {P : Program} {w : World} {K : PySem.W.Frag} {mg : Str → Option Value} {base : Heap}
theorem scRef : FnScope ["floor", "number"] ["floor", "number"] (defScope srefuse_no_cell) := ⟨rfl, rfl, rfl, by decide +kernel, rfl, by decide +kernel, by decide +kernel⟩
theorem ok_ref {f fh C cN : Addr} {fd fdh : FuncData} (F : Fun K "refuse_no_cell" "refuse_no_cell" srefuse_no_cell f fd) (T : FTxt K mg C) (GH : FnOk P w K mg base CX0 1 fh fdh ["self", "place"] (spHas C)) (mH : Meth K C "has" fh) (bH : Binds K fdh ["self", "place"] []) (R : Rz K mg "NoCell" cN) :
    FnOk P w K mg base (L2.CX P w) 2 f fd ["floor", "number"] (spRef C cN) := by
  refine F.okX scRef (fun vs H Q E h => ?_) (fun cdv A outer s H vs Q E hr h => ?_)
  · obtain ⟨x, dx, lr, df, g, ws, i, rfl, _⟩ := h
    rfl
  · obtain ⟨x, dx, lr, df, g, ws, i, rfl, fa, hQ, hE⟩ := h
    refine ⟨_, pss_one (ps_if (pt_not (pt_val (pe_meth (pv 0) T.cl mH GH hr bH .nil pass0 (pa_cons (pv 1) pa_nil)))) (pss_one (ps_raise rfl (takes_of rfl rfl rfl rfl) (pmk_own PySem.F.excBase_ValueError R.x R.g R.k (raises_own R.s R.t) rfl))) pss_nil), ?_⟩
    refine ⟨_, rfl, x, dx, _, rfl, fa.ob, flds_no _ _ _ _ (by decide +kernel) (by decide +kernel) (by decide +kernel) (by decide +kernel), _, rfl, x, dx, lr, df, g, ws, i, rfl, fa, _, rfl, ?_⟩
    cases e : isCell ws i with
    | true => exact iteF (hQ e)
    | false => exact iteT (hE e)
end
end Sf
namespace Sf
open PySem L2
/-! ### the law's own telling, and that it is the same -/
def lmay (ws : List Str) (i j : Int) : Bool :=
  if 0 ≤ i ∧ i < ((wide ws * ws.length : Nat) : Int) ∧ 0 ≤ j ∧ j < ((wide ws * ws.length : Nat) : Int) then
    if i / (wide ws : Int) = j / (wide ws : Int) ∧ (i - j).natAbs = 1 then tk ".-" (atP ws i.toNat) && tk ".-" (atP ws j.toNat)
    else if i % (wide ws : Int) = j % (wide ws : Int) ∧ (i / (wide ws : Int) - j / (wide ws : Int)).natAbs = 1 then tk ".|" (atP ws i.toNat) && tk ".|" (atP ws j.toNat)
    else false
  else false
theorem ifc {α : Type} {b c : Prop} [Decidable b] [Decidable c] {x y u v : α} (h : b ↔ c) (h1 : x = u) (h2 : y = v) : (if b then x else y) = if c then u else v := by
  by_cases hb : b
  · rw [if_pos hb, if_pos (h.mp hb), h1]
  · rw [if_neg hb, if_neg (fun q => hb (h.mpr q)), h2]
theorem lmay_symm (ws : List Str) (i j : Int) : lmay ws i j = lmay ws j i := by
  unfold lmay
  refine ifc ⟨fun q => ⟨q.2.2.1, q.2.2.2, q.1, q.2.1⟩, fun q => ⟨q.2.2.1, q.2.2.2, q.1, q.2.1⟩⟩ (ifc ⟨fun q => ⟨q.1.symm, by omega⟩, fun q => ⟨q.1.symm, by omega⟩⟩ (Bool.and_comm _ _) (ifc ⟨fun q => ⟨q.1.symm, by omega⟩, fun q => ⟨q.1.symm, by omega⟩⟩ (Bool.and_comm _ _) rfl)) rfl
theorem tk_pillar : tk ".-" 35 = false ∧ tk ".|" 35 = false := by decide +kernel
theorem coord {wd r c r' c' : Nat} (h : c < wd) (h' : c' < wd) (e : r * wd + c = r' * wd + c') : r = r' ∧ c = c' := by
  have d1 : (r * wd + c) / wd = r := by rw [Nat.mul_comm, Nat.mul_add_div (by omega), Nat.div_eq_of_lt h, Nat.add_zero]
  have d2 : (r' * wd + c') / wd = r' := by rw [Nat.mul_comm, Nat.mul_add_div (by omega), Nat.div_eq_of_lt h', Nat.add_zero]
  have m1 : (r * wd + c) % wd = c := by rw [Nat.mul_comm, Nat.mul_add_mod, Nat.mod_eq_of_lt h]
  have m2 : (r' * wd + c') % wd = c' := by rw [Nat.mul_comm, Nat.mul_add_mod, Nat.mod_eq_of_lt h']
  constructor
  · rw [← d1, ← d2, e]
  · rw [← m1, ← m2, e]
theorem sgN_ne {ws : List Str} {r c : Int} (h : sgN ws r c ≠ 35) : 0 ≤ r ∧ r < (ws.length : Int) ∧ 0 ≤ c ∧ c < (wide ws : Int) ∧ sgN ws r c = signAt ws r.toNat c.toNat := by
  unfold sgN at h ⊢
  by_cases q : 0 ≤ r ∧ r < (ws.length : Int) ∧ 0 ≤ c ∧ c < (wide ws : Int)
  · exact ⟨q.1, q.2.1, q.2.2.1, q.2.2.2, if_pos q⟩
  · rw [if_neg q] at h
    exact absurd rfl h
/-- the places, by row and column -/
theorem place {ws : List Str} {i : Int} (h0 : 0 ≤ i) (h1 : i < ((wide ws * ws.length : Nat) : Int)) : ∃ r c : Nat, r < ws.length ∧ c < wide ws ∧ i = ((r * wide ws + c : Nat) : Int) ∧ i / (wide ws : Int) = (r : Int) ∧ i % (wide ws : Int) = (c : Int) ∧ atP ws i.toNat = signAt ws r c ∧
    i.toNat / wide ws = r ∧ i.toNat % wide ws = c := by
  obtain ⟨p, rfl⟩ : ∃ p : Nat, i = (p : Int) := ⟨i.toNat, by omega⟩
  have hp : p < wide ws * ws.length := by omega
  have hw : 0 < wide ws := by
    rcases Nat.eq_zero_or_pos (wide ws) with e | e
    · rw [e, Nat.zero_mul] at hp
      omega
    · exact e
  refine ⟨p / wide ws, p % wide ws, ?_, Nat.mod_lt _ hw, ?_, ?_, ?_, ?_, ?_, ?_⟩
  · exact Nat.div_lt_of_lt_mul hp
  · rw [Nat.mul_comm, Nat.div_add_mod]
  · exact (Int.natCast_ediv _ _).symm
  · exact (Int.natCast_emod _ _).symm
  · rfl
  · rfl
  · rfl
theorem isCell_iff {ws : List Str} {i : Int} : isCell ws i = true ↔ 0 ≤ i ∧ i < ((wide ws * ws.length : Nat) : Int) ∧ atP ws i.toNat ≠ 35 := by
  unfold isCell cellsOf
  rw [decide_eq_true_eq, cellsTo_mem, Nat.mul_comm]
  constructor
  · rintro ⟨h0, h1, h2⟩
    exact ⟨h0, by omega, h2⟩
  · rintro ⟨h0, h1, h2⟩
    exact ⟨h0, by omega, h2⟩
/-- what is beside, told by coordinates -/
def near (ws : List Str) (r c r' c' : Nat) : Prop := ∃ p ∈ steps, tk p.2.2 (signAt ws r c) = true ∧ tk p.2.2 (signAt ws r' c') = true ∧ (r' : Int) = r + p.1 ∧ (c' : Int) = c + p.2.1
theorem tk_ne {p : Int × Int × Str} (hp : p ∈ steps) {n : Nat} (h : tk p.2.2 n = true) : n ≠ 35 := fun e => by
  have q : ∀ p ∈ steps, tk p.2.2 35 = false := by decide +kernel
  rw [e, q p hp] at h
  cases h
theorem mem_nbs {ws : List Str} {r c : Nat} (hr : r < ws.length) (hc : c < wide ws) {j : Int} : j ∈ nbs ws r c ↔ ∃ r' c' : Nat, r' < ws.length ∧ c' < wide ws ∧ j = ((r' * wide ws + c' : Nat) : Int) ∧ near ws r c r' c' := by
  unfold nbs
  rw [List.mem_map]
  constructor
  · rintro ⟨p, hp, rfl⟩
    obtain ⟨hps, hok⟩ := List.mem_filter.mp hp
    unfold stepOk at hok
    obtain ⟨h1, h2⟩ := Bool.and_eq_true_iff.mp hok
    rw [sgN_in hr hc] at h1
    obtain ⟨a1, a2, a3, a4, a5⟩ := sgN_ne (tk_ne hps h2)
    rw [a5] at h2
    refine ⟨((r : Int) + p.1).toNat, ((c : Int) + p.2.1).toNat, by omega, by omega, ?_, p, hps, h1, h2, by omega, by omega⟩
    unfold stepTo
    rw [Int.natCast_add, Int.natCast_mul, Int.toNat_of_nonneg a1, Int.toNat_of_nonneg a3]
    omega
  · rintro ⟨r', c', hr', hc', rfl, p, hps, h1, h2, e1, e2⟩
    refine ⟨p, List.mem_filter.mpr ⟨hps, ?_⟩, ?_⟩
    · unfold stepOk
      rw [sgN_in hr hc, ← e1, ← e2, sgN_in hr' hc', h1, h2] <;> rfl
    · unfold stepTo
      rw [Int.natCast_add, Int.natCast_mul, ← e1]
      omega
theorem near_iff {ws : List Str} {r c r' c' : Nat} : near ws r c r' c' ↔ (r = r' ∧ ((c' : Int) - c).natAbs = 1 ∧ tk ".-" (signAt ws r c) = true ∧ tk ".-" (signAt ws r' c') = true) ∨ (c = c' ∧ ((r' : Int) - r).natAbs = 1 ∧ tk ".|" (signAt ws r c) = true ∧ tk ".|" (signAt ws r' c') = true) := by
  unfold near steps
  constructor
  · rintro ⟨p, hp, h1, h2, e1, e2⟩
    rcases List.mem_cons.mp hp with rfl | hp
    · exact .inr ⟨by simp only at e2; omega, by simp only at e1; omega, h1, h2⟩
    rcases List.mem_cons.mp hp with rfl | hp
    · exact .inl ⟨by simp only at e1; omega, by simp only at e2; omega, h1, h2⟩
    rcases List.mem_cons.mp hp with rfl | hp
    · exact .inl ⟨by simp only at e1; omega, by simp only at e2; omega, h1, h2⟩
    rcases List.mem_cons.mp hp with rfl | hp
    · exact .inr ⟨by simp only at e2; omega, by simp only at e1; omega, h1, h2⟩
    · cases hp
  · rintro (⟨rfl, h, h1, h2⟩ | ⟨rfl, h, h1, h2⟩)
    · by_cases hc : (c' : Int) = c + 1
      · exact ⟨(0, 1, ".-"), by simp, h1, h2, by simp only; omega, by simp only; omega⟩
      · exact ⟨(0, -1, ".-"), by simp, h1, h2, by simp only; omega, by simp only; omega⟩
    · by_cases hc : (r' : Int) = r + 1
      · exact ⟨(1, 0, ".|"), by simp, h1, h2, by simp only; omega, by simp only; omega⟩
      · exact ⟨(-1, 0, ".|"), by simp, h1, h2, by simp only; omega, by simp only; omega⟩
theorem may_eq (ws : List Str) (i j : Int) : mayB ws i j = lmay ws i j := by
  by_cases hi : 0 ≤ i ∧ i < ((wide ws * ws.length : Nat) : Int)
  · obtain ⟨r, c, hr, hc, ei, e1, e2, e3, e4, e5⟩ := place hi.1 hi.2
    have enb : nbsP ws i.toNat = nbs ws r c := by
      unfold nbsP
      rw [e4, e5]
    by_cases hj : 0 ≤ j ∧ j < ((wide ws * ws.length : Nat) : Int)
    · obtain ⟨r', c', hr', hc', ej, f1, f2, f3, f4, f5⟩ := place hj.1 hj.2
      have nr : j ∈ nbs ws r c ↔ near ws r c r' c' := by
        rw [mem_nbs hr hc]
        constructor
        · rintro ⟨r2, c2, h1, h2, e, h⟩
          rw [ej] at e
          obtain ⟨rfl, rfl⟩ := coord hc' h2 (Int.ofNat.inj e)
          exact h
        · exact fun h => ⟨r', c', hr', hc', ej, h⟩
      unfold lmay
      rw [if_pos ⟨hi.1, hi.2, hj.1, hj.2⟩, e1, f1, e2, f2, e3, f3]
      have key : mayB ws i j = true ↔ near ws r c r' c' := by
        unfold mayB
        rw [Bool.and_eq_true_iff, decide_eq_true_eq, enb, nr]
        constructor
        · exact fun h => h.2
        · intro h
          refine ⟨isCell_iff.mpr ⟨hi.1, hi.2, ?_⟩, h⟩
          rw [e3]
          obtain ⟨p, hp, h1, _⟩ := h
          exact tk_ne hp h1
      rw [Bool.eq_iff_iff, key, near_iff]
      by_cases c1 : (r : Int) = (r' : Int) ∧ (i - j).natAbs = 1
      · rw [if_pos c1, Bool.and_eq_true_iff]
        have er : r = r' := by omega
        subst er
        have hcc : ((c' : Int) - c).natAbs = 1 := by omega
        constructor
        · rintro (h | h)
          · exact h.2.2
          · omega
        · exact fun h => .inl ⟨rfl, hcc, h⟩
      · rw [if_neg c1]
        have n1 : ¬ (r = r' ∧ ((c' : Int) - c).natAbs = 1) := by
          rintro ⟨rfl, h⟩
          exact c1 ⟨rfl, by omega⟩
        by_cases c2 : (c : Int) = (c' : Int) ∧ ((r : Int) - (r' : Int)).natAbs = 1
        · rw [if_pos c2, Bool.and_eq_true_iff]
          constructor
          · rintro (h | h)
            · exact absurd ⟨h.1, h.2.1⟩ n1
            · exact h.2.2
          · exact fun h => .inr ⟨by omega, by omega, h⟩
        · rw [if_neg c2]
          constructor
          · rintro (h | h)
            · exact absurd ⟨h.1, h.2.1⟩ n1
            · exact absurd ⟨by omega, by omega⟩ c2
          · exact fun h => absurd h Bool.false_ne_true
    · have e : lmay ws i j = false := by
        unfold lmay
        rw [if_neg (fun q => hj ⟨q.2.2.1, q.2.2.2⟩)]
      rw [e]
      unfold mayB
      rw [enb, Bool.and_eq_false_iff]
      refine .inr (decide_eq_false ?_)
      rw [mem_nbs hr hc]
      rintro ⟨r', c', h1, h2, rfl, _⟩
      refine hj ⟨by omega, ?_⟩
      have : r' * wide ws + c' < wide ws * ws.length := by
        have q : (r' + 1) * wide ws ≤ ws.length * wide ws := Nat.mul_le_mul_right _ h1
        rw [Nat.succ_mul] at q
        rw [Nat.mul_comm (wide ws)]
        omega
      omega
  · have e : lmay ws i j = false := by
      unfold lmay
      rw [if_neg (fun q => hi ⟨q.1, q.2.1⟩)]
    rw [e]
    unfold mayB
    rw [Bool.and_eq_false_iff]
    refine .inl ?_
    rw [Bool.eq_false_iff]
    intro q
    obtain ⟨h0, h1, _⟩ := isCell_iff.mp q
    exact hi ⟨h0, h1⟩
/-! ### the signs in one text -/
theorem flat_len {wd : Nat} : ∀ {ws : List Str}, (∀ a ∈ ws, a.length = wd) → (Gx2.flat ws).length = ws.length * wd
  | [], _ => by rw [List.length_nil, Nat.zero_mul] <;> rfl
  | a :: r, h => by
    have ha : a.cps.toList.length = wd := by rw [Array.length_toList]; exact h a List.mem_cons_self
    show ((a :: r).flatMap _).length = _
    rw [List.flatMap_cons, List.length_append, ha, List.length_cons, Nat.succ_mul]
    have := flat_len (ws := r) fun z hz => h z (List.mem_cons_of_mem _ hz)
    show wd + (Gx2.flat r).length = _
    omega
theorem flat_row {wd : Nat} : ∀ {ws : List Str}, (∀ a ∈ ws, a.length = wd) → ∀ (r c : Nat), r < ws.length → c < wd → (Gx2.flat ws)[r * wd + c]? = (ws.getD r ("" : Str)).cps.toList[c]?
  | [], _, r, c, h, _ => by cases h
  | a :: t, h, 0, c, _, hc => by
    have ha : a.cps.toList.length = wd := by rw [Array.length_toList]; exact h a List.mem_cons_self
    show ((a :: t).flatMap (fun a : Str => a.cps.toList))[0 * wd + c]? = _
    rw [List.flatMap_cons, Nat.zero_mul, Nat.zero_add, List.getElem?_append_left (by omega)]
    rfl
  | a :: t, h, r + 1, c, hr, hc => by
    have ha : a.cps.toList.length = wd := by rw [Array.length_toList]; exact h a List.mem_cons_self
    show ((a :: t).flatMap (fun a : Str => a.cps.toList))[(r + 1) * wd + c]? = _
    rw [List.flatMap_cons, List.getElem?_append_right (by rw [ha, Nat.succ_mul]; omega), ha]
    have e : (r + 1) * wd + c - wd = r * wd + c := by
      rw [Nat.succ_mul]
      omega
    rw [e]
    have := flat_row (ws := t) (fun z hz => h z (List.mem_cons_of_mem _ hz)) r c (Nat.lt_of_succ_lt_succ hr) hc
    rw [show (t.flatMap fun a : Str => a.cps.toList) = Gx2.flat t from rfl, this]
    rfl
theorem flat_atP {ws : List Str} (w : Wf ws) {p : Nat} (hp : p < ws.length * wide ws) : (Gx2.flat ws)[p]? = some (atP ws p) := by
  have hw : 0 < wide ws := by
    rcases Nat.eq_zero_or_pos (wide ws) with e | e
    · rw [e, Nat.mul_zero] at hp
      omega
    · exact e
  have hr : p / wide ws < ws.length := Nat.div_lt_of_lt_mul (by rw [Nat.mul_comm]; exact hp)
  have hc : p % wide ws < wide ws := Nat.mod_lt _ hw
  have e : p / wide ws * wide ws + p % wide ws = p := by rw [Nat.mul_comm, Nat.div_add_mod]
  have := flat_row (fun a ha => w.len a ha) (p / wide ws) (p % wide ws) hr hc
  rw [e] at this
  rw [this, sign_at w hr hc]
  rfl
end Sf
/-! sorted(d) of a dict of int keys, of any number. -/
namespace Gs
open PySem PySem.Spec PyProof.Rows L2
theorem key_ints : ∀ {acc : List Value} {ks : List Int}, acc.length = ks.length → (∀ (j : Nat) (v : Value), acc[j]? = some v → ∃ (y : Int) (t : Tok), ks[j]? = some y ∧ v = .int y t) → IntsAre acc ks
  | [], [], _, _ => .nil
  | [], _ :: _, e, _ => by cases e
  | _ :: _, [], e, _ => by cases e
  | v :: acc, k :: ks, e, h => by
    obtain ⟨y, t, e1, e2⟩ := h 0 v rfl
    have e3 : k = y := Option.some.inj e1
    rw [e2, ← e3]
    exact .cons k t (key_ints (Nat.succ.inj e) fun j u q => h (j + 1) u q)
theorem call_sortedAny {X : Cx} (calm : X.calm = true) : CallR X (.builtin "sorted") (fun xs G Q => ∃ (a : Addr) (kvs : List (Key × V)) (ks : List Int), xs = [.ref a] ∧ Rd G a (.dK kvs) ∧ kvs.map (·.1) = ks.map Sum.inl ∧ ks.length ≤ 1000 ∧
    ∀ (ys : List Int) (p : Addr), ys.Perm ks → ys.Pairwise (· ≤ ·) → G p = none → Q (.ref p) (upd G p (.lst (ys.map V.int)))) := by
  intro pins s τ G xs us Q I r wish
  obtain ⟨a, kvs, ks, rfl, rd, hks, hmany, q⟩ := wish
  obtain ⟨u, rfl, rx⟩ := vals1 r
  cases rx
  obtain ⟨_, loose, vs, rel, dd⟩ := dk_rd I.hok rd
  obtain ⟨ep, stands⟩ := dd.dictAt
  have keys : vs.map (·.1) = ks.map Sum.inl := by rw [← rel.keys, hks]
  have many : vs.length = ks.length := by
    have := congrArg List.length keys
    simpa using this
  have fits : ks.length ≤ sizeLine := Nat.le_trans hmany (by decide)
  refine Calls.call_function_entry kind_sorted plain_sorted entry_sorted (args_sorted1 _) ?_
  unfold Builtin.«sorted»
  refine wpAny_bind (m := checkCount "sorted" 1 1 _) (wpAny_pure ?_)
  refine wpAny_bind (PySem.W.kdu_collect (A := X.A.in1) (PySem.W.kdl_dict (knd := mixKind X.prog X.w) (kvs := vs) (ep := ep) loose) (I.ok.hd calm) stands (by rw [many]; exact fits) ?_)
  intro h1 tk acc kept told
  have len : acc.toList.length = ks.length := by rw [Array.length_toList, told.1, many]
  have isI : IntsAre acc.toList ks := key_ints len fun j v e => by
    obtain ⟨k, x, e1, e2⟩ := told.2 j v (by rw [← Array.getElem?_toList]; exact e)
    have e3 : (ks.map (Sum.inl : Int → Key))[j]? = some k := by rw [← keys, List.getElem?_map, e1] <;> rfl
    rw [List.getElem?_map] at e3
    obtain ⟨y, e4, e5⟩ := Option.map_eq_some_iff.mp e3
    rcases keyIs_shape (show keyIs k v = true from e2) with ⟨i, t, ek, ev⟩ | ⟨z, t, ek, ev⟩
    · rw [← e5] at ek
      cases ek
      exact ⟨y, t, e4, ev⟩
    · rw [← e5] at ek
      cases ek
  have I1 : Inv X pins τ G { s with heap := h1, toks := tk } := I.kept kept
  refine wpAny_bind (wpAny_newList ?_ (by rw [len]; exact fits))
  have laid : (h1.push (seqObj "list" acc.toList.toArray 0)).get? h1.objs.size = some (seqObj "list" acc.toList.toArray 0) := Heap.get?_push_size _ rfl
  have sorts := fun (h2 : 2 ≤ acc.toList.length) => SrtO.ints_sortable (prog := X.prog) (w := X.w) (A := X.A.in1.in1) (s := { s with heap := h1.push (seqObj "list" acc.toList.toArray 0), toks := tk }) (a := h1.objs.size) isI h2
  show wpAny _ _ _ _ _ { s with heap := h1.push (seqObj "list" acc.toList.toArray 0), toks := tk }
  refine wpAny_bind (wpAny_holding (wpAny_call_entry slot_list_sort ⟨_, laid, rfl⟩ entry_list_sort (SrtO.list_sort_ord SrtO.swo_int laid (by rw [len]; exact fits) sorts ?_) (args_list_sort _)))
  intro out o1 o2
  refine ⟨_, rfl, ?_⟩
  obtain ⟨k1, k2, k3⟩ := SrtO.ints_out isI o1 o2
  obtain ⟨e9, he9⟩ := sortedHeap_at (vs := acc.toList) (out := out.toArray) laid
  have hlen : ((out.map SrtO.iv).map V.int).length ≤ sizeLine := by
    rw [List.length_map, k2.length_eq]
    exact fits
  refine wpAny_pure ⟨_, rfl, .ref h1.objs.size, upd G h1.objs.size (.lst ((out.map SrtO.iv).map V.int)), I1.laid (t' := tk) ?_ (Nat.le_refl _) ?_, rfl, q _ _ k2 k3 (I1.hok.fresh (Nat.le_refl _))⟩
  · intro b u e
    have hb : b < h1.objs.size := Heap.lt_size e
    rw [sortedHeap_old (Nat.ne_of_lt hb) (by rw [size_push']; exact Nat.lt_succ_of_lt hb)]
    exact Heap.get?_push_of_some _ e
  · exact (show ObjOk X.prog X.w _ _ _ (.lst ((out.map SrtO.iv).map V.int)) from ⟨hlen, out, e9, vals_of_ints k1, he9⟩)
end Gs
/-! An object of an own class that has no __eq__ and no __ne__, held against itself. -/
namespace Go
open PySem PySem.Spec PyProof.Rows L2
def SelfC (K : PySem.W.Frag) (C : Addr) : Prop := ∃ (nm q : Str) (N : Addr) (bs : List Value) (hd : Bool) (sn : List Str) (sub : List Value) (ab : Bool) (col : Option Bool) (dd : Option Addr) (m0 m1 m2 m3 m5 : Option Value) (nw : String),
  K.lookup C = some (excClassObj nm q C N bs [.type "object"] hd sn sub ab col dd m0 m1 m2 m3 m5 nw) ∧ PySem.W.nsOkIn K N = true ∧ PySem.W.nsIn K N "__eq__" = some none ∧ PySem.W.nsIn K N "__ne__" = some none
theorem op_neSelf {X : Cx} (room : X.A.units + 1 < cLine) : OpR X (compareOp .NotEq) (fun x y G Q => ∃ (a C dx : Addr) (fs : List (Str × V)), x = .ref a ∧ y = .ref a ∧ G a = some (.ins C dx fs) ∧ SelfC X.K C ∧ Q (.bl false) G) := by
  intro pins s τ G x y v u Q I rx ry wish
  obtain ⟨a, C, dx, fs, rfl, rfl, here, ⟨nm, q, N, bs, hd, sn, sub, ab, col, dd, m0, m1, m2, m3, m5, nw, lk, okN, noE, noN⟩, go⟩ := wish
  cases rx
  cases ry
  obtain ⟨_, _, _, stands, _⟩ := I.hok a _ here
  have ki := I.kIn
  have inst : s.heap.CmpInst a C [.type "object"] := ⟨_, nm, q, N, bs, hd, sn, sub, ab, col, dd, m0, m1, m2, m3, m5, nw, _, stands, rfl, ki _ _ lk, .of_isNs (PySem.W.isNs_of_in ki okN), PySem.W.nsMap_none_of_in ki okN noE, PySem.W.nsMap_none_of_in ki okN noN⟩
  exact compareOp_ne_same PySem.F.cmp_object inst room ⟨.bl false, G, I, rfl, go⟩
end Go
namespace Sf
open PySem PySem.Spec PyProof.Rows L2
/-! ### the Laying object -/
def lfl (x d : Addr) : List (Str × V) := putF "over" (.ref d) (putF "floor" (.ref x) [])
theorem lne : ¬ (("floor" : Str) = "over") := by decide +kernel
theorem lfl_floor (x d : Addr) : (lfl x d).lookup ("floor" : Str) = some (.ref x) := by
  unfold lfl
  rw [lookup_putF, if_neg lne, lookup_putF, if_pos rfl]
theorem lfl_over (x d : Addr) : (lfl x d).lookup ("over" : Str) = some (.ref d) := by
  unfold lfl
  rw [lookup_putF, if_pos rfl]
theorem lfl_no (x d : Addr) {m : Str} (h1 : ¬ m = "over") (h2 : ¬ m = "floor") : (lfl x d).lookup m = none := by
  unfold lfl
  rw [lookup_putF, if_neg h1, lookup_putF, if_neg h2]
  rfl
/-- the slabs: each cell and the cell that it is covered with -/
abbrev Ovr := List (Int × Int)
def look (ov : Ovr) (i : Int) : Option Int := (ov.find? fun p => decide (p.1 = i)).map (·.2)
def dk (ov : Ovr) : List (Key × V) := ov.map fun p => ((Sum.inl p.1 : Key), V.int p.2)
theorem dk_val (i : Int) : ∀ ov : Ovr, valV (dk ov) (Sum.inl i : Key) = (look ov i).map V.int
  | [] => rfl
  | p :: r => by
    show valV (((Sum.inl p.1 : Key), V.int p.2) :: dk r) _ = _
    unfold look
    rw [List.find?_cons]
    by_cases e : p.1 = i
    · rw [decide_eq_true e, valV_pos (by rw [e])]
      rfl
    · rw [decide_eq_false e, valV_neg (fun q => e (Sum.inl.inj q))]
      exact dk_val i r
theorem dk_put {ov : Ovr} {i j : Int} (h : look ov i = none) : putK (dk ov) (Sum.inl i : Key) (V.int j) = dk (ov ++ [(i, j)]) := by
  rw [putK_new _ (by rw [dk_val, h] <;> rfl)]
  unfold dk
  rw [List.map_append] <;> rfl
theorem dk_drop (i : Int) (ov : Ovr) : dropK (dk ov) (Sum.inl i : Key) = dk (ov.filter fun p => decide (p.1 ≠ i)) := by
  unfold dropK dk
  rw [List.filter_map]
  congr 1
  refine List.filter_congr fun p _ => ?_
  show decide ((Sum.inl p.1 : Key) ≠ Sum.inl i) = decide (p.1 ≠ i)
  refine decide_eq_decide.mpr ⟨fun h q => h (by rw [q]), fun h q => h (Sum.inl.inj q)⟩
theorem look_snoc {ov : Ovr} {i j k : Int} (h : look ov i = none) : look (ov ++ [(i, j)]) k = if k = i then some j else look ov k := by
  unfold look at h ⊢
  rw [List.find?_append]
  by_cases e : k = i
  · subst e
    have h2 : (ov.find? fun p => decide (p.1 = k)) = none := by
      cases q : ov.find? fun p => decide (p.1 = k) with
      | none => rfl
      | some p => rw [q] at h; cases h
    rw [h2, if_pos rfl]
    rw [Option.none_or, List.find?_cons, decide_eq_true rfl] <;> rfl
  · rw [if_neg e]
    cases q : ov.find? fun p => decide (p.1 = k) with
    | none =>
      rw [Option.none_or, List.find?_cons, decide_eq_false (fun q => e q.symm)] <;> rfl
    | some p => rfl
theorem look_drop (i k : Int) : ∀ ov : Ovr, look (ov.filter fun p => decide (p.1 ≠ i)) k = if k = i then none else look ov k
  | [] => by
    rw [List.filter_nil]
    by_cases e : k = i
    · rw [if_pos e] <;> rfl
    · rw [if_neg e]
  | p :: r => by
    have ih := look_drop i k r
    rw [List.filter_cons]
    by_cases e : p.1 = i
    · rw [if_neg (by rw [decide_eq_true_eq]; exact fun q => q e), ih]
      by_cases e2 : k = i
      · rw [if_pos e2, if_pos e2]
      · rw [if_neg e2, if_neg e2]
        unfold look
        rw [List.find?_cons, decide_eq_false (fun q => e2 (q.symm.trans e))]
    · rw [if_pos (decide_eq_true e)]
      unfold look at ih ⊢
      rw [List.find?_cons, List.find?_cons]
      by_cases e3 : p.1 = k
      · rw [decide_eq_true e3]
        rw [if_neg (fun q => e (e3.trans q))]
      · rw [decide_eq_false e3]
        exact ih
structure LayAt (CL : Addr) (H : Hp) (y dy x d : Addr) (ov : Ovr) : Prop where
  ob : H y = some (.ins CL dy (lfl x d))
  dc : H d = some (.dK (dk ov))
theorem LayAt.same {CL : Addr} {H H' : Hp} {y dy x d : Addr} {ov : Ovr} (a : LayAt CL H y dy x d ov) (s : Same H H') : LayAt CL H' y dy x d ov := ⟨s _ _ a.ob, s _ _ a.dc⟩
structure LTxt (K : PySem.W.Frag) (mg : Str → Option Value) (CL : Addr) : Prop where
  cl : Cls K CL
  nF : NoAttr K CL "floor"
  nO : NoAttr K CL "over"
  mgC : mg "Laying" = some (.ref CL)
def has (ov : Ovr) (i : Int) : Bool := (look ov i).isSome
/-- how a slab's put ends: 0 well, 1 no cell, 2 not beside, 3 covered -/
def putN (ws : List Str) (ov : Ovr) (i j : Int) : Nat := if (isCell ws i && isCell ws j) = true then (if mayB ws i j = true then (if (has ov i || has ov j) = true then 3 else 0) else 2) else 1
/-- how a lift ends: 0 well, 1 no cell, 4 uncovered -/
def liftN (ws : List Str) (ov : Ovr) (i : Int) : Nat := if isCell ws i = true then (if has ov i = true then 0 else 4) else 1
def clsD (cN cB cC cU : Addr) : Nat → Addr
  | 1 => cN
  | 2 => cB
  | 3 => cC
  | _ => cU
/-- each slab covers two cells -/
def Sym (ov : Ovr) : Prop := ∀ i j, look ov i = some j → look ov j = some i ∧ i ≠ j
def lifted (ov : Ovr) (i j : Int) : Ovr := (ov.filter fun p => decide (p.1 ≠ i)).filter fun p => decide (p.1 ≠ j)
theorem may_ne {ws : List Str} {i j : Int} (h : mayB ws i j = true) : i ≠ j := fun e => by
  subst e
  rw [may_eq] at h
  unfold lmay at h
  split at h
  · rw [if_neg (fun q => by have := q.2; omega), if_neg (fun q => by have := q.2; omega)] at h
    cases h
  · cases h
def spLInit (CL : Addr) : Sp := fun vs H Q _ => ∃ (y dy x : Addr), vs = [.ref y, .ref x] ∧ H y = some (.ins CL dy []) ∧ ∀ (d : Addr) (H' : Hp), H d = none → (∀ b o, b ≠ y → H b = some o → H' b = some o) → LayAt CL H' y dy x d [] → Q .non H'
def spPut (C CL cN cB cC cU : Addr) : Sp := fun vs H Q E => ∃ (y dy x dx lr df d : Addr) (f : Nat → Addr) (ws : List Str) (ov : Ovr) (i j : Int), vs = [.ref y, .int i, .int j] ∧ LayAt CL H y dy x d ov ∧ FloorAt C H x dx lr df f ws ∧ ov.length ≤ 900 ∧
  (putN ws ov i j = 0 → ∀ H', (∀ b, b ≠ d → H' b = H b) → H' d = some (.dK (dk (ov ++ [(i, j)] ++ [(j, i)]))) → Q .non H') ∧ (putN ws ov i j ≠ 0 → E (.ref (clsD cN cB cC cU (putN ws ov i j))) none H)
def spLift (C CL cN cB cC cU : Addr) : Sp := fun vs H Q E => ∃ (y dy x dx lr df d : Addr) (f : Nat → Addr) (ws : List Str) (ov : Ovr) (i : Int), vs = [.ref y, .int i] ∧ LayAt CL H y dy x d ov ∧ FloorAt C H x dx lr df f ws ∧ Sym ov ∧
  (liftN ws ov i = 0 → ∀ (j : Int) (H' : Hp), look ov i = some j → (∀ b, b ≠ d → H' b = H b) → H' d = some (.dK (dk (lifted ov i j))) → Q .non H') ∧ (liftN ws ov i ≠ 0 → E (.ref (clsD cN cB cC cU (liftN ws ov i))) none H)
section
variable {P : Program} {w : World} {K : PySem.W.Frag} {mg : Str → Option Value} {base : Heap}
theorem scLI : FnScope ["self", "floor"] ["self", "floor"] (defScope sLaying___init__) := ⟨rfl, rfl, rfl, by decide +kernel, rfl, by decide +kernel, by decide +kernel⟩
theorem ok_linit {f CL : Addr} {fd : FuncData} (F : Fun K "__init__" "Laying.__init__" sLaying___init__ f fd) (T : LTxt K mg CL) : FnOk P w K mg base CX0 1 f fd ["self", "floor"] (spLInit CL) := by
  refine F.ok scLI (fun vs H Q E h => ?_) (fun cdv A outer s H vs Q E hr h => ?_)
  · obtain ⟨y, dy, x, rfl, _⟩ := h
    rfl
  · obtain ⟨y, dy, x, rfl, hy, hQ⟩ := h
    refine ⟨_, pss_cons (ps_fld (pv 0) (pv 1) rfl) (pss_one (ps_fld (pv 0) pe_dnewK rfl)), ?_⟩
    refine ⟨_, rfl, _, rfl, y, CL, dy, _, rfl, hy, T.cl, T.nF, (by show 0 < 1000; decide), fun d hd => ?_⟩
    have ny : d ≠ y := fun q => by rw [q, upd_same] at hd; cases hd
    have hd0 : H d = none := by rw [upd_ne ny] at hd; exact hd
    refine ⟨_, rfl, y, CL, dy, _, rfl, (by rw [upd_ne ny.symm, upd_same]), T.cl, T.nO, (by show 1 < 1000; decide), ?_⟩
    refine hQ d _ hd0 (fun b o hb e => ?_) ⟨upd_same, ?_⟩
    · rw [upd_ne hb, upd_ne (ne_of_none e hd0), upd_ne hb]
      exact e
    · rw [upd_ne ny, upd_same] <;> rfl
theorem scPut : FnScope ["self", "one", "other"] ["self", "one", "other"] (defScope sLaying_put) := ⟨rfl, rfl, rfl, by decide +kernel, rfl, by decide +kernel, by decide +kernel⟩
theorem ok_put {f fr fm C CL cN cB cC cU : Addr} {fd fdr fdm : FuncData} (F : Fun K "put" "Laying.put" sLaying_put f fd) (T : FTxt K mg C) (L : LTxt K mg CL)
    (GR : FnOk P w K mg base (L2.CX P w) 2 fr fdr ["floor", "number"] (spRef C cN)) (gR : mg "refuse_no_cell" = some (.ref fr)) (kR : PySem.W.keepIn K (.ref fr) = true) (bR : Binds K fdr ["floor", "number"] [])
    (GM : FnOk P w K mg base CX0 2 fm fdm ["self", "one", "other"] (spMay C)) (mM : Meth K C "may" fm) (bM : Binds K fdm ["self", "one", "other"] []) (RB : Rz K mg "NotBeside" cB) (RC : Rz K mg "Covered" cC) :
    FnOk P w K mg base (L2.CX P w) 3 f fd ["self", "one", "other"] (spPut C CL cN cB cC cU) := by
  refine F.okX scPut (fun vs H Q E h => ?_) (fun cdv A outer s H vs Q E hr h => ?_)
  · obtain ⟨y, dy, x, dx, lr, df, d, g, ws, ov, i, j, rfl, _⟩ := h
    rfl
  · obtain ⟨y, dy, x, dx, lr, df, d, g, ws, ov, i, j, rfl, la, fa, hn, hQ, hE⟩ := h
    have hu := hu_of hr
    have go : Passes (L2.CX P w) (cxOf (L2.CX P w) P w K mg base ["self", "one", "other"] "Laying.put" (defScope sLaying_put) f cdv A outer s H E) E := passes_call (takes_of rfl rfl rfl rfl) (fun _ _ _ _ h => h)
    refine ⟨_, pss_cons (ps_expr (pe_call GR hr rfl gR kR bR .nil go (pa_cons (pe_fld (pv 0) rfl) (pa_cons (pv 1) pa_nil))))
      (pss_cons (ps_expr (pe_call GR hr rfl gR kR bR .nil go (pa_cons (pe_fld (pv 0) rfl) (pa_cons (pv 2) pa_nil))))
      (pss_cons (ps_if (pt_not (pt_val (pe_meth (pe_fld (pv 0) rfl) T.cl mM GM hr bM .nil pass0 (pa_cons (pv 1) (pa_cons (pv 2) pa_nil))))) (pss_one (ps_raise rfl (takes_of rfl rfl rfl rfl) (pmk_own PySem.F.excBase_ValueError RB.x RB.g RB.k (raises_own RB.s RB.t) rfl))) pss_nil)
      (pss_cons (ps_if (PW.pt (pw_or (pt_cmp (pc_din hu (pv 1) (pe_fld (pv 0) rfl)) rfl) (pw_or1 (pt_cmp (pc_din hu (pv 2) (pe_fld (pv 0) rfl)) rfl)))) (pss_one (ps_raise rfl (takes_of rfl rfl rfl rfl) (pmk_own PySem.F.excBase_ValueError RC.x RC.g RC.k (raises_own RC.s RC.t) rfl))) pss_nil)
      (pss_cons (ps_dput hu (pe_fld (pv 0) rfl) (pv 1) (pv 2) rfl)
      (pss_one (ps_dput hu (pe_fld (pv 0) rfl) (pv 2) (pv 1) rfl)))))), ?_⟩
    have lno : ∀ m : Str, ¬ m = "over" → ¬ m = "floor" → (lfl x d).lookup m = none := fun m => lfl_no x d
    have nM : (flds lr ws df (g (topP ws))).lookup ("may" : Str) = none := flds_no _ _ _ _ (by decide +kernel) (by decide +kernel) (by decide +kernel) (by decide +kernel)
    have no1 : (isCell ws i && isCell ws j) = false → E (.ref cN) none H := fun e => by
      have q : putN ws ov i j = 1 := by unfold putN; rw [e, if_neg Bool.false_ne_true]
      rw [q] at hE
      exact hE (by decide)
    refine ⟨_, rfl, y, CL, dy, _, _, rfl, la.ob, L.cl, L.nF, lfl_floor _ _, _, rfl, x, dx, lr, df, g, ws, i, rfl, fa, fun ci => ?_, fun ci => no1 (by rw [ci, Bool.false_and])⟩
    refine ⟨_, rfl, y, CL, dy, _, _, rfl, la.ob, L.cl, L.nF, lfl_floor _ _, _, rfl, x, dx, lr, df, g, ws, j, rfl, fa, fun cj => ?_, fun cj => no1 (by rw [cj, Bool.and_false])⟩
    refine ⟨_, rfl, y, CL, dy, _, _, rfl, la.ob, L.cl, L.nF, lfl_floor _ _, x, dx, _, rfl, fa.ob, nM, _, rfl, _, rfl, x, dx, lr, df, g, ws, i, j, rfl, fa, _, rfl, ?_⟩
    have both : (isCell ws i && isCell ws j) = true := by rw [ci, cj] <;> rfl
    cases hm : mayB ws i j with
    | false =>
      refine iteT ?_
      have q : putN ws ov i j = 2 := by unfold putN; rw [both, hm, if_pos rfl, if_neg Bool.false_ne_true]
      rw [q] at hE
      exact hE (by decide)
    | true =>
    refine iteF ?_
    have q3 : (has ov i || has ov j) = true → E (.ref cC) none H := fun e => by
      have q : putN ws ov i j = 3 := by unfold putN; rw [both, hm, e, if_pos rfl, if_pos rfl, if_pos rfl]
      rw [q] at hE
      exact hE (by decide)
    have dg : ∀ i, DGet H d (V.int i) ((look ov i).map V.int) := fun i => by
      have q := DGet.k (k := (Sum.inl i : Key)) la.dc
      rw [dk_val] at q
      exact q
    have hs : ∀ i, ((look ov i).map V.int).isSome = has ov i := fun i => by
      unfold has
      cases look ov i <;> rfl
    refine ⟨_, rfl, _, rfl, y, CL, dy, _, _, rfl, la.ob, L.cl, L.nO, lfl_over _ _, d, _, rfl, dg i, _, rfl, ?_⟩
    rw [hs]
    refine ite2 (fun hi => ?_) (fun hi => ?_)
    · exact iteT (q3 (by rw [hi, Bool.true_or]))
    refine ⟨_, rfl, _, rfl, y, CL, dy, _, _, rfl, la.ob, L.cl, L.nO, lfl_over _ _, d, _, rfl, dg j, _, rfl, ?_⟩
    rw [hs]
    refine ite2 (fun hj => ?_) (fun hj => ?_)
    · exact q3 (by rw [hj, Bool.or_true])
    have li : look ov i = none := by
      cases e : look ov i with
      | none => rfl
      | some z => exact absurd (by unfold has; rw [e] <;> rfl) hi
    have lj : look ov j = none := by
      cases e : look ov j with
      | none => rfl
      | some z => exact absurd (by unfold has; rw [e] <;> rfl) hj
    have ne := may_ne hm
    have ndy : y ≠ d := fun q => by
      have := la.dc
      rw [← q, la.ob] at this
      cases this
    have sz : ∀ o : Ovr, o.length ≤ 1000 → (dk o).length < sizeLine := fun o h => by
      unfold dk
      rw [List.length_map]
      exact small1000 h
    refine ⟨_, rfl, _, rfl, y, CL, dy, _, _, rfl, la.ob, L.cl, L.nO, lfl_over _ _, _, rfl, d, _, rfl, DPut.k (k := (Sum.inl i : Key)) la.dc (sz ov (by omega)), ?_⟩
    rw [dk_put li]
    have l2 : look (ov ++ [(i, j)]) j = none := by rw [look_snoc li, if_neg (fun q => ne q.symm)]; exact lj
    refine ⟨_, rfl, _, rfl, y, CL, dy, _, _, rfl, (by rw [upd_ne ndy]; exact la.ob), L.cl, L.nO, lfl_over _ _, _, rfl, d, _, rfl, DPut.k (k := (Sum.inl j : Key)) upd_same (sz _ (by rw [List.length_append]; show ov.length + 1 ≤ 1000; omega)), ?_⟩
    rw [dk_put l2]
    refine hQ ?_ _ (fun b hb => by rw [upd_ne hb, upd_ne hb]) upd_same
    unfold putN
    rw [both, hm, if_pos rfl, if_pos rfl, if_neg]
    rw [Bool.or_eq_true]
    rintro (q | q)
    · exact hi q
    · exact hj q
theorem scLift : FnScope ["self", "cell", "other"] ["self", "cell"] (defScope sLaying_lift) := ⟨rfl, rfl, rfl, by decide +kernel, rfl, by decide +kernel, by decide +kernel⟩
theorem ok_lift {f fr C CL cN cB cC cU : Addr} {fd fdr : FuncData} (F : Fun K "lift" "Laying.lift" sLaying_lift f fd) (L : LTxt K mg CL)
    (GR : FnOk P w K mg base (L2.CX P w) 2 fr fdr ["floor", "number"] (spRef C cN)) (gR : mg "refuse_no_cell" = some (.ref fr)) (kR : PySem.W.keepIn K (.ref fr) = true) (bR : Binds K fdr ["floor", "number"] []) (RU : Rz K mg "Uncovered" cU) :
    FnOk P w K mg base (L2.CX P w) 3 f fd ["self", "cell"] (spLift C CL cN cB cC cU) := by
  refine F.okX scLift (fun vs H Q E h => ?_) (fun cdv A outer s H vs Q E hr h => ?_)
  · obtain ⟨y, dy, x, dx, lr, df, d, g, ws, ov, i, rfl, _⟩ := h
    rfl
  · obtain ⟨y, dy, x, dx, lr, df, d, g, ws, ov, i, rfl, la, fa, hy, hQ, hE⟩ := h
    have hu := hu_of hr
    have go : Passes (L2.CX P w) (cxOf (L2.CX P w) P w K mg base ["self", "cell", "other"] "Laying.lift" (defScope sLaying_lift) f cdv A outer s H E) E := passes_call (takes_of rfl rfl rfl rfl) (fun _ _ _ _ h => h)
    refine ⟨_, pss_cons (ps_expr (pe_call GR hr rfl gR kR bR .nil go (pa_cons (pe_fld (pv 0) rfl) (pa_cons (pv 1) pa_nil))))
      (pss_cons (ps_if (pt_cmp (pc_dnotin hu (pv 1) (pe_fld (pv 0) rfl)) rfl) (pss_one (ps_raise rfl (takes_of rfl rfl rfl rfl) (pmk_own PySem.F.excBase_ValueError RU.x RU.g RU.k (raises_own RU.s RU.t) rfl))) pss_nil)
      (pss_cons (ps_set (i := 2) scLift.nd rfl (Or.inl rfl) (pe_dget hu (pe_fld (pv 0) rfl) (pv 1) (fun _ _ => rfl)))
      (pss_cons (ps_ddel (pe_fld (pv 0) rfl) (pv 1))
      (pss_one (ps_ddel (pe_fld (pv 0) rfl) (pv 2)))))), ?_⟩
    refine ⟨_, rfl, y, CL, dy, _, _, rfl, la.ob, L.cl, L.nF, lfl_floor _ _, _, rfl, x, dx, lr, df, g, ws, i, rfl, fa, fun ci => ?_, fun ci => ?_⟩
    case _ =>
      have dg : DGet H d (V.int i) ((look ov i).map V.int) := by
        have q := DGet.k (k := (Sum.inl i : Key)) la.dc
        rw [dk_val] at q
        exact q
      refine ⟨_, rfl, _, rfl, y, CL, dy, _, _, rfl, la.ob, L.cl, L.nO, lfl_over _ _, d, _, rfl, dg, _, rfl, ?_⟩
      cases lk : look ov i with
      | none =>
        refine iteT ?_
        have q : liftN ws ov i = 4 := by
          unfold liftN has
          rw [ci, lk, if_pos rfl]
          rfl
        rw [q] at hE
        exact hE (by decide)
      | some j =>
        refine iteF ?_
        rw [lk] at dg
        have q0 : liftN ws ov i = 0 := by
          unfold liftN has
          rw [ci, lk, if_pos rfl]
          rfl
        obtain ⟨lj, ne⟩ := hy i j lk
        have ndy : y ≠ d := fun q => by
          have := la.dc
          rw [← q, la.ob] at this
          cases this
        refine ⟨_, rfl, y, CL, dy, _, _, rfl, la.ob, L.cl, L.nO, lfl_over _ _, _, rfl, d, _, rfl, dg, ?_⟩
        refine ⟨_, rfl, y, CL, dy, _, _, rfl, la.ob, L.cl, L.nO, lfl_over _ _, _, rfl, d, _, (Sum.inl i : Key), rfl, la.dc, rfl, (by rw [dk_val, lk] <;> rfl), ?_⟩
        rw [dk_drop]
        refine ⟨_, rfl, y, CL, dy, _, _, rfl, (by rw [upd_ne ndy]; exact la.ob), L.cl, L.nO, lfl_over _ _, _, rfl, d, _, (Sum.inl j : Key), rfl, upd_same, rfl, (by rw [dk_val, look_drop, if_neg (fun q => ne q.symm), lj] <;> rfl), ?_⟩
        rw [dk_drop]
        exact hQ q0 j _ lk (fun b hb => by rw [upd_ne hb, upd_ne hb]) upd_same
    case _ =>
      have q : liftN ws ov i = 1 := by
        unfold liftN
        rw [ci, if_neg Bool.false_ne_true]
      rw [q] at hE
      exact hE (by decide)
end
end Sf
namespace Sf
open PySem L2
def natI (ps : List Nat) : List Int := ps.map fun (p : Nat) => (p : Int)
theorem nats_eq (ps : List Nat) : nats ps = (natI ps).map V.int := by
  unfold nats natI
  rw [List.map_map]
  rfl
theorem mem_natI {ps : List Nat} {i : Int} : i ∈ natI ps ↔ 0 ≤ i ∧ i.toNat ∈ ps := by
  unfold natI
  rw [List.mem_map]
  constructor
  · rintro ⟨p, hp, rfl⟩
    exact ⟨by omega, by rw [Int.toNat_natCast]; exact hp⟩
  · rintro ⟨h0, h1⟩
    exact ⟨_, h1, by omega⟩
theorem dp_ints {K : PySem.W.Frag} {H : Hp} : ∀ xs : List Int, DpAll K H (xs.map V.int) (xs.map PyData.int)
  | [] => .nil
  | x :: r => .cons (.int x) (dp_ints r)
theorem dp_strs {K : PySem.W.Frag} {H : Hp} : ∀ xs : List Str, DpAll K H (xs.map V.str) (xs.map PyData.str)
  | [] => .nil
  | x :: r => .cons (.str x) (dp_strs r)
theorem shaped_atoms {ds : List PyData} (h : ∀ d ∈ ds, d.canLay0 = true ∧ d.depth = 0) : SeqAt.shaped (.list ds) = true := by
  have h1 : ∀ ds : List PyData, (∀ d ∈ ds, d.canLay0 = true ∧ d.depth = 0) → PyData.canLayAll0 ds = true ∧ PyData.depthAll ds = 0 := by
    intro ds
    induction ds with
    | nil => exact fun _ => ⟨rfl, rfl⟩
    | cons d r ih =>
      intro h
      obtain ⟨a, b⟩ := ih fun z hz => h z (List.mem_cons_of_mem _ hz)
      obtain ⟨c, e⟩ := h d List.mem_cons_self
      refine ⟨?_, ?_⟩
      · show (PyData.canLay0 d && PyData.canLayAll0 r) = true
        rw [c, a] <;> rfl
      · show max (PyData.depth d) (PyData.depthAll r) = 0
        rw [e, b] <;> rfl
  obtain ⟨a, b⟩ := h1 ds h
  unfold SeqAt.shaped
  have e1 : (PyData.list ds).canLay0 = true := a
  have e2 : (PyData.list ds).depth = PyData.depthAll ds + 1 := rfl
  rw [e1, e2, b]
  decide
theorem shaped_ints (xs : List Int) : SeqAt.shaped (.list (xs.map PyData.int)) = true := shaped_atoms fun d hd => by
  obtain ⟨i, _, rfl⟩ := List.mem_map.mp hd
  exact ⟨rfl, rfl⟩
def spLCells (K : PySem.W.Frag) : Sp := fun vs H Q _ => ∃ (l : Addr) (ws : List Str), vs = [.ref l] ∧ SqL K H l (ws.map V.str) ∧ Wf ws ∧ ∀ (lc : Addr) (H' : Hp), Same H H' → H lc = none → H' lc = some (.lst (nats (cellsOf ws))) → Q (.ref lc) H'
def spWhole : Sp := fun vs H Q _ => ∃ i : Int, vs = [.int i] ∧ Q (.bl true) H
def spListed (K : PySem.W.Frag) : Sp := fun vs H Q _ => ∃ (a b : Addr) (xs : List Int), vs = [.ref a, .ref b] ∧ H a = some (.lst (xs.map V.int)) ∧ SqL K H b (xs.map V.int) ∧ Q (.bl true) H
theorem sg_ne {a b : Nat} : (V.str ⟨#[a]⟩ = V.str (sg1 b)) ↔ a = b := ⟨fun q => by
  have q1 := V.str.inj q
  unfold sg1 at q1
  injection q1 with q2
  have q3 := congrArg (fun a : Array Nat => a.toList) q2
  exact (List.cons.inj q3).1, fun q => by rw [q]; rfl⟩
end Sf
namespace Sf
open PySem PySem.Spec PyProof.Rows L2
def bareOf (ws : List Str) (ov : Ovr) : List Int := ((cellsOf ws).map fun (p : Nat) => (p : Int)).filter fun c => !has ov c
def keysOf (ov : Ovr) : List Int := ov.map (·.1)
/-- the slabs of the cells ks, each by its lower cell -/
def pairsOf (ks : List Int) (ov : Ovr) : List (Int × Int) := (ks.filter fun c => decide (c < (look ov c).getD 0)).map fun c => (c, (look ov c).getD 0)
/-- tuples of two ints at the addresses ts -/
def TupsAt (H : Hp) (ts : List Addr) (ps : List (Int × Int)) : Prop := ts.length = ps.length ∧ ∀ (i : Nat) (t : Addr) (p : Int × Int), ts[i]? = some t → ps[i]? = some p → H t = some (.tup [.int p.1, .int p.2])
theorem TupsAt.same {H H' : Hp} {ts : List Addr} {ps : List (Int × Int)} (a : TupsAt H ts ps) (s : Same H H') : TupsAt H' ts ps := ⟨a.1, fun i t p h1 h2 => s _ _ (a.2 i t p h1 h2)⟩
theorem TupsAt.snoc {H : Hp} {ts : List Addr} {ps : List (Int × Int)} {t : Addr} {p : Int × Int} (a : TupsAt H ts ps) (h : H t = some (.tup [.int p.1, .int p.2])) : TupsAt H (ts ++ [t]) (ps ++ [p]) := by
  refine ⟨by rw [List.length_append, List.length_append, a.1] <;> rfl, fun i t' p' h1 h2 => ?_⟩
  rcases Nat.lt_or_ge i ts.length with q | q
  · rw [List.getElem?_append_left q] at h1
    rw [List.getElem?_append_left (by rw [← a.1]; exact q)] at h2
    exact a.2 i t' p' h1 h2
  · rw [List.getElem?_append_right q] at h1
    rw [List.getElem?_append_right (by rw [← a.1]; exact q), ← a.1] at h2
    cases hi : i - ts.length with
    | zero =>
      rw [hi] at h1 h2
      cases h1
      cases h2
      exact h
    | succ n =>
      rw [hi] at h1
      simp at h1
theorem int_el {ks : List Int} {j : Nat} {y : V} (h : (ks.map V.int)[j]? = some y) : ∃ z, ks[j]? = some z ∧ y = V.int z ∧ ks.take (j + 1) = ks.take j ++ [z] := by
  rw [List.getElem?_map] at h
  cases e : ks[j]? with
  | none => rw [e] at h; cases h
  | some z =>
    rw [e] at h
    refine ⟨z, rfl, (Option.some.inj h).symm, ?_⟩
    rw [List.take_add_one, e] <;> rfl
theorem look_key {ov : Ovr} {k : Int} (h : k ∈ keysOf ov) : ∃ j, look ov k = some j := by
  obtain ⟨p, hp, rfl⟩ := List.mem_map.mp h
  unfold look
  cases e : ov.find? fun q => decide (q.1 = p.1) with
  | none =>
    have := List.find?_eq_none.mp e p hp
    simp at this
  | some q => exact ⟨q.2, rfl⟩
theorem dk_keys (ov : Ovr) : (dk ov).map (·.1) = (keysOf ov).map (Sum.inl : Int → Key) := by
  unfold dk keysOf
  rw [List.map_map, List.map_map]
  rfl
def spBare (C CL : Addr) : Sp := fun vs H Q _ => ∃ (y dy x dx lr df d : Addr) (f : Nat → Addr) (ws : List Str) (ov : Ovr), vs = [.ref y] ∧ LayAt CL H y dy x d ov ∧ FloorAt C H x dx lr df f ws ∧ (cellsOf ws).length ≤ 900 ∧
  ∀ (l : Addr) (H' : Hp), Same H H' → H l = none → H' l = some (.lst ((bareOf ws ov).map V.int)) → Q (.ref l) H'
def spSlabs (CL : Addr) : Sp := fun vs H Q _ => ∃ (y dy x d : Addr) (ov : Ovr), vs = [.ref y] ∧ LayAt CL H y dy x d ov ∧ ov.length ≤ 900 ∧
  ∀ (l : Addr) (ts : List Addr) (ks : List Int) (H' : Hp), ks.Perm (keysOf ov) → ks.Pairwise (· ≤ ·) → Same H H' → H l = none → H' l = some (.lst (ts.map V.ref)) → TupsAt H' ts (pairsOf ks ov) → Q (.ref l) H'
section
variable {P : Program} {w : World} {K : PySem.W.Frag} {mg : Str → Option Value} {base : Heap}
theorem scBare : FnScope ["self", "cell"] ["self"] (defScope sLaying_bare) := ⟨rfl, rfl, rfl, by decide +kernel, rfl, by decide +kernel, by decide +kernel⟩
theorem ok_bare {f fk C CL : Addr} {fd fdk : FuncData} (F : Fun K "bare" "Laying.bare" sLaying_bare f fd) (T : FTxt K mg C) (L : LTxt K mg CL) (GK : FnOk P w K mg base CX0 1 fk fdk ["self"] (spCells C)) (mK : Meth K C "cells" fk) (bK : Binds K fdk ["self"] []) :
    FnOk P w K mg base CX0 2 f fd ["self"] (spBare C CL) := by
  refine F.ok scBare (fun vs H Q E h => ?_) (fun cdv A outer s H vs Q E hr h => ?_)
  · obtain ⟨y, dy, x, dx, lr, df, d, g, ws, ov, rfl, _⟩ := h
    rfl
  · obtain ⟨y, dy, x, dx, lr, df, d, g, ws, ov, rfl, la, fa, hn, hQ⟩ := h
    have hu := hu_of hr
    refine ⟨_, pss_one (ps_ret (pe_lc (own := [("cell", 1)]) (g := gName 1) rfl scBare.nd (pi_list (pe_meth0 (pe_fld (pv 0) rfl) T.cl mK GK hr bK .nil pass0)) (blkOk_by (N := ["self", "cell"]) (sc := defScope sLaying_bare) (by decide +kernel)) (fun _ _ _ _ _ => pg_name (i := 1) scBare.nd rfl (Or.inl rfl))
      (fun _ _ _ _ _ => pts_one (pt_cmp (pc_dnotin hu (pv 1) (show PE _ _ (tFld K (tVar 0) "over") from pe_fld (pv 0) rfl)) rfl)) (fun _ _ _ _ _ => pv 1))), ?_⟩
    have nK : (flds lr ws df (g (topP ws))).lookup ("cells" : Str) = none := flds_no _ _ _ _ (by decide +kernel) (by decide +kernel) (by decide +kernel) (by decide +kernel)
    refine ⟨_, rfl, y, CL, dy, _, _, rfl, la.ob, L.cl, L.nF, lfl_floor _ _, x, dx, _, rfl, fa.ob, nK, x, dx, lr, df, g, ws, rfl, fa, fun lc H1 s1 hlc h1 => ?_⟩
    have e1 : nats (cellsOf ws) = ((cellsOf ws).map fun (p : Nat) => (p : Int)).map V.int := nats_eq _
    rw [e1] at h1
    generalize hcs : ((cellsOf ws).map fun (p : Nat) => (p : Int)) = cs at h1
    have lcs : cs.length ≤ 900 := by rw [← hcs, List.length_map]; exact hn
    have la1 := la.same s1
    refine ⟨lc, rfl, ⟨_, SqL.of h1⟩, fun D hD => ?_⟩
    refine lc_list (K := K) (a := lc) (xs := cs.map V.int) (fun j H3 => Same H1 H3 ∧ H3 D = some (.lst (((cs.take j).filter fun c => !has ov c).map V.int))) ⟨Same.new hD, upd_same⟩ (fun i H3 _ ⟨s3, _⟩ => SqL.of (s3 _ _ h1)) ?_ ?_
    · rintro j z H3 hj ⟨s3, h3⟩
      obtain ⟨c, hc, rfl, tk1⟩ := int_el hj
      have la3 := la1.same s3
      have dg : DGet H3 d (V.int c) ((look ov c).map V.int) := by
        have q := DGet.k (k := (Sum.inl c : Key)) la3.dc
        rw [dk_val] at q
        exact q
      have hs : ((look ov c).map V.int).isSome = has ov c := by
        unfold has
        cases look ov c <;> rfl
      refine ⟨rfl, _, rfl, _, rfl, y, CL, dy, _, _, rfl, la3.ob, L.cl, L.nO, lfl_over _ _, d, _, rfl, dg, _, rfl, ?_⟩
      rw [hs]
      cases hh : has ov c with
      | false =>
        refine iteT ?_
        refine ⟨_, rfl, _, h3, ?_, ?_, ?_⟩
        · rw [List.length_map]
          have q1 := List.length_filter_le (fun c => !has ov c) (cs.take j)
          have q2 : (cs.take j).length ≤ cs.length := by rw [List.length_take]; omega
          exact small1000 (by omega)
        · exact fun b o e => by rw [upd_ne (ne_of_none e hD)]; exact s3 b o e
        · rw [upd_same, tk1, List.filter_append, List.map_append, List.filter_cons, if_pos (by rw [hh] <;> rfl)] <;> rfl
      | true =>
        refine iteF ?_
        refine ⟨s3, ?_⟩
        rw [tk1, List.filter_append, List.filter_cons, if_neg (by rw [hh]; decide), List.filter_nil, List.append_nil]
        exact h3
    · rintro H3 ⟨s3, h3⟩
      rw [List.length_map, List.take_length] at h3
      have hD0 : H D = none := by
        cases q : H D with
        | none => rfl
        | some o =>
          have := s1 _ _ q
          rw [hD] at this
          cases this
      refine hQ D H3 (s1.trans s3) hD0 ?_
      unfold bareOf
      rw [hcs]
      exact h3
theorem scSlabs : FnScope ["self", "cell"] ["self"] (defScope sLaying_slabs) := ⟨rfl, rfl, rfl, by decide +kernel, rfl, by decide +kernel, by decide +kernel⟩
theorem ok_slabs {f CL : Addr} {fd : FuncData} (F : Fun K "slabs" "Laying.slabs" sLaying_slabs f fd) (L : LTxt K mg CL) (gs : mg "sorted" = none) : FnOk P w K mg base CX0 1 f fd ["self"] (spSlabs CL) := by
  refine F.ok scSlabs (fun vs H Q E h => ?_) (fun cdv A outer s H vs Q E hr h => ?_)
  · obtain ⟨y, dy, x, d, ov, rfl, _⟩ := h
    rfl
  · obtain ⟨y, dy, x, d, ov, rfl, la, hn, hQ⟩ := h
    have hu := hu_of hr
    refine ⟨_, pss_one (ps_ret (pe_lc (own := [("cell", 1)]) (g := gName 1) rfl scSlabs.nd (pi_list (pe_callB (Gs.call_sortedAny rfl) (by rfl) gs rfl (pa_cons (pe_fld (pv 0) rfl) pa_nil))) (blkOk_by (N := ["self", "cell"]) (sc := defScope sLaying_slabs) (by decide +kernel)) (fun _ _ _ _ _ => pg_name (i := 1) scSlabs.nd rfl (Or.inl rfl))
      (fun _ _ _ _ _ => pts_one (pt_cmpR op_lt (pv 1) (pe_dget hu (show PE _ _ (tFld K (tVar 0) "over") from pe_fld (pv 0) rfl) (pv 1) (fun _ _ => rfl)) (nomark _)))
      (fun _ _ _ _ _ => pe_tup (pa_cons (pv 1) (pa_cons (pe_dget hu (show PE _ _ (tFld K (tVar 0) "over") from pe_fld (pv 0) rfl) (pv 1) (fun _ _ => rfl)) pa_nil))))), ?_⟩
    refine ⟨_, rfl, y, CL, dy, _, _, rfl, la.ob, L.cl, L.nO, lfl_over _ _, d, dk ov, keysOf ov, rfl, .inl la.dc, dk_keys ov, (by unfold keysOf; rw [List.length_map]; omega), fun ks p hp hsrt hp0 => ?_⟩
    have s1 : Same H (upd H p (.lst (ks.map V.int))) := Same.new hp0
    have h1 : (upd H p (.lst (ks.map V.int))) p = some (.lst (ks.map V.int)) := upd_same
    generalize upd H p (.lst (ks.map V.int)) = H1 at s1 h1
    have la1 := la.same s1
    have lks : ks.length ≤ 900 := by
      rw [hp.length_eq]
      unfold keysOf
      rw [List.length_map]
      exact hn
    refine ⟨p, rfl, ⟨_, SqL.of h1⟩, fun D hD => ?_⟩
    refine lc_list (K := K) (a := p) (xs := ks.map V.int) (fun j H3 => Same H1 H3 ∧ ∃ ts : List Addr, H3 D = some (.lst (ts.map V.ref)) ∧ TupsAt H3 ts (pairsOf (ks.take j) ov)) ⟨Same.new hD, [], upd_same, rfl, fun i t p h => by simp at h⟩ (fun i H3 _ ⟨s3, _⟩ => SqL.of (s3 _ _ h1)) ?_ ?_
    · rintro j z H3 hj ⟨s3, ts, h3, t3⟩
      obtain ⟨c, hc, rfl, tk1⟩ := int_el hj
      have la3 := la1.same s3
      obtain ⟨o, lo⟩ := look_key (hp.mem_iff.mp (List.mem_of_getElem? hc))
      have dg : ∀ H4, Same H3 H4 → DGet H4 d (V.int c) (some (V.int o)) := fun H4 s4 => by
        have q := DGet.k (k := (Sum.inl c : Key)) (s4 _ _ la3.dc)
        rw [dk_val, lo] at q
        exact q
      refine ⟨rfl, _, rfl, _, rfl, y, CL, dy, _, _, rfl, la3.ob, L.cl, L.nO, lfl_over _ _, _, rfl, d, _, rfl, dg H3 (Same.refl _), _, _, rfl, rfl, _, rfl, ?_⟩
      have po : pairsOf (ks.take (j + 1)) ov = pairsOf (ks.take j) ov ++ (if c < o then [(c, o)] else []) := by
        unfold pairsOf
        rw [tk1, List.filter_append, List.map_append, List.filter_cons, lo]
        show _ ++ List.map _ (if decide (c < o) = true then c :: List.filter _ [] else List.filter _ []) = _
        by_cases q : c < o
        · rw [if_pos (decide_eq_true q), if_pos q, List.filter_nil, List.map_cons, List.map_nil, lo] <;> rfl
        · rw [if_neg (fun z => q (of_decide_eq_true z)), if_neg q, List.filter_nil, List.map_nil]
      by_cases q : c < o
      · refine iteTd q ?_
        rw [if_pos q] at po
        refine ⟨_, rfl, _, rfl, y, CL, dy, _, _, rfl, la3.ob, L.cl, L.nO, lfl_over _ _, _, rfl, d, _, rfl, dg H3 (Same.refl _), (by show 2 ≤ sizeLine; decide), fun t ht => ?_⟩
        have s4 : Same H3 (upd H3 t (.tup [.int c, .int o])) := Same.new ht
        have ntD : D ≠ t := fun z => by rw [← z, h3] at ht; cases ht
        refine ⟨ts.map V.ref, s4 _ _ h3, ?_, ?_, ts ++ [t], ?_, ?_⟩
        · rw [List.length_map, t3.1]
          unfold pairsOf
          rw [List.length_map]
          have q1 := List.length_filter_le (fun c => decide (c < (look ov c).getD 0)) (ks.take j)
          have q2 : (ks.take j).length ≤ ks.length := by rw [List.length_take]; omega
          exact small1000 (by omega)
        · exact fun b o2 e => by rw [upd_ne (ne_of_none e hD)]; exact s4 _ _ (s3 b o2 e)
        · rw [upd_same, List.map_append] <;> rfl
        · rw [po]
          have t4 := t3.same s4
          have base_ : TupsAt (upd H3 t (.tup [.int c, .int o])) (ts ++ [t]) (pairsOf (ks.take j) ov ++ [(c, o)]) := t4.snoc upd_same
          refine ⟨base_.1, fun i t' p' g1 g2 => ?_⟩
          have g3 := base_.2 i t' p' g1 g2
          rw [upd_ne (fun z => by rw [z, s4 _ _ h3] at g3; cases g3)]
          exact g3
      · refine iteNS2 q ?_
        rw [if_neg q, List.append_nil] at po
        refine ⟨s3, ts, h3, ?_⟩
        rw [po]
        exact t3
    · rintro H3 ⟨s3, ts, h3, t3⟩
      rw [List.length_map, List.take_length] at t3
      have hD0 : H D = none := by
        cases q : H D with
        | none => rfl
        | some o =>
          have := s1 _ _ q
          rw [hD] at this
          cases this
      exact hQ D ts ks H3 hp hsrt (s1.trans s3) hD0 h3 t3
end
end Sf
namespace Sf
open PySem PySem.Spec PyProof.Rows L2
/-! ### the cells beside: the law's own list -/
def nearL (ws : List Str) (p : Nat) : List Int := if 1 < wide ws then [(p : Int) - wide ws, (p : Int) - 1, (p : Int) + 1, (p : Int) + wide ws] else [(p : Int) - 1, (p : Int) + 1]
theorem cell_place {ws : List Str} {p : Nat} (h : p ∈ cellsOf ws) : p < wide ws * ws.length ∧ atP ws p ≠ 35 := by
  obtain ⟨a, b⟩ := cellsTo_mem.mp h
  exact ⟨by rw [Nat.mul_comm]; exact a, b⟩
theorem isCell_nat {ws : List Str} {p : Nat} : isCell ws (p : Int) = true ↔ p ∈ cellsOf ws := by
  unfold isCell
  rw [decide_eq_true_eq, Int.toNat_natCast]
  exact ⟨fun h => h.2, fun h => ⟨by omega, h⟩⟩
theorem lmay_cell {ws : List Str} {p : Nat} (h : p ∈ cellsOf ws) (j : Int) : lmay ws (p : Int) j = decide (j ∈ nbsP ws p) := by
  rw [← may_eq]
  unfold mayB
  rw [isCell_nat.mpr h, Bool.true_and, Int.toNat_natCast]
theorem beside_eq {ws : List Str} {p : Nat} (h : p ∈ cellsOf ws) : (nearL ws p).filter (fun j => lmay ws (p : Int) j) = nbsP ws p := by
  have e : (fun j => lmay ws (p : Int) j) = fun j => decide (j ∈ nbsP ws p) := funext (lmay_cell h)
  rw [e]
  obtain ⟨hp, _⟩ := cell_place h
  have hw : 0 < wide ws := by
    rcases Nat.eq_zero_or_pos (wide ws) with q | q
    · rw [q, Nat.zero_mul] at hp
      omega
    · exact q
  have dm := Nat.div_add_mod p (wide ws)
  have ml := Nat.mod_lt p hw
  unfold nbsP nbs
  generalize hr : p / wide ws = r at dm
  generalize hc : p % wide ws = c at dm ml
  have pz : (p : Int) = (r : Int) * (wide ws : Int) + (c : Int) := by
    have q : (p : Int) = ((wide ws * r + c : Nat) : Int) := by rw [dm]
    rw [q, Int.natCast_add, Int.natCast_mul, Int.mul_comm]
  have s1 : stepTo (wide ws) r c (-1, 0, ".|") = (p : Int) - wide ws := by
    show ((r : Int) + -1) * ((wide ws : Nat) : Int) + (c : Int) + 0 = _
    rw [pz, Int.add_mul]
    omega
  have s2 : stepTo (wide ws) r c (0, -1, ".-") = (p : Int) - 1 := by
    show ((r : Int) + 0) * ((wide ws : Nat) : Int) + (c : Int) + -1 = _
    rw [pz, Int.add_mul]
    omega
  have s3 : stepTo (wide ws) r c (0, 1, ".-") = (p : Int) + 1 := by
    show ((r : Int) + 0) * ((wide ws : Nat) : Int) + (c : Int) + 1 = _
    rw [pz, Int.add_mul]
    omega
  have s4 : stepTo (wide ws) r c (1, 0, ".|") = (p : Int) + wide ws := by
    show ((r : Int) + 1) * ((wide ws : Nat) : Int) + (c : Int) + 0 = _
    rw [pz, Int.add_mul]
    omega
  unfold steps nearL
  by_cases h1 : 1 < wide ws
  · rw [if_pos h1]
    have d12 : ¬ ((p : Int) - wide ws = (p : Int) - 1) := by omega
    have d13 : ¬ ((p : Int) - wide ws = (p : Int) + 1) := by omega
    have d14 : ¬ ((p : Int) - wide ws = (p : Int) + wide ws) := by omega
    have d23 : ¬ ((p : Int) - 1 = (p : Int) + 1) := by omega
    have d24 : ¬ ((p : Int) - 1 = (p : Int) + wide ws) := by omega
    have d34 : ¬ ((p : Int) + 1 = (p : Int) + wide ws) := by omega
    have d21 : ¬ ((p : Int) - 1 = (p : Int) - wide ws) := by omega
    have d31 : ¬ ((p : Int) + 1 = (p : Int) - wide ws) := by omega
    have d41 : ¬ ((p : Int) + wide ws = (p : Int) - wide ws) := by omega
    have d32 : ¬ ((p : Int) + 1 = (p : Int) - 1) := by omega
    have d42 : ¬ ((p : Int) + wide ws = (p : Int) - 1) := by omega
    have d43 : ¬ ((p : Int) + wide ws = (p : Int) + 1) := by omega
    generalize stepOk ws (r : Int) (c : Int) = ok
    cases a1 : ok (-1, 0, ".|") <;> cases a2 : ok (0, -1, ".-") <;> cases a3 : ok (0, 1, ".-") <;> cases a4 : ok (1, 0, ".|") <;>
      simp only [a1, a2, a3, a4, if_true, if_false, Bool.false_eq_true, reduceIte, List.map_cons, List.map_nil, s1, s2, s3, s4, List.filter_cons, List.filter_nil, List.mem_cons, List.not_mem_nil, d12, d13, d14, d23, d24, d34, d21, d31, d41, d32, d42, d43, or_false, false_or, or_true, true_or, decide_true, decide_false]
  · rw [if_neg h1]
    have hw1 : wide ws = 1 := by omega
    have a2 : stepOk ws (r : Int) (c : Int) (0, -1, ".-") = false := by
      unfold stepOk sgN
      rw [if_neg (c := 0 ≤ (r : Int) + (0, -1, ".-").1 ∧ _) (by rintro ⟨_, _, q, _⟩; have q2 : (0 : Int) ≤ (c : Int) + (-1) := q; omega)]
      rw [tk_pillar.1, Bool.and_false]
    have a3 : stepOk ws (r : Int) (c : Int) (0, 1, ".-") = false := by
      unfold stepOk sgN
      rw [if_neg (c := 0 ≤ (r : Int) + (0, 1, ".-").1 ∧ _) (by rintro ⟨_, _, _, q⟩; have q2 : (c : Int) + 1 < (wide ws : Int) := q; omega)]
      rw [tk_pillar.1, Bool.and_false]
    have e1 : (p : Int) - wide ws = (p : Int) - 1 := by rw [hw1]; rfl
    have e4 : (p : Int) + wide ws = (p : Int) + 1 := by rw [hw1]; rfl
    rw [e1] at s1
    rw [e4] at s4
    have d23 : ¬ ((p : Int) - 1 = (p : Int) + 1) := by omega
    have d32 : ¬ ((p : Int) + 1 = (p : Int) - 1) := by omega
    generalize stepOk ws (r : Int) (c : Int) = ok at a2 a3
    cases a1 : ok (-1, 0, ".|") <;> cases a4 : ok (1, 0, ".|") <;>
      simp only [a1, a2, a3, a4, if_true, if_false, Bool.false_eq_true, reduceIte, List.map_cons, List.map_nil, s1, s4, List.filter_cons, List.filter_nil, List.mem_cons, List.not_mem_nil, d23, d32, or_false, false_or, or_true, true_or, decide_true, decide_false]
/-- a cell beside a cell is a cell, and lies beside it too -/
theorem beside_back {ws : List Str} {p : Nat} (h : p ∈ cellsOf ws) {j : Int} (hj : j ∈ nbsP ws p) : isCell ws j = true ∧ (p : Int) ∈ nbsP ws j.toNat := by
  have q : lmay ws (p : Int) j = true := by
    rw [lmay_cell h]
    exact decide_eq_true hj
  rw [lmay_symm, ← may_eq] at q
  unfold mayB at q
  rw [Bool.and_eq_true, decide_eq_true_eq] at q
  exact q
/-- row + column, halved -/
def shadeN (ws : List Str) (p : Int) : Int := (p / (wide ws : Int) + p % (wide ws : Int)) % 2
theorem shade_ne {ws : List Str} {p : Nat} (h : p ∈ cellsOf ws) {j : Int} (hj : j ∈ nbsP ws p) : shadeN ws j ≠ shadeN ws (p : Int) := by
  obtain ⟨hp, _⟩ := cell_place h
  obtain ⟨r, c, h1, h2, e, d, m, _⟩ := place (ws := ws) (i := (p : Int)) (by omega) (by omega)
  have e2 : p = r * wide ws + c := by omega
  have dr : p / wide ws = r := by
    have q := d
    rw [← Int.natCast_ediv] at q
    omega
  have dc : p % wide ws = c := by
    have q := m
    rw [← Int.natCast_emod] at q
    omega
  unfold nbsP at hj
  rw [dr, dc] at hj
  obtain ⟨r', c', h3, h4, rfl, nr⟩ := (mem_nbs h1 h2).mp hj
  have b1 : ((r' * wide ws + c' : Nat) : Int) < ((wide ws * ws.length : Nat) : Int) := by
    have q : r' * wide ws + c' < ws.length * wide ws := by
      have : (r' + 1) * wide ws ≤ ws.length * wide ws := Nat.mul_le_mul_right _ h3
      rw [Nat.add_mul] at this
      omega
    rw [Nat.mul_comm (wide ws)]
    omega
  obtain ⟨r2, c2, k1, k2, ke, kd, km, _⟩ := place (ws := ws) (i := ((r' * wide ws + c' : Nat) : Int)) (by omega) b1
  obtain ⟨rfl, rfl⟩ := coord (wd := wide ws) (r := r') (c := c') (r' := r2) (c' := c2) h4 k2 (by omega)
  unfold shadeN
  rw [d, m, kd, km]
  rcases near_iff.mp nr with ⟨q1, q2, _⟩ | ⟨q1, q2, _⟩
  · omega
  · omega
def spLBeside (K : PySem.W.Frag) : Sp := fun vs H Q _ => ∃ (l : Addr) (ws : List Str) (p : Nat), vs = [.ref l, .int p] ∧ SqL K H l (ws.map V.str) ∧ Wf ws ∧ p ∈ cellsOf ws ∧
  ∀ (lc : Addr) (H' : Hp), Same H H' → H lc = none → H' lc = some (.lst ((nbsP ws p).map V.int)) → Q (.ref lc) H'
end Sf
namespace Sf
open PySem L2
/-! ### layings as lists of pairs -/
theorem look_mem {ov : Ovr} {i j : Int} (h : look ov i = some j) : (i, j) ∈ ov := by
  unfold look at h
  cases e : ov.find? fun p => decide (p.1 = i) with
  | none => rw [e] at h; cases h
  | some p =>
    rw [e] at h
    have h1 := List.find?_some e
    have h2 := List.mem_of_find?_eq_some e
    have h3 : p.1 = i := of_decide_eq_true h1
    have h4 : p.2 = j := Option.some.inj h
    rw [← h3, ← h4]
    exact h2
theorem look_none {ov : Ovr} {i : Int} : look ov i = none ↔ i ∉ keysOf ov := by
  constructor
  · intro h q
    obtain ⟨j, e⟩ := look_key q
    rw [h] at e
    cases e
  · intro h
    cases e : look ov i with
    | none => rfl
    | some j => exact absurd (List.mem_map.mpr ⟨(i, j), look_mem e, rfl⟩) h
theorem look_some {ov : Ovr} {i : Int} : i ∈ keysOf ov ↔ ∃ j, look ov i = some j := by
  constructor
  · exact fun h => look_key h
  · rintro ⟨j, e⟩
    exact List.mem_map.mpr ⟨(i, j), look_mem e, rfl⟩
theorem has_iff {ov : Ovr} {i : Int} : has ov i = true ↔ i ∈ keysOf ov := by
  unfold has
  cases e : look ov i with
  | none => exact ⟨fun h => (by cases h), fun h => absurd h (look_none.mp e)⟩
  | some j => exact ⟨fun _ => look_some.mpr ⟨j, e⟩, fun _ => rfl⟩
theorem mem_look : ∀ {ov : Ovr}, (keysOf ov).Nodup → ∀ {i j : Int}, (i, j) ∈ ov → look ov i = some j
  | [], _, i, j, h => by cases h
  | p :: r, nd, i, j, h => by
    have nd' : (p.1 :: keysOf r).Nodup := nd
    rw [List.nodup_cons] at nd'
    unfold look
    rw [List.find?_cons]
    rcases List.mem_cons.mp h with q | q
    · rw [← q, decide_eq_true rfl]
      rfl
    · have ne : ¬ p.1 = i := fun e => nd'.1 (by rw [e]; exact List.mem_map.mpr ⟨(i, j), q, rfl⟩)
      rw [decide_eq_false ne]
      exact mem_look (ov := r) nd'.2 q
theorem keys_perm {ov ov2 : Ovr} (p : ov.Perm ov2) : (keysOf ov).Perm (keysOf ov2) := p.map _
theorem look_perm {ov ov2 : Ovr} (p : ov.Perm ov2) (nd : (keysOf ov).Nodup) (i : Int) : look ov2 i = look ov i := by
  have nd2 : (keysOf ov2).Nodup := (keys_perm p).nodup_iff.mp nd
  cases e : look ov i with
  | none =>
    rw [look_none] at e ⊢
    exact fun q => e ((keys_perm p).mem_iff.mpr q)
  | some j => exact mem_look nd2 (p.mem_iff.mp (look_mem e))
theorem mayB_symm (ws : List Str) (i j : Int) : mayB ws i j = mayB ws j i := by rw [may_eq, may_eq, lmay_symm]
theorem may_cell {ws : List Str} {i j : Int} (h : mayB ws i j = true) : isCell ws i = true ∧ isCell ws j = true := by
  have h2 := h
  rw [mayB_symm] at h2
  unfold mayB at h h2
  exact ⟨(Bool.and_eq_true_iff.mp h).1, (Bool.and_eq_true_iff.mp h2).1⟩
theorem may_nbs {ws : List Str} {i j : Int} : mayB ws i j = true ↔ isCell ws i = true ∧ j ∈ nbsP ws i.toNat := by
  unfold mayB
  rw [Bool.and_eq_true_iff, decide_eq_true_eq]
theorem cell_nat {ws : List Str} {i : Int} (h : isCell ws i = true) : ∃ p : Nat, i = (p : Int) ∧ p ∈ cellsOf ws := by
  have q := of_decide_eq_true h
  exact ⟨i.toNat, (Int.toNat_of_nonneg q.1).symm, q.2⟩
theorem cell_natI {ws : List Str} {i : Int} : isCell ws i = true ↔ i ∈ natI (cellsOf ws) := by
  rw [mem_natI]
  exact ⟨fun h => of_decide_eq_true h, fun h => decide_eq_true h⟩
theorem may_shade {ws : List Str} {i j : Int} (h : mayB ws i j = true) : shadeN ws j ≠ shadeN ws i := by
  obtain ⟨h1, h2⟩ := may_nbs.mp h
  obtain ⟨p, rfl, hp⟩ := cell_nat h1
  rw [Int.toNat_natCast] at h2
  exact shade_ne hp h2
theorem shade_two (ws : List Str) (i : Int) : shadeN ws i = 0 ∨ shadeN ws i = 1 := by
  unfold shadeN
  have h1 := Int.emod_nonneg (i / (wide ws : Int) + i % (wide ws : Int)) (show (2 : Int) ≠ 0 by decide)
  have h2 := Int.emod_lt_of_pos (i / (wide ws : Int) + i % (wide ws : Int)) (show (0 : Int) < 2 by decide)
  omega
theorem cellsOf_nd (ws : List Str) : (cellsOf ws).Nodup := (List.nodup_range).sublist List.filter_sublist
theorem natI_nd {ps : List Nat} (h : ps.Nodup) : (natI ps).Nodup := by
  unfold natI
  exact List.pairwise_map.mpr (List.Pairwise.imp (fun {a b} (q : a ≠ b) => fun e => q (Int.ofNat.inj e)) h)
theorem cells144 {ws : List Str} (w : Wf ws) : (cellsOf ws).length ≤ 144 := by
  have q1 := cellsTo_len ws (ws.length * wide ws)
  have q2 : ws.length * wide ws ≤ 12 * 12 := Nat.mul_le_mul w.high w.wid
  have q3 : (cellsOf ws).length ≤ ws.length * wide ws := q1
  omega
/-- a laying of the floor -/
structure Vl (ws : List Str) (ov : Ovr) : Prop where
  nd : (keysOf ov).Nodup
  sym : ∀ i j, look ov i = some j → look ov j = some i
  may : ∀ i j, look ov i = some j → mayB ws i j = true
theorem Vl.toSym {ws : List Str} {ov : Ovr} (v : Vl ws ov) : Sym ov := fun i j h => ⟨v.sym i j h, may_ne (v.may i j h)⟩
theorem Vl.nil (ws : List Str) : Vl ws [] := ⟨List.Pairwise.nil, fun i j h => (by cases h), fun i j h => (by cases h)⟩
theorem Vl.cell {ws : List Str} {ov : Ovr} (v : Vl ws ov) {i : Int} (h : i ∈ keysOf ov) : isCell ws i = true := by
  obtain ⟨j, e⟩ := look_some.mp h
  exact (may_cell (v.may i j e)).1
theorem Vl.len {ws : List Str} {ov : Ovr} (v : Vl ws ov) (w : Wf ws) : ov.length ≤ 144 := by
  have h : (keysOf ov).length ≤ (natI (cellsOf ws)).length := List.Nodup.length_le_of_subset v.nd fun i hi => cell_natI.mp (v.cell hi)
  have h2 := cells144 w
  unfold keysOf natI at h
  rw [List.length_map, List.length_map] at h
  omega
theorem Vl.perm {ws : List Str} {ov ov2 : Ovr} (v : Vl ws ov) (p : ov.Perm ov2) : Vl ws ov2 := by
  refine ⟨(keys_perm p).nodup_iff.mp v.nd, fun i j h => ?_, fun i j h => ?_⟩
  · rw [look_perm p v.nd] at h ⊢
    exact v.sym i j h
  · rw [look_perm p v.nd] at h
    exact v.may i j h
theorem putN0 {ws : List Str} {ov : Ovr} {i j : Int} (h : mayB ws i j = true) (hi : look ov i = none) (hj : look ov j = none) : putN ws ov i j = 0 := by
  obtain ⟨c1, c2⟩ := may_cell h
  unfold putN has
  rw [c1, c2, h, hi, hj]
  rfl
theorem look_put {ov : Ovr} {i j : Int} (ne : i ≠ j) (li : look ov i = none) (lj : look ov j = none) (k : Int) : look (ov ++ [(i, j)] ++ [(j, i)]) k = if k = j then some i else if k = i then some j else look ov k := by
  have l2 : look (ov ++ [(i, j)]) j = none := by rw [look_snoc li, if_neg (fun q => ne q.symm)]; exact lj
  rw [look_snoc l2, look_snoc li]
theorem keys_put (ov : Ovr) (i j : Int) : keysOf (ov ++ [(i, j)] ++ [(j, i)]) = keysOf ov ++ [i, j] := by
  unfold keysOf
  rw [List.map_append, List.map_append, List.append_assoc]
  rfl
theorem Vl.put {ws : List Str} {ov : Ovr} {i j : Int} (v : Vl ws ov) (h : mayB ws i j = true) (li : look ov i = none) (lj : look ov j = none) : Vl ws (ov ++ [(i, j)] ++ [(j, i)]) := by
  have ne := may_ne h
  refine ⟨?_, fun a b hab => ?_, fun a b hab => ?_⟩
  · rw [keys_put, List.nodup_append]
    refine ⟨v.nd, ?_, fun a ha b hb => ?_⟩
    · rw [List.nodup_cons]
      exact ⟨by simpa using ne, by simp⟩
    · rcases List.mem_cons.mp hb with e | e
      · rw [e]
        exact fun q => look_none.mp li (by rw [q] at ha; exact ha)
      · rw [List.mem_singleton.mp e]
        exact fun q => look_none.mp lj (by rw [q] at ha; exact ha)
  · rw [look_put ne li lj] at hab ⊢
    by_cases aj : a = j
    · rw [if_pos aj] at hab
      cases hab
      rw [if_neg ne, if_pos rfl, aj]
    · rw [if_neg aj] at hab
      by_cases ai : a = i
      · rw [if_pos ai] at hab
        cases hab
        rw [if_pos rfl, ai]
      · rw [if_neg ai] at hab
        have h1 := v.sym a b hab
        have bi : b ≠ i := fun q => by rw [q, li] at h1; cases h1
        have bj : b ≠ j := fun q => by rw [q, lj] at h1; cases h1
        rw [if_neg bj, if_neg bi]
        exact h1
  · rw [look_put ne li lj] at hab
    by_cases aj : a = j
    · rw [if_pos aj] at hab
      cases hab
      rw [aj, mayB_symm]
      exact h
    · rw [if_neg aj] at hab
      by_cases ai : a = i
      · rw [if_pos ai] at hab
        cases hab
        rw [ai]
        exact h
      · rw [if_neg ai] at hab
        exact v.may a b hab
theorem look_lifted (ov : Ovr) (i j k : Int) : look (lifted ov i j) k = if k = j then none else if k = i then none else look ov k := by
  unfold lifted
  rw [look_drop, look_drop]
theorem lifted_nd {ov : Ovr} (nd : (keysOf ov).Nodup) (i j : Int) : (keysOf (lifted ov i j)).Nodup := by
  unfold lifted keysOf
  exact nd.sublist ((List.filter_sublist.trans List.filter_sublist).map _)
theorem Vl.lift {ws : List Str} {ov : Ovr} {i j : Int} (v : Vl ws ov) (h : look ov i = some j) : Vl ws (lifted ov i j) := by
  have hj := v.sym i j h
  refine ⟨lifted_nd v.nd i j, fun a b hab => ?_, fun a b hab => ?_⟩
  · rw [look_lifted] at hab ⊢
    by_cases aj : a = j
    · rw [if_pos aj] at hab
      cases hab
    rw [if_neg aj] at hab
    by_cases ai : a = i
    · rw [if_pos ai] at hab
      cases hab
    rw [if_neg ai] at hab
    have h1 := v.sym a b hab
    have bi : b ≠ i := fun q => by rw [q, h] at h1; exact aj (Option.some.inj h1).symm
    have bj : b ≠ j := fun q => by rw [q, hj] at h1; exact ai (Option.some.inj h1).symm
    rw [if_neg bj, if_neg bi]
    exact h1
  · rw [look_lifted] at hab
    by_cases aj : a = j
    · rw [if_pos aj] at hab
      cases hab
    rw [if_neg aj] at hab
    by_cases ai : a = i
    · rw [if_pos ai] at hab
      cases hab
    rw [if_neg ai] at hab
    exact v.may a b hab
theorem liftN0 {ws : List Str} {ov : Ovr} {i j : Int} (v : Vl ws ov) (h : look ov i = some j) : liftN ws ov i = 0 := by
  have c := v.cell (look_some.mpr ⟨j, h⟩)
  unfold liftN has
  rw [c, h]
  rfl
/-- a pair taken away and put back is where it was, but for the order -/
theorem lift_put_perm {ov : Ovr} {i j : Int} (nd : (keysOf ov).Nodup) (h : look ov i = some j) (hj : look ov j = some i) (ne : i ≠ j) : ov.Perm (lifted ov i j ++ [(i, j)] ++ [(j, i)]) := by
  have ndo : ov.Nodup := by
    unfold keysOf at nd
    exact List.Pairwise.imp (fun {a b} (q : a.1 ≠ b.1) e => q (by rw [e])) (List.pairwise_map.mp nd)
  have lj : look (lifted ov i j) j = none := by rw [look_lifted, if_pos rfl]
  have li : look (lifted ov i j) i = none := by rw [look_lifted, if_neg ne, if_pos rfl]
  have nd2 : (lifted ov i j ++ [(i, j)] ++ [(j, i)]).Nodup := by
    have q : (keysOf (lifted ov i j ++ [(i, j)] ++ [(j, i)])).Nodup := by
      rw [keys_put, List.nodup_append]
      refine ⟨lifted_nd nd i j, ?_, fun a ha b hb => ?_⟩
      · rw [List.nodup_cons]
        exact ⟨by simpa using ne, by simp⟩
      · rcases List.mem_cons.mp hb with e | e
        · rw [e]
          exact fun q => look_none.mp li (by rw [q] at ha; exact ha)
        · rw [List.mem_singleton.mp e]
          exact fun q => look_none.mp lj (by rw [q] at ha; exact ha)
    unfold keysOf at q
    exact List.Pairwise.imp (fun {a b} (q : a.1 ≠ b.1) e => q (by rw [e])) (List.pairwise_map.mp q)
  refine (List.perm_ext_iff_of_nodup ndo nd2).mpr fun p => ?_
  obtain ⟨a, b⟩ := p
  unfold lifted
  rw [List.mem_append, List.mem_append, List.mem_singleton, List.mem_singleton, List.mem_filter, List.mem_filter, decide_eq_true_eq, decide_eq_true_eq]
  constructor
  · intro hab
    have lab := mem_look nd hab
    by_cases ai : a = i
    · rw [ai, h] at lab
      exact .inl (.inr (by rw [ai, ← Option.some.inj lab]))
    · by_cases aj : a = j
      · rw [aj, hj] at lab
        exact .inr (by rw [aj, ← Option.some.inj lab])
      · exact .inl (.inl ⟨⟨hab, ai⟩, aj⟩)
  · rintro ((q | q) | q)
    · exact q.1.1
    · rw [q]
      exact look_mem h
    · rw [q]
      exact look_mem hj
end Sf
/-! Defs, methods and classes that may be called, each in one word. -/
namespace Gc
open PySem PySem.Spec PyProof.Rows L2
/-- a def that may be called by its name -/
structure Cl (P : Program) (w : World) (K : PySem.W.Frag) (mg : Str → Option Value) (base : Heap) (CX : CXT) (k : Nat) (x : Str) (ps : List Str) (sp : Sp) : Prop where
  ex : ∃ f fd, FnOk P w K mg base CX k f fd ps sp ∧ mg x = some (.ref f) ∧ PySem.W.keepIn K (.ref f) = true ∧ Binds K fd ps []
/-- a method that may be called -/
structure Cm (P : Program) (w : World) (K : PySem.W.Frag) (mg : Str → Option Value) (base : Heap) (CX : CXT) (k : Nat) (C : Addr) (m : Str) (ps : List Str) (sp : Sp) : Prop where
  ex : ∃ f fd, FnOk P w K mg base CX k f fd ps sp ∧ Meth K C m f ∧ Binds K fd ps []
/-- a class that may be called -/
structure Cn (P : Program) (w : World) (K : PySem.W.Frag) (mg : Str → Option Value) (base : Heap) (k : Nat) (C : Addr) (x : Str) (ps : List Str) (sp : Sp) : Prop where
  ex : ∃ f fd, FnOk P w K mg base CX0 k f fd ps sp ∧ Mk K C f ∧ mg x = some (.ref C) ∧ Binds K fd ps []
/-- a def as the top has left it -/
structure Df (K : PySem.W.Frag) (mg : Str → Option Value) (x : Str) (st : Stmt) (ps : List Str) : Prop where
  ex : ∃ f fd, Fun K x x st f fd ∧ mg x = some (.ref f) ∧ PySem.W.keepIn K (.ref f) = true ∧ Binds K fd ps []
structure Dm (K : PySem.W.Frag) (C : Addr) (m q : Str) (st : Stmt) (ps : List Str) : Prop where
  ex : ∃ f fd, Fun K m q st f fd ∧ Meth K C m f ∧ Binds K fd ps []
section
variable {P : Program} {w : World} {K : PySem.W.Frag} {mg : Str → Option Value} {base : Heap} {CX : CXT} {k : Nat} {x m q : Str} {st : Stmt} {ps : List Str} {sp sp' : Sp} {C : Addr}
theorem Df.cl (D : Df K mg x st ps) (h : ∀ f fd, Fun K x x st f fd → FnOk P w K mg base CX k f fd ps sp) : Cl P w K mg base CX k x ps sp := by
  obtain ⟨f, fd, F, g, kp, b⟩ := D.ex
  exact ⟨f, fd, h f fd F, g, kp, b⟩
theorem Dm.cm (D : Dm K C m q st ps) (h : ∀ f fd, Fun K m q st f fd → FnOk P w K mg base CX k f fd ps sp) : Cm P w K mg base CX k C m ps sp := by
  obtain ⟨f, fd, F, g, b⟩ := D.ex
  exact ⟨f, fd, h f fd F, g, b⟩
/-- a def that may raise, called where it doesn't -/
theorem FnOk.calm {f : Addr} {fd : FuncData} (F : FnOk P w K mg base (L2.CX P w) k f fd ps sp) (h : ∀ vs H Q E, sp' vs H Q E → sp vs H Q (fun _ _ _ => False)) : FnOk P w K mg base CX0 k f fd ps sp' :=
  ⟨fun vs H Q E q => F.len _ _ _ _ (h _ _ _ _ q), fun A outer s H args us vs Q E hr he hb hv hs => codeAny_mono (F.run A outer s H args us vs Q (fun _ _ _ => False) hr he hb hv (h _ _ _ _ hs)) fun r s' hq => by
    cases r with
    | error e =>
      obtain ⟨_, _, _, _, _, _, _, _, _, _, _, _, hE⟩ := hq
      exact hE.elim
    | ok fl =>
      cases fl with
      | ret u => exact hq
      | next => exact hq
      | brk => exact hq
      | cont => exact hq⟩
theorem Cl.calm (c : Cl P w K mg base (L2.CX P w) k x ps sp) (h : ∀ vs H Q E, sp' vs H Q E → sp vs H Q (fun _ _ _ => False)) : Cl P w K mg base CX0 k x ps sp' := by
  obtain ⟨f, fd, F, g, kp, b⟩ := c.ex
  exact ⟨f, fd, FnOk.calm F h, g, kp, b⟩
theorem Cm.calm (c : Cm P w K mg base (L2.CX P w) k C m ps sp) (h : ∀ vs H Q E, sp' vs H Q E → sp vs H Q (fun _ _ _ => False)) : Cm P w K mg base CX0 k C m ps sp' := by
  obtain ⟨f, fd, F, g, b⟩ := c.ex
  exact ⟨f, fd, FnOk.calm F h, g, b⟩
theorem Cl.imp (c : Cl P w K mg base CX k x ps sp) (h : ∀ vs H Q E, sp' vs H Q E → sp vs H Q E) : Cl P w K mg base CX k x ps sp' := by
  obtain ⟨f, fd, F, g, kp, b⟩ := c.ex
  exact ⟨f, fd, F.imp h, g, kp, b⟩
theorem Cm.imp (c : Cm P w K mg base CX k C m ps sp) (h : ∀ vs H Q E, sp' vs H Q E → sp vs H Q E) : Cm P w K mg base CX k C m ps sp' := by
  obtain ⟨f, fd, F, g, b⟩ := c.ex
  exact ⟨f, fd, F.imp h, g, b⟩
end
section
variable {X : Cx} {CX : CXT} {k : Nat} {C : Addr} {ps : List Str} {sp : Sp} {E : XK} {x m : Str} {p pos apos : Pos} {e o : Expr} {es : List Expr} {ta : TE} {t : TA}
theorem pe_cl (c : Cl X.prog X.w X.K X.mg X.base CX0 k x ps sp) (hr : Room k X.A) (hg : Gl X x) (ha : PA X (e :: es) t) (hdb : (x == ("__debug__" : Str)) = false := by decide)
    (he : starEach (e :: es) X.env = (false, eval e X.env) :: starEach es X.env := by rfl) (hpl : (backTo pos (starEach es X.env)).any (·.1) = false := by rfl) : PE X (.Call (.Name x p) (e :: es) [] pos) (tCall sp [] E0 t) := by
  obtain ⟨f, fd, F, hm, hk, hb⟩ := c.ex
  exact pe_call F hr hg hm hk hb .nil pass0 ha hdb he hpl
theorem pe_cn (c : Cn X.prog X.w X.K X.mg X.base k C x ps sp) (hr : Room (k + 1) X.A) (hg : Gl X x) (ha : PA X (e :: es) t) (hdb : (x == ("__debug__" : Str)) = false := by decide)
    (he : starEach (e :: es) X.env = (false, eval e X.env) :: starEach es X.env := by rfl) (hpl : (backTo pos (starEach es X.env)).any (·.1) = false := by rfl) : PE X (.Call (.Name x p) (e :: es) [] pos) (tMake C sp [] E0 t) := by
  obtain ⟨f, fd, F, M, hm, hb⟩ := c.ex
  exact pe_make M F hr hg hm hb .nil pass0 ha hdb he hpl
theorem pe_cm {pl : Sem Bool} (he : PE X o ta) (cc : Cls X.K C) (c : Cm X.prog X.w X.K X.mg X.base CX0 k C m ps sp) (hr : Room k X.A) (ha : PA X (e :: es) t)
    (hst : starEach (e :: es) X.env = (false, eval e X.env) :: starEach es X.env := by rfl) (hpl : (backTo pos (starEach es X.env)).any (·.1) = false := by rfl)
    (ht : eval (.Call (.Attribute o m apos) (e :: es) [] pos) X.env = (do
      let ov ← eval o X.env
      standAt apos.atName
      let (f, first) ← holding [ov] (getMethod ov m pl)
      callWith pos f first (backTo pos (starEach (e :: es) X.env)) (backToKw pos (keywordEach [] X.env))) := by rfl) :
    PE X (.Call (.Attribute o m apos) (e :: es) [] pos) (tMeth C m sp [] E0 ta t) := by
  obtain ⟨f, fd, F, hm, hb⟩ := c.ex
  exact pe_meth he cc hm F hr hb .nil pass0 ha hst hpl ht
theorem pe_cm0 {pl : Sem Bool} (he : PE X o ta) (cc : Cls X.K C) (c : Cm X.prog X.w X.K X.mg X.base CX0 k C m ps sp) (hr : Room k X.A)
    (ht : eval (.Call (.Attribute o m apos) [] [] pos) X.env = (do
      let ov ← eval o X.env
      standAt apos.atName
      let (f, first) ← holding [ov] (getMethod ov m pl)
      callWith pos f first (backTo pos (starEach [] X.env)) (backToKw pos (keywordEach [] X.env))) := by rfl) :
    PE X (.Call (.Attribute o m apos) [] [] pos) (tMeth C m sp [] E0 ta tNil) := by
  obtain ⟨f, fd, F, hm, hb⟩ := c.ex
  exact pe_meth0 he cc hm F hr hb .nil pass0 ht
end
/-- the built-in names that the top leaves as they are -/
structure Bi (mg : Str → Option Value) : Prop where
  len : mg "len" = none
  any : mg "any" = none
  range : mg "range" = none
  list : mg "list" = none
  tuple : mg "tuple" = none
  dict : mg "dict" = none
  set : mg "set" = none
  abs : mg "abs" = none
  isinstance : mg "isinstance" = none
  int : mg "int" = none
  bool : mg "bool" = none
  min : mg "min" = none
  max : mg "max" = none
  divmod : mg "divmod" = none
  sorted : mg "sorted" = none
  reversed : mg "reversed" = none
  ValueError : mg "ValueError" = none
end Gc
namespace Sf
open PySem PySem.Spec PyProof.Rows L2 Gc
/-! ### floors and layings in the heap, in one word each -/
def FloorD (C : Addr) (H : Hp) (x df : Addr) (ws : List Str) : Prop := ∃ dx lr g, FloorAt C H x dx lr df g ws
def LayD (CL : Addr) (H : Hp) (y x d : Addr) (ov : Ovr) : Prop := ∃ dy, LayAt CL H y dy x d ov
/-- all that stood is as it was, but for d -/
def Keep (d : Addr) (H H' : Hp) : Prop := ∀ b o, b ≠ d → H b = some o → H' b = some o
theorem Keep.refl (d : Addr) (H : Hp) : Keep d H H := fun _ _ _ e => e
theorem Keep.trans {d : Addr} {H H1 H2 : Hp} (a : Keep d H H1) (b : Keep d H1 H2) : Keep d H H2 := fun c o h e => b c o h (a c o h e)
theorem Keep.of {d : Addr} {H H' : Hp} (s : Same H H') : Keep d H H' := fun b o _ e => s b o e
theorem Keep.upd {d : Addr} {H : Hp} {o : HO} : Keep d H (upd H d o) := fun b u h e => by rw [upd_ne h]; exact e
theorem Keep.new {d : Addr} {H0 H1 H2 : Hp} (s : Same H0 H1) (hd : H0 d = none) (k : Keep d H1 H2) : Same H0 H2 := fun b o e => k b o (ne_of_none e hd) (s b o e)
theorem Keep.at {d b : Addr} {H H' : Hp} {kv : List (Key × V)} {o : HO} (k : Keep d H H') (hd : H d = some (.dK kv)) (e : H b = some o) (h : ∀ kv, o ≠ .dK kv) : H' b = some o :=
  k b o (fun q => by rw [q, hd] at e; exact h kv (Option.some.inj e).symm) e
theorem Keep.seq {K : PySem.W.Frag} {d a : Addr} {H H' : Hp} {kv : List (Key × V)} {xs : List V} (k : Keep d H H') (hd : H d = some (.dK kv)) (h : SqL K H a xs) : SqL K H' a xs := by
  rcases h with (h | ⟨o, h⟩) | h
  · exact .inl (.inl (k.at hd h (fun _ z => by cases z)))
  · exact .inl (.inr ⟨o, k.at hd h (fun _ z => by cases z)⟩)
  · exact .inr h
theorem FloorD.same {C : Addr} {H H' : Hp} {x df : Addr} {ws : List Str} (f : FloorD C H x df ws) (s : Same H H') : FloorD C H' x df ws := by
  obtain ⟨dx, lr, g, a⟩ := f
  exact ⟨dx, lr, g, a.same s⟩
theorem FloorD.dc {C : Addr} {H : Hp} {x df : Addr} {ws : List Str} (f : FloorD C H x df ws) : ∃ kv, H df = some (.dK kv) := by
  obtain ⟨dx, lr, g, a⟩ := f
  exact ⟨_, a.tb.dc⟩
theorem FloorD.keep {C : Addr} {H H' : Hp} {x df d : Addr} {ws : List Str} {kv : List (Key × V)} (f : FloorD C H x df ws) (hd : H d = some (.dK kv)) (ne : df ≠ d) (k : Keep d H H') : FloorD C H' x df ws := by
  obtain ⟨dx, lr, g, a⟩ := f
  exact ⟨dx, lr, g, k.at hd a.ob (fun _ z => by cases z), k.at hd a.rw (fun _ z => by cases z), ⟨k _ _ ne a.tb.dc, fun p hp => k.at hd (a.tb.ls p hp) (fun _ z => by cases z)⟩, k.at hd a.sg (fun _ z => by cases z)⟩
theorem LayD.same {CL : Addr} {H H' : Hp} {y x d : Addr} {ov : Ovr} (l : LayD CL H y x d ov) (s : Same H H') : LayD CL H' y x d ov := by
  obtain ⟨dy, a⟩ := l
  exact ⟨dy, a.same s⟩
theorem LayD.dc {CL : Addr} {H : Hp} {y x d : Addr} {ov : Ovr} (l : LayD CL H y x d ov) : H d = some (.dK (dk ov)) := by
  obtain ⟨dy, a⟩ := l
  exact a.dc
theorem LayD.keep {CL : Addr} {H H' : Hp} {y x d d2 : Addr} {ov : Ovr} {kv : List (Key × V)} (l : LayD CL H y x d ov) (hd : H d2 = some (.dK kv)) (ne : d ≠ d2) (k : Keep d2 H H') : LayD CL H' y x d ov := by
  obtain ⟨dy, a⟩ := l
  exact ⟨dy, k.at hd a.ob (fun _ z => by cases z), k _ _ ne a.dc⟩
theorem LayD.wrote {CL : Addr} {H H' : Hp} {y x d : Addr} {ov ov' : Ovr} (l : LayD CL H y x d ov) (k : Keep d H H') (h : H' d = some (.dK (dk ov'))) : LayD CL H' y x d ov' := by
  obtain ⟨dy, a⟩ := l
  exact ⟨dy, k.at a.dc a.ob (fun _ z => by cases z), h⟩
theorem back_none {H H' : Hp} {a : Addr} (s : Same H H') (h : H' a = none) : H a = none := by
  cases q : H a with
  | none => rfl
  | some o =>
    have := s _ _ q
    rw [h] at this
    cases this
/-! ### the methods, as those call them who know that nothing is refused -/
def spPut0 (C CL : Addr) : Sp := fun vs H Q _ => ∃ (y x df d : Addr) (ws : List Str) (ov : Ovr) (i j : Int), vs = [.ref y, .int i, .int j] ∧ LayD CL H y x d ov ∧ FloorD C H x df ws ∧ ov.length ≤ 900 ∧ putN ws ov i j = 0 ∧
  ∀ H', Keep d H H' → H' d = some (.dK (dk (ov ++ [(i, j)] ++ [(j, i)]))) → Q .non H'
def spLift0 (C CL : Addr) : Sp := fun vs H Q _ => ∃ (y x df d : Addr) (ws : List Str) (ov : Ovr) (i j : Int), vs = [.ref y, .int i] ∧ LayD CL H y x d ov ∧ FloorD C H x df ws ∧ Vl ws ov ∧ look ov i = some j ∧
  ∀ H', Keep d H H' → H' d = some (.dK (dk (lifted ov i j))) → Q .non H'
def spBare0 (C CL : Addr) : Sp := fun vs H Q _ => ∃ (y x df d : Addr) (ws : List Str) (ov : Ovr), vs = [.ref y] ∧ LayD CL H y x d ov ∧ FloorD C H x df ws ∧ Wf ws ∧
  ∀ (l : Addr) (H' : Hp), Same H H' → H l = none → H' l = some (.lst ((bareOf ws ov).map V.int)) → Q (.ref l) H'
def spSlabs0 (CL : Addr) : Sp := fun vs H Q _ => ∃ (y x d : Addr) (ov : Ovr), vs = [.ref y] ∧ LayD CL H y x d ov ∧ ov.length ≤ 900 ∧
  ∀ (l : Addr) (ts : List Addr) (ks : List Int) (H' : Hp), ks.Perm (keysOf ov) → ks.Pairwise (· ≤ ·) → Same H H' → H l = none → H' l = some (.lst (ts.map V.ref)) → TupsAt H' ts (pairsOf ks ov) → Q (.ref l) H'
section
variable {P : Program} {w : World} {K : PySem.W.Frag} {mg : Str → Option Value} {base : Heap} {C CL cN cB cC cU : Addr}
theorem put0 (c : Cm P w K mg base (L2.CX P w) 3 CL "put" ["self", "one", "other"] (spPut C CL cN cB cC cU)) : Cm P w K mg base CX0 3 CL "put" ["self", "one", "other"] (spPut0 C CL) := c.calm fun vs H Q E h => by
  obtain ⟨y, x, df, d, ws, ov, i, j, rfl, ⟨dy, la⟩, ⟨dx, lr, g, fa⟩, hl, hp, hQ⟩ := h
  exact ⟨y, dy, x, dx, lr, df, d, g, ws, ov, i, j, rfl, la, fa, hl, fun _ H' k hd => hQ H' (fun b o hb e => by rw [k b hb]; exact e) hd, fun q => absurd hp q⟩
theorem lift0 (c : Cm P w K mg base (L2.CX P w) 3 CL "lift" ["self", "cell"] (spLift C CL cN cB cC cU)) : Cm P w K mg base CX0 3 CL "lift" ["self", "cell"] (spLift0 C CL) := c.calm fun vs H Q E h => by
  obtain ⟨y, x, df, d, ws, ov, i, j, rfl, ⟨dy, la⟩, ⟨dx, lr, g, fa⟩, v, hl, hQ⟩ := h
  refine ⟨y, dy, x, dx, lr, df, d, g, ws, ov, i, rfl, la, fa, v.toSym, fun _ j2 H' hj k hd => ?_, fun q => absurd (liftN0 v hl) q⟩
  rw [hl] at hj
  cases hj
  exact hQ H' (fun b o hb e => by rw [k b hb]; exact e) hd
theorem bare0 (c : Cm P w K mg base CX0 2 CL "bare" ["self"] (spBare C CL)) : Cm P w K mg base CX0 2 CL "bare" ["self"] (spBare0 C CL) := c.imp fun vs H Q E h => by
  obtain ⟨y, x, df, d, ws, ov, rfl, ⟨dy, la⟩, ⟨dx, lr, g, fa⟩, hw, hQ⟩ := h
  exact ⟨y, dy, x, dx, lr, df, d, g, ws, ov, rfl, la, fa, Nat.le_trans (cells144 hw) (by decide), hQ⟩
theorem slabs0 (c : Cm P w K mg base CX0 1 CL "slabs" ["self"] (spSlabs CL)) : Cm P w K mg base CX0 1 CL "slabs" ["self"] (spSlabs0 CL) := c.imp fun vs H Q E h => by
  obtain ⟨y, x, d, ov, rfl, ⟨dy, la⟩, hl, hQ⟩ := h
  exact ⟨y, dy, x, d, ov, rfl, la, hl, hQ⟩
end
/-! ### short readings -/
theorem rd_over {K : PySem.W.Frag} {mg : Str → Option Value} {CL : Addr} (L : LTxt K mg CL) {ta : TE} {σ : L2.St} {H H1 : Hp} {Q : V → Hp → Prop} {y x d : Addr} {ov : Ovr} (h : ta σ H fun v H1 => v = .ref y ∧ LayD CL H1 y x d ov ∧ Q (.ref d) H1) (mono : ∀ σ H Q Q', (∀ v H1, Q v H1 → Q' v H1) → ta σ H Q → ta σ H Q') :
    tFld K ta "over" σ H Q := mono _ _ _ _ (fun v H1 ⟨e, ⟨dy, l⟩, q⟩ => ⟨y, CL, dy, _, _, e, l.ob, L.cl, L.nO, lfl_over _ _, q⟩) h
end Sf
namespace Sf
open PySem PySem.Spec PyProof.Rows L2 Gc
/-- law's: a list of at most 63 ints is handed in, True comes out -/
def spLaw (K : PySem.W.Frag) (Pt : Addr) : Sp := fun vs H Q _ => ∃ (a : Addr) (ns : List Int), vs = [.ref a] ∧ SqL K H a (ns.map V.int) ∧ ns.length ≤ 63 ∧ GxR.TabG H Pt ∧ ∀ H', Q (.bl true) H'
theorem Sm.at {P : Addr} {H H' : Hp} {b : Addr} {o : HO} (s : Sm P H H') (hT : GxR.TabG H P) (e : H b = some o) (h : ∀ ps, o ≠ .tbl ps) : H' b = some o := s.k _ _ (ne_tbl hT e h) e
theorem mk_floor {K : PySem.W.Frag} {Pt C lh x dx : Addr} {H : Hp} {ws : List Str} {Q : VK} {E : XK} (hS : SqL K H lh (ws.map V.str)) (hw : Wf ws) (hT : GxR.TabG H Pt) (nx : H x = none) (ndx : H dx = none) (nex : dx ≠ x)
    (h : ∀ df H', Sm Pt H H' → GxR.TabG H' Pt → H df = none → FloorD C H' x df ws → Q .non H') :
    spInit K Pt C [.ref x, .ref lh] (upd (upd H dx (.own x)) x (.ins C dx [])) Q E := by
  have s3 : Same H (upd (upd H dx (.own x)) x (.ins C dx [])) := fun b o e => by
    rw [upd_ne (ne_of_none e nx), upd_ne (ne_of_none e ndx)]
    exact e
  have hT3 := (Sm.of s3 (P := Pt)).t hT
  refine ⟨x, dx, lh, ws, rfl, upd_same, s3.seq hS, hw, hT3, fun lr df g H4 nw kp0 hT4 fa => ?_⟩
  refine h df H4 ⟨fun b o hb e => kp0 b o (ne_of_none e nx) hb (s3 b o e), fun _ => hT4⟩ hT4 ?_ ⟨dx, lr, g, fa⟩
  exact back_none s3 nw.dc
end Sf
namespace Sf
open PySem L2
/-! ### what a laying reaches from a shade -/
inductive Rch (ws : List Str) (ov : Ovr) (s : Int) : Int → Prop
  | bare {c : Int} : isCell ws c = true → look ov c = none → shadeN ws c = s → Rch ws ov s c
  | step {c o : Int} : Rch ws ov s c → shadeN ws c = s → mayB ws c o = true → Rch ws ov s o
  | mate {o m : Int} : Rch ws ov s o → shadeN ws o ≠ s → look ov o = some m → Rch ws ov s m
theorem Rch.cell {ws : List Str} {ov : Ovr} (v : Vl ws ov) {s c : Int} (r : Rch ws ov s c) : isCell ws c = true := by
  cases r with
  | bare h _ _ => exact h
  | step _ _ h => exact (may_cell h).2
  | mate _ _ h => exact (may_cell (v.may _ _ h)).2
/-- what was found: each cell, and the one from which it was reached -/
abbrev Fd := List (Int × Option Int)
def fk (fd : Fd) : List Int := fd.map (·.1)
/-- the cell c is found from q, behind the cells ks -/
def Par (ws : List Str) (ov : Ovr) (s : Int) (ks : List Int) (c : Int) : Option Int → Prop
  | none => isCell ws c = true ∧ look ov c = none ∧ shadeN ws c = s
  | some p => p ∈ ks ∧ ((shadeN ws c ≠ s ∧ shadeN ws p = s ∧ mayB ws p c = true) ∨ (shadeN ws c = s ∧ shadeN ws p ≠ s ∧ look ov c = some p))
def ParOk (ws : List Str) (ov : Ovr) (s : Int) (fd : Fd) : Prop := ∀ i c q, fd[i]? = some (c, q) → Par ws ov s (fk (fd.take i)) c q
theorem fd_snoc {fd : Fd} {x y : Int × Option Int} {i : Nat} (h : (fd ++ [x])[i]? = some y) : fd[i]? = some y ∨ (i = fd.length ∧ y = x) := by
  rcases Nat.lt_or_ge i fd.length with q | q
  · rw [List.getElem?_append_left q] at h
    exact .inl h
  · rw [List.getElem?_append_right q] at h
    have e : i - fd.length = 0 := by
      cases e : i - fd.length with
      | zero => rfl
      | succ n => rw [e] at h; simp at h
    rw [e] at h
    exact .inr ⟨by omega, (Option.some.inj h).symm⟩
theorem ParOk.snoc {ws : List Str} {ov : Ovr} {s : Int} {fd : Fd} {c : Int} {q : Option Int} (p : ParOk ws ov s fd) (h : Par ws ov s (fk fd) c q) : ParOk ws ov s (fd ++ [(c, q)]) := fun i c' q' e => by
  rcases fd_snoc e with z | ⟨rfl, z⟩
  · have il := (List.getElem?_eq_some_iff.mp z).1
    rw [List.take_append_of_le_length (by omega)]
    exact p i c' q' z
  · cases z
    rw [List.take_left]
    exact h
theorem fk_snoc (fd : Fd) (c : Int) (q : Option Int) : fk (fd ++ [(c, q)]) = fk fd ++ [c] := by
  unfold fk
  rw [List.map_append]
  rfl
theorem fk_at {fd : Fd} {c : Int} (h : c ∈ fk fd) : ∃ (i : Nat) (q : Option Int), fd[i]? = some (c, q) := by
  obtain ⟨p, hp, rfl⟩ := List.mem_map.mp h
  obtain ⟨i, hi⟩ := List.mem_iff_getElem?.mp hp
  exact ⟨i, p.2, hi⟩
theorem at_fk {fd : Fd} {i : Nat} {c : Int} {q : Option Int} (h : fd[i]? = some (c, q)) : c ∈ fk fd := List.mem_map.mpr ⟨(c, q), List.mem_of_getElem? h, rfl⟩
theorem fk_take {fd : Fd} {i : Nat} {c : Int} (h : c ∈ fk (fd.take i)) : ∃ (j : Nat) (q : Option Int), j < i ∧ fd[j]? = some (c, q) := by
  obtain ⟨j, q, hj⟩ := fk_at h
  rw [List.getElem?_take] at hj
  split at hj
  · exact ⟨j, q, by assumption, hj⟩
  · cases hj
/-- all that is found is reached -/
theorem ParOk.sound {ws : List Str} {ov : Ovr} {s : Int} {fd : Fd} (v : Vl ws ov) (p : ParOk ws ov s fd) : ∀ (n i : Nat) (c : Int) (q : Option Int), i < n → fd[i]? = some (c, q) → Rch ws ov s c
  | 0, i, c, q, h, _ => absurd h (Nat.not_lt_zero _)
  | n + 1, i, c, q, h, e => by
    have z := p i c q e
    cases q with
    | none => exact .bare z.1 z.2.1 z.2.2
    | some p' =>
      obtain ⟨m, z⟩ := z
      obtain ⟨j, q', hj, e'⟩ := fk_take m
      have r := ParOk.sound v p n j p' q' (by omega) e'
      rcases z with ⟨_, z2, z3⟩ | ⟨_, z2, z3⟩
      · exact .step r z2 z3
      · exact .mate r z2 (v.sym _ _ z3)
/-- between two turns: what waits, and the cell whose neighbours are looked at -/
structure RI (ws : List Str) (ov : Ovr) (s : Int) (fd : Fd) (ah cur : List Int) : Prop where
  nd : (fk fd).Nodup
  par : ParOk ws ov s fd
  bare : ∀ c, isCell ws c = true → look ov c = none → shadeN ws c = s → c ∈ fk fd
  mate : ∀ o m, o ∈ fk fd → shadeN ws o ≠ s → look ov o = some m → m ∈ fk fd
  nbr : ∀ c, c ∈ fk fd → shadeN ws c = s → c ∈ ah ∨ c ∈ cur ∨ ∀ o, mayB ws c o = true → o ∈ fk fd
  ahk : ∀ c ∈ ah, c ∈ fk fd ∧ shadeN ws c = s
theorem RI.cell {ws : List Str} {ov : Ovr} {s : Int} {fd : Fd} {ah cur : List Int} (v : Vl ws ov) (r : RI ws ov s fd ah cur) {c : Int} (h : c ∈ fk fd) : isCell ws c = true := by
  obtain ⟨i, q, e⟩ := fk_at h
  exact (r.par.sound v (i + 1) i c q (Nat.lt_succ_self _) e).cell v
theorem RI.len {ws : List Str} {ov : Ovr} {s : Int} {fd : Fd} {ah cur : List Int} (v : Vl ws ov) (w : Wf ws) (r : RI ws ov s fd ah cur) : fd.length ≤ 144 := by
  have h : (fk fd).length ≤ (natI (cellsOf ws)).length := List.Nodup.length_le_of_subset r.nd fun i hi => cell_natI.mp (r.cell v hi)
  have h2 := cells144 w
  unfold fk natI at h
  rw [List.length_map, List.length_map] at h
  omega
theorem other_shade {ws : List Str} {s a b : Int} (hs : s = 0 ∨ s = 1) (h : shadeN ws a ≠ s) (hm : mayB ws a b = true) : shadeN ws b = s := by
  have h1 := may_shade hm
  have h2 := shade_two ws a
  have h3 := shade_two ws b
  omega
/-- a bare neighbour -/
theorem RI.free {ws : List Str} {ov : Ovr} {s : Int} {fd : Fd} {ah : List Int} {c o : Int} (v : Vl ws ov) (r : RI ws ov s fd ah [c]) (hc : c ∈ fk fd) (sc : shadeN ws c = s) (m : mayB ws c o = true) (n : o ∉ fk fd) (h : look ov o = none) : RI ws ov s (fd ++ [(o, some c)]) ah [c] := by
  have so : shadeN ws o ≠ s := by
    have := may_shade m
    omega
  have up : ∀ z, z ∈ fk fd → z ∈ fk (fd ++ [(o, some c)]) := fun z hz => by rw [fk_snoc]; exact List.mem_append_left _ hz
  refine ⟨?_, r.par.snoc ⟨hc, .inl ⟨so, sc, m⟩⟩, fun z h1 h2 h3 => up _ (r.bare z h1 h2 h3), fun a b h1 h2 h3 => ?_, fun z h1 h2 => ?_, fun z hz => ⟨up _ (r.ahk z hz).1, (r.ahk z hz).2⟩⟩
  · rw [fk_snoc, List.nodup_append]
    exact ⟨r.nd, by simp, fun a ha b hb e => n (by rw [← List.mem_singleton.mp hb, ← e]; exact ha)⟩
  · rw [fk_snoc] at h1
    rcases List.mem_append.mp h1 with q | q
    · exact up _ (r.mate a b q h2 h3)
    · rw [List.mem_singleton.mp q, h] at h3
      cases h3
  · rw [fk_snoc] at h1
    rcases List.mem_append.mp h1 with q | q
    · rcases r.nbr z q h2 with q | q | q
      · exact .inl q
      · exact .inr (.inl q)
      · exact .inr (.inr fun o' ho => up _ (q o' ho))
    · rw [List.mem_singleton.mp q] at h2
      exact absurd h2 so
/-- a covered neighbour, and the other cell of its slab -/
theorem RI.pair {ws : List Str} {ov : Ovr} {s : Int} {fd : Fd} {ah : List Int} {c o m : Int} (hs : s = 0 ∨ s = 1) (v : Vl ws ov) (r : RI ws ov s fd ah [c]) (hc : c ∈ fk fd) (sc : shadeN ws c = s) (my : mayB ws c o = true) (n : o ∉ fk fd) (h : look ov o = some m) :
    m ∉ fk (fd ++ [(o, some c)]) ∧ RI ws ov s (fd ++ [(o, some c)] ++ [(m, some o)]) (ah ++ [m]) [c] := by
  have so : shadeN ws o ≠ s := by
    have := may_shade my
    omega
  have hm := v.sym o m h
  have mom := v.may o m h
  have sm : shadeN ws m = s := other_shade hs so mom
  have ne := may_ne mom
  have nm : m ∉ fk fd := fun q => by
    obtain ⟨i, q', e⟩ := fk_at q
    have z := r.par i m q' e
    cases q' with
    | none =>
      have := z.2.1
      rw [hm] at this
      cases this
    | some p =>
      obtain ⟨mp, z⟩ := z
      rcases z with ⟨z1, _⟩ | ⟨_, _, z3⟩
      · exact z1 sm
      · rw [hm] at z3
        rw [← Option.some.inj z3] at mp
        obtain ⟨j, q2, _, e2⟩ := fk_take mp
        exact n (at_fk e2)
  have nm2 : m ∉ fk (fd ++ [(o, some c)]) := fun q => by
    rw [fk_snoc] at q
    rcases List.mem_append.mp q with q | q
    · exact nm q
    · exact ne (List.mem_singleton.mp q).symm
  have up : ∀ z, z ∈ fk fd → z ∈ fk (fd ++ [(o, some c)] ++ [(m, some o)]) := fun z hz => by rw [fk_snoc, fk_snoc]; exact List.mem_append_left _ (List.mem_append_left _ hz)
  have mm : m ∈ fk (fd ++ [(o, some c)] ++ [(m, some o)]) := by rw [fk_snoc]; exact List.mem_append_right _ List.mem_cons_self
  have oin : o ∈ fk (fd ++ [(o, some c)]) := by rw [fk_snoc]; exact List.mem_append_right _ List.mem_cons_self
  have cs : ∀ z, z ∈ fk (fd ++ [(o, some c)] ++ [(m, some o)]) → z ∈ fk fd ∨ z = o ∨ z = m := fun z hz => by
    rw [fk_snoc, fk_snoc] at hz
    rcases List.mem_append.mp hz with q | q
    · rcases List.mem_append.mp q with q | q
      · exact .inl q
      · exact .inr (.inl (List.mem_singleton.mp q))
    · exact .inr (.inr (List.mem_singleton.mp q))
  refine ⟨nm2, ?_, ParOk.snoc (r.par.snoc ⟨hc, .inl ⟨so, sc, my⟩⟩) ⟨oin, .inr ⟨sm, so, hm⟩⟩, fun z h1 h2 h3 => up _ (r.bare z h1 h2 h3), fun a b h1 h2 h3 => ?_, fun z h1 h2 => ?_, fun z hz => ?_⟩
  · rw [fk_snoc, List.nodup_append]
    refine ⟨?_, by simp, fun a ha b hb e => nm2 (by rw [← List.mem_singleton.mp hb, ← e]; exact ha)⟩
    rw [fk_snoc, List.nodup_append]
    exact ⟨r.nd, by simp, fun a ha b hb e => n (by rw [← List.mem_singleton.mp hb, ← e]; exact ha)⟩
  · rcases cs a h1 with q | q | q
    · exact up _ (r.mate a b q h2 h3)
    · rw [q, h] at h3
      rw [← Option.some.inj h3]
      exact mm
    · rw [q] at h2
      exact absurd sm h2
  · rcases cs z h1 with q | q | q
    · rcases r.nbr z q h2 with q | q | q
      · exact .inl (List.mem_append_left _ q)
      · exact .inr (.inl q)
      · exact .inr (.inr fun o' ho => up _ (q o' ho))
    · rw [q] at h2
      exact absurd h2 so
    · rw [q]
      exact .inl (List.mem_append_right _ List.mem_cons_self)
  · rcases List.mem_append.mp hz with q | q
    · exact ⟨up _ (r.ahk z q).1, (r.ahk z q).2⟩
    · rw [List.mem_singleton.mp q]
      exact ⟨mm, sm⟩
/-- what reached tells -/
structure Found (ws : List Str) (ov : Ovr) (s : Int) (fd : Fd) : Prop where
  nd : (fk fd).Nodup
  par : ParOk ws ov s fd
  all : ∀ c, c ∈ fk fd ↔ Rch ws ov s c
theorem RI.done {ws : List Str} {ov : Ovr} {s : Int} {fd : Fd} (v : Vl ws ov) (r : RI ws ov s fd [] []) : Found ws ov s fd := by
  refine ⟨r.nd, r.par, fun c => ⟨fun h => ?_, fun h => ?_⟩⟩
  · obtain ⟨i, q, e⟩ := fk_at h
    exact r.par.sound v (i + 1) i c q (Nat.lt_succ_self _) e
  · induction h with
    | bare h1 h2 h3 => exact r.bare _ h1 h2 h3
    | step _ h2 h3 ih =>
      rcases r.nbr _ ih h2 with q | q | q
      · cases q
      · cases q
      · exact q _ h3
    | mate _ h2 h3 ih => exact r.mate _ _ ih h2 h3
theorem Found.len {ws : List Str} {ov : Ovr} {s : Int} {fd : Fd} (v : Vl ws ov) (w : Wf ws) (f : Found ws ov s fd) : fd.length ≤ 144 := by
  have h : (fk fd).length ≤ (natI (cellsOf ws)).length := List.Nodup.length_le_of_subset f.nd fun i hi => cell_natI.mp (((f.all i).mp hi).cell v)
  have h2 := cells144 w
  unfold fk natI at h
  rw [List.length_map, List.length_map] at h
  omega
/-! ### the dict of what was found -/
def oV : Option Int → V
  | none => .non
  | some i => .int i
def lookF (fd : Fd) (i : Int) : Option (Option Int) := (fd.find? fun p => decide (p.1 = i)).map (·.2)
def dkF (fd : Fd) : List (Key × V) := fd.map fun p => ((Sum.inl p.1 : Key), oV p.2)
theorem dkF_val (i : Int) : ∀ fd : Fd, valV (dkF fd) (Sum.inl i : Key) = (lookF fd i).map oV
  | [] => rfl
  | p :: r => by
    show valV (((Sum.inl p.1 : Key), oV p.2) :: dkF r) _ = _
    unfold lookF
    rw [List.find?_cons]
    by_cases e : p.1 = i
    · rw [decide_eq_true e, valV_pos (by rw [e])]
      rfl
    · rw [decide_eq_false e, valV_neg (fun q => e (Sum.inl.inj q))]
      exact dkF_val i r
theorem lookF_none {fd : Fd} {i : Int} : lookF fd i = none ↔ i ∉ fk fd := by
  unfold lookF fk
  rw [Option.map_eq_none_iff, List.find?_eq_none]
  constructor
  · intro h q
    obtain ⟨p, hp, e⟩ := List.mem_map.mp q
    exact h p hp (decide_eq_true e)
  · intro h p hp q
    exact h (List.mem_map.mpr ⟨p, hp, of_decide_eq_true q⟩)
theorem lookF_mem : ∀ {fd : Fd}, (fk fd).Nodup → ∀ {i : Int} {q : Option Int}, (i, q) ∈ fd → lookF fd i = some q
  | [], _, i, j, h => by cases h
  | p :: r, nd, i, j, h => by
    have nd' : (p.1 :: fk r).Nodup := nd
    rw [List.nodup_cons] at nd'
    unfold lookF
    rw [List.find?_cons]
    rcases List.mem_cons.mp h with q | q
    · rw [← q, decide_eq_true rfl]
      rfl
    · have ne : ¬ p.1 = i := fun e => nd'.1 (by rw [e]; exact List.mem_map.mpr ⟨(i, j), q, rfl⟩)
      rw [decide_eq_false ne]
      exact lookF_mem (fd := r) nd'.2 q
theorem lookF_in {fd : Fd} {i : Int} (h : i ∈ fk fd) : ∃ q, lookF fd i = some q := by
  cases e : lookF fd i with
  | none => exact absurd h (lookF_none.mp e)
  | some q => exact ⟨q, rfl⟩
theorem dkF_put {fd : Fd} {i : Int} {q : Option Int} (h : i ∉ fk fd) : putK (dkF fd) (Sum.inl i : Key) (oV q) = dkF (fd ++ [(i, q)]) := by
  rw [putK_new _ (by rw [dkF_val, lookF_none.mpr h] <;> rfl)]
  unfold dkF
  rw [List.map_append] <;> rfl
theorem dkF_keys (fd : Fd) : (dkF fd).map (·.1) = (fk fd).map (Sum.inl : Int → Key) := by
  unfold dkF fk
  rw [List.map_map, List.map_map]
  rfl
theorem dgetF {H : Hp} {d : Addr} {fd : Fd} (h : Rd H d (.dK (dkF fd))) (i : Int) : DGet H d (V.int i) ((lookF fd i).map oV) := .inl ⟨_, (Sum.inl i : Key), h, rfl, (dkF_val i fd).symm⟩
theorem dkF_len {fd : Fd} (h : fd.length ≤ 900) : (dkF fd).length < sizeLine := by
  unfold dkF
  rw [List.length_map]
  exact small1000 (by omega)
end Sf
namespace Sf
open PySem L2
/-! ### paintings -/
def isLight (ws : List Str) (s : Int) (R : List Int) (c : Int) : Bool := decide (decide (shadeN ws c = s) = decide (c ∈ R))
def lightOf (ws : List Str) (s : Int) (R : List Int) : List Int := (natI (cellsOf ws)).filter (isLight ws s R)
theorem inj_len {l m : List Int} (nd : l.Nodup) (f : Int → Int) (hf : ∀ a ∈ l, f a ∈ m) (inj : ∀ a ∈ l, ∀ b ∈ l, f a = f b → a = b) : l.length ≤ m.length := by
  have h : (l.map f).Nodup := by
    refine List.pairwise_map.mpr (List.Pairwise.imp_of_mem (fun {a b} ha hb (q : a ≠ b) e => q (inj a ha b hb e)) nd)
  have := List.Nodup.length_le_of_subset h (fun x hx => by
    obtain ⟨a, ha, rfl⟩ := List.mem_map.mp hx
    exact hf a ha : l.map f ⊆ m)
  rw [List.length_map] at this
  exact this
theorem filter_two (p : Int → Bool) (l : List Int) : (l.filter p).length + (l.filter fun c => !p c).length = l.length := by
  induction l with
  | nil => rfl
  | cons a r ih =>
    rw [List.filter_cons, List.filter_cons]
    cases p a with
    | true =>
      rw [if_pos rfl, if_neg (by decide), List.length_cons, List.length_cons]
      omega
    | false =>
      rw [if_neg (show ¬ false = true from by decide), if_pos (show (!false) = true from rfl), List.length_cons, List.length_cons]
      omega
theorem light_s {ws : List Str} {s : Int} {R : List Int} {c : Int} (h : shadeN ws c = s) : isLight ws s R c = decide (c ∈ R) := by
  unfold isLight
  rw [decide_eq_true h]
  cases decide (c ∈ R) <;> rfl
theorem light_n {ws : List Str} {s : Int} {R : List Int} {c : Int} (h : shadeN ws c ≠ s) : isLight ws s R c = !decide (c ∈ R) := by
  unfold isLight
  rw [decide_eq_false h]
  cases decide (c ∈ R) <;> rfl
/-- no slab may lie on two light cells -/
theorem light_apart {ws : List Str} {ov : Ovr} {s : Int} {R : List Int} (hs : s = 0 ∨ s = 1) (hR : ∀ c, c ∈ R ↔ Rch ws ov s c) {a b : Int} (ha : isLight ws s R a = true) (hb : isLight ws s R b = true) : mayB ws a b = false := by
  have key : ∀ a b, shadeN ws a = s → isLight ws s R a = true → isLight ws s R b = true → mayB ws a b = true → False := fun a b sa ha hb m => by
    have sb : shadeN ws b ≠ s := by
      have := may_shade m
      omega
    rw [light_s sa, decide_eq_true_eq] at ha
    rw [light_n sb] at hb
    have rb : b ∈ R := (hR b).mpr (.step ((hR a).mp ha) sa m)
    rw [decide_eq_true rb] at hb
    cases hb
  cases m : mayB ws a b with
  | false => rfl
  | true =>
    by_cases sa : shadeN ws a = s
    · exact (key a b sa ha hb m).elim
    · exact (key b a (other_shade hs sa m) hb ha (by rw [mayB_symm]; exact m)).elim
/-- each slab of the laying covers a light cell -/
theorem mate_light {ws : List Str} {ov : Ovr} {s : Int} {R : List Int} (hs : s = 0 ∨ s = 1) (v : Vl ws ov) (hR : ∀ c, c ∈ R ↔ Rch ws ov s c) {a b : Int} (h : look ov a = some b) (ha : isLight ws s R a = false) : isLight ws s R b = true := by
  have m := v.may a b h
  by_cases sa : shadeN ws a = s
  · rw [light_s sa] at ha
    have sb : shadeN ws b ≠ s := by
      have := may_shade m
      omega
    rw [light_n sb]
    have na : a ∉ R := of_decide_eq_false ha
    have nb : b ∉ R := fun q => na ((hR a).mpr (.mate ((hR b).mp q) sb (v.sym a b h)))
    rw [decide_eq_false nb]
    rfl
  · rw [light_n sa] at ha
    have sb := other_shade hs sa m
    rw [light_s sb]
    have ra : a ∈ R := by
      cases e : decide (a ∈ R) with
      | true => exact of_decide_eq_true e
      | false => rw [e] at ha; cases ha
    exact decide_eq_true ((hR b).mpr (.mate ((hR a).mp ra) sa h))
theorem mateV {ov : Ovr} {c : Int} (h : c ∈ keysOf ov) : ∃ m, look ov c = some m ∧ (look ov c).getD 0 = m := by
  obtain ⟨m, e⟩ := look_some.mp h
  exact ⟨m, e, by rw [e] <;> rfl⟩
/-- the light among the covered cells of a laying (any one) are at most as many as the dark ones -/
theorem keys_light {ws : List Str} {ov' : Ovr} (v : Vl ws ov') (p : Int → Bool) (ap : ∀ a b, p a = true → p b = true → mayB ws a b = false) : ((keysOf ov').filter p).length ≤ ((keysOf ov').filter fun c => !p c).length := by
  refine inj_len (v.nd.sublist List.filter_sublist) (fun c => (look ov' c).getD 0) (fun a ha => ?_) fun a ha b hb e => ?_
  · obtain ⟨ka, pa⟩ := List.mem_filter.mp ha
    obtain ⟨m, e1, e2⟩ := mateV ka
    show (look ov' a).getD 0 ∈ _
    rw [e2]
    refine List.mem_filter.mpr ⟨look_some.mpr ⟨a, v.sym a m e1⟩, ?_⟩
    cases pm : p m with
    | false => rfl
    | true =>
      have := ap a m pa pm
      rw [v.may a m e1] at this
      cases this
  · obtain ⟨ka, _⟩ := List.mem_filter.mp ha
    obtain ⟨kb, _⟩ := List.mem_filter.mp hb
    obtain ⟨m, e1, e2⟩ := mateV ka
    obtain ⟨n, e3, e4⟩ := mateV kb
    have e' : (look ov' a).getD 0 = (look ov' b).getD 0 := e
    rw [e2, e4] at e'
    have q1 := v.sym a m e1
    have q2 := v.sym b n e3
    rw [e', q2] at q1
    exact (Option.some.inj q1).symm
/-- and for the laying that paints, just as many -/
theorem keys_dark {ws : List Str} {ov : Ovr} {s : Int} {R : List Int} (hs : s = 0 ∨ s = 1) (v : Vl ws ov) (hR : ∀ c, c ∈ R ↔ Rch ws ov s c) : ((keysOf ov).filter fun c => !isLight ws s R c).length ≤ ((keysOf ov).filter (isLight ws s R)).length := by
  refine inj_len (v.nd.sublist List.filter_sublist) (fun c => (look ov c).getD 0) (fun a ha => ?_) fun a ha b hb e => ?_
  · obtain ⟨ka, pa⟩ := List.mem_filter.mp ha
    obtain ⟨m, e1, e2⟩ := mateV ka
    show (look ov a).getD 0 ∈ _
    rw [e2]
    refine List.mem_filter.mpr ⟨look_some.mpr ⟨a, v.sym a m e1⟩, ?_⟩
    refine mate_light hs v hR e1 ?_
    cases e : isLight ws s R a with
    | false => rfl
    | true => rw [e] at pa; cases pa
  · obtain ⟨ka, _⟩ := List.mem_filter.mp ha
    obtain ⟨kb, _⟩ := List.mem_filter.mp hb
    obtain ⟨m, e1, e2⟩ := mateV ka
    obtain ⟨n, e3, e4⟩ := mateV kb
    have e' : (look ov a).getD 0 = (look ov b).getD 0 := e
    rw [e2, e4] at e'
    have q1 := v.sym a m e1
    have q2 := v.sym b n e3
    rw [e', q2] at q1
    exact (Option.some.inj q1).symm
theorem keys_cells {ws : List Str} {ov' : Ovr} (v : Vl ws ov') (p : Int → Bool) : ((keysOf ov').filter p).length ≤ ((natI (cellsOf ws)).filter p).length :=
  List.Nodup.length_le_of_subset (v.nd.sublist List.filter_sublist) fun c hc => by
    obtain ⟨h1, h2⟩ := List.mem_filter.mp hc
    exact List.mem_filter.mpr ⟨cell_natI.mp (v.cell h1), h2⟩
theorem keys_length (ov : Ovr) : (keysOf ov).length = ov.length := by
  unfold keysOf
  rw [List.length_map]
/-- each slab of any laying covers a dark cell -/
theorem dark_bound {ws : List Str} {ov' : Ovr} (v : Vl ws ov') (p : Int → Bool) (ap : ∀ a b, p a = true → p b = true → mayB ws a b = false) : ov'.length ≤ 2 * ((natI (cellsOf ws)).filter fun c => !p c).length := by
  have h1 := keys_light v p ap
  have h2 := filter_two p (keysOf ov')
  have h3 := keys_cells v (fun c => !p c)
  rw [keys_length] at h2
  omega
theorem light_len {ws : List Str} {ov : Ovr} {s : Int} {R : List Int} (hs : s = 0 ∨ s = 1) (hR : ∀ c, c ∈ R ↔ Rch ws ov s c) {ov' : Ovr} (v : Vl ws ov') : 2 * (lightOf ws s R).length + ov'.length ≤ 2 * (cellsOf ws).length := by
  have h1 := dark_bound v (isLight ws s R) fun a b ha hb => light_apart hs hR ha hb
  have h2 := filter_two (isLight ws s R) (natI (cellsOf ws))
  have h3 : (natI (cellsOf ws)).length = (cellsOf ws).length := by unfold natI; rw [List.length_map]
  unfold lightOf
  omega
theorem cells_sorted (ws : List Str) : (natI (cellsOf ws)).Pairwise (· ≤ ·) := by
  unfold natI
  refine List.pairwise_map.mpr ?_
  have h : (cellsOf ws).Pairwise (· < ·) := (List.pairwise_lt_range).sublist List.filter_sublist
  exact h.imp fun q => by omega
end Sf
namespace Sf
open PySem L2
/-! ### ways, and layings with a way turned -/
/-- the slabs along a way, laid two by two -/
def prs : List Int → Ovr
  | a :: b :: r => (a, b) :: (b, a) :: prs r
  | _ => []
/-- a way of the laying, that may be turned -/
structure Wy (ws : List Str) (ov : Ovr) (v : List Int) : Prop where
  nd : v.Nodup
  hd : ∀ c, v[0]? = some c → look ov c = none
  st : ∀ k a b, v[2 * k]? = some a → v[2 * k + 1]? = some b → mayB ws a b = true
  mt : ∀ k a b, v[2 * k + 1]? = some a → v[2 * k + 2]? = some b → look ov a = some b
  en : ∀ k a, v[2 * k + 1]? = some a → v.length = 2 * k + 2 → look ov a = none
def offs (ov : Ovr) (s : List Int) : Ovr := ov.filter fun p => decide (p.1 ∉ s)
def ovT (ov : Ovr) (v : List Int) : Ovr := offs ov v ++ prs v
theorem look_offs (s : List Int) (k : Int) : ∀ ov : Ovr, look (offs ov s) k = if k ∈ s then none else look ov k
  | [] => by
    unfold offs
    rw [List.filter_nil]
    by_cases e : k ∈ s
    · rw [if_pos e] <;> rfl
    · rw [if_neg e]
  | p :: r => by
    have ih := look_offs s k r
    unfold offs at ih ⊢
    rw [List.filter_cons]
    by_cases e : p.1 ∈ s
    · rw [if_neg (by rw [decide_eq_true_eq]; exact fun q => q e), ih]
      by_cases e2 : k ∈ s
      · rw [if_pos e2, if_pos e2]
      · rw [if_neg e2, if_neg e2]
        unfold look
        rw [List.find?_cons, decide_eq_false (fun q => e2 (by rw [← q]; exact e))]
    · rw [if_pos (decide_eq_true e)]
      unfold look at ih ⊢
      rw [List.find?_cons, List.find?_cons]
      by_cases e3 : p.1 = k
      · rw [decide_eq_true e3, if_neg (fun q => e (by rw [e3]; exact q))]
      · rw [decide_eq_false e3]
        exact ih
theorem lifted_offs (ov : Ovr) (s : List Int) (a b : Int) : lifted (offs ov s) a b = offs ov (s ++ [a, b]) := by
  unfold lifted offs
  rw [List.filter_filter, List.filter_filter]
  refine List.filter_congr fun p _ => ?_
  rw [Bool.eq_iff_iff, Bool.and_eq_true, Bool.and_eq_true, decide_eq_true_eq, decide_eq_true_eq, decide_eq_true_eq, decide_eq_true_eq, List.mem_append]
  constructor
  · rintro ⟨⟨h3, h2⟩, h1⟩ (q | q)
    · exact h1 q
    · rcases List.mem_cons.mp q with q | q
      · exact h2 q
      · exact h3 (List.mem_singleton.mp q)
  · intro h
    exact ⟨⟨fun q => h (.inr (by rw [q]; simp)), fun q => h (.inr (by rw [q]; simp))⟩, fun q => h (.inl q)⟩
theorem offs_congr {ov : Ovr} {s t : List Int} (h : ∀ c ∈ keysOf ov, c ∈ s ↔ c ∈ t) : offs ov s = offs ov t := by
  unfold offs
  refine List.filter_congr fun p hp => ?_
  exact decide_eq_decide.mpr (not_congr (h p.1 (List.mem_map.mpr ⟨p, hp, rfl⟩)))
def upN (i : Nat) : Nat := if i % 2 = 0 then i + 1 else i
theorem take_one {v : List Int} {i : Nat} {a : Int} (h : v[i]? = some a) : v.take (i + 1) = v.take i ++ [a] := by
  rw [List.take_add_one, h] <;> rfl
/-- one turn of the first loop -/
theorem up_step {ws : List Str} {ov : Ovr} {v : List Int} (y : Wy ws ov v) {i : Nat} {c : Int} (h : v[i]? = some c) :
    (look (offs ov (v.take (upN i))) c = none ∧ offs ov (v.take (upN (i + 1))) = offs ov (v.take (upN i))) ∨ ∃ m, look (offs ov (v.take (upN i))) c = some m ∧ offs ov (v.take (upN (i + 1))) = lifted (offs ov (v.take (upN i))) c m := by
  have il := (List.getElem?_eq_some_iff.mp h).1
  rcases Nat.mod_two_eq_zero_or_one i with e | e
  · have e1 : upN i = i + 1 := if_pos e
    have e2 : upN (i + 1) = i + 1 := if_neg (by omega)
    refine .inl ⟨?_, by rw [e1, e2]⟩
    rw [look_offs, e1, if_pos]
    rw [take_one h]
    exact List.mem_append_right _ List.mem_cons_self
  · have e1 : upN i = i := if_neg (by omega)
    have e2 : upN (i + 1) = i + 2 := if_pos (by omega)
    obtain ⟨k, hk⟩ : ∃ k, i = 2 * k + 1 := ⟨i / 2, by omega⟩
    have nt : c ∉ v.take i := fun q => by
      have z := y.nd
      rw [← List.take_append_drop i v, List.nodup_append] at z
      refine z.2.2 c q c ?_ rfl
      rw [List.mem_iff_getElem?]
      exact ⟨0, by rw [List.getElem?_drop]; exact h⟩
    rw [e1, e2, look_offs, if_neg nt]
    rcases Nat.lt_or_ge (i + 1) v.length with q | q
    · obtain ⟨b, hb⟩ : ∃ b, v[i + 1]? = some b := ⟨_, List.getElem?_eq_getElem q⟩
      have m := y.mt k c b (by rw [← hk]; exact h) (by rw [← hb]; congr 1; omega)
      refine .inr ⟨b, m, ?_⟩
      rw [lifted_offs, show i + 2 = (i + 1) + 1 from rfl, take_one hb, take_one h, List.append_assoc]
      rfl
    · have n := y.en k c (by rw [← hk]; exact h) (by omega)
      refine .inl ⟨n, offs_congr fun z hz => ?_⟩
      have nz : z ≠ c := fun q => look_none.mp n (by rw [← q]; exact hz)
      rw [List.take_of_length_le (show v.length ≤ i + 2 by omega)]
      have ev : v = v.take i ++ [c] := by
        rw [← take_one h, List.take_of_length_le (by omega)]
      constructor
      · intro hv
        rw [ev] at hv
        rcases List.mem_append.mp hv with q | q
        · exact q
        · exact absurd (List.mem_singleton.mp q) nz
      · exact fun q => List.mem_of_mem_take q
theorem up_end {v : List Int} : v.take (upN v.length) = v := by
  refine List.take_of_length_le ?_
  unfold upN
  split <;> omega
theorem prs_snoc (a b : Int) : ∀ (k : Nat) (s : List Int), s.length = 2 * k → prs (s ++ [a, b]) = prs s ++ [(a, b), (b, a)]
  | 0, s, h => by
    have e : s = [] := List.eq_nil_of_length_eq_zero (by omega)
    rw [e]
    rfl
  | k + 1, [], h => by
    rw [List.length_nil] at h
    omega
  | k + 1, [_], h => by
    rw [List.length_cons, List.length_nil] at h
    omega
  | k + 1, x :: z :: r, h => by
    have ih := prs_snoc a b k r (by rw [List.length_cons, List.length_cons] at h; omega)
    show (x, z) :: (z, x) :: prs (r ++ [a, b]) = (x, z) :: (z, x) :: prs r ++ _
    rw [ih]
    rfl
theorem keys_prs : ∀ (k : Nat) (s : List Int), s.length = 2 * k → keysOf (prs s) = s
  | 0, s, h => by
    have e : s = [] := List.eq_nil_of_length_eq_zero (by omega)
    rw [e]
    rfl
  | k + 1, [], h => by
    rw [List.length_nil] at h
    omega
  | k + 1, [_], h => by
    rw [List.length_cons, List.length_nil] at h
    omega
  | k + 1, x :: z :: r, h => by
    have ih := keys_prs k r (by rw [List.length_cons, List.length_cons] at h; omega)
    show x :: z :: keysOf (prs r) = _
    rw [ih]
theorem prs_take : ∀ (n : Nat) (v : List Int), v.length ≤ n → prs (v.take (2 * (v.length / 2))) = prs v
  | _, [], _ => by simp [prs]
  | _, [_], _ => by simp [prs]
  | 0, x :: z :: r, h => by
    rw [List.length_cons] at h
    omega
  | n + 1, x :: z :: r, h => by
    have ih := prs_take n r (by rw [List.length_cons, List.length_cons] at h; omega)
    have e : 2 * ((x :: z :: r).length / 2) = 2 * (r.length / 2) + 1 + 1 := by
      rw [List.length_cons, List.length_cons]
      omega
    rw [e, List.take_succ_cons, List.take_succ_cons]
    show (x, z) :: (z, x) :: prs _ = _
    rw [ih]
    rfl
/-- one turn of the second loop -/
theorem put_step {ws : List Str} {ov : Ovr} {v : List Int} (y : Wy ws ov v) {j : Nat} {a b : Int} (ha : v[2 * j]? = some a) (hb : v[2 * j + 1]? = some b) :
    mayB ws a b = true ∧ look (offs ov v ++ prs (v.take (2 * j))) a = none ∧ look (offs ov v ++ prs (v.take (2 * j))) b = none ∧
    offs ov v ++ prs (v.take (2 * (j + 1))) = offs ov v ++ prs (v.take (2 * j)) ++ [(a, b)] ++ [(b, a)] := by
  have il := (List.getElem?_eq_some_iff.mp hb).1
  have tl : (v.take (2 * j)).length = 2 * j := by rw [List.length_take]; omega
  have e2 : v.take (2 * (j + 1)) = v.take (2 * j) ++ [a, b] := by
    rw [show 2 * (j + 1) = (2 * j + 1) + 1 from by omega, take_one hb, take_one ha, List.append_assoc]
    rfl
  have nt : ∀ c i, 2 * j ≤ i → v[i]? = some c → c ∉ v.take (2 * j) := fun c i hi h q => by
    have z := y.nd
    rw [← List.take_append_drop (2 * j) v, List.nodup_append] at z
    refine z.2.2 c q c ?_ rfl
    rw [List.mem_iff_getElem?]
    exact ⟨i - 2 * j, by rw [List.getElem?_drop, ← h]; congr 1; omega⟩
  have no : ∀ c i, 2 * j ≤ i → v[i]? = some c → look (offs ov v ++ prs (v.take (2 * j))) c = none := fun c i hi h => by
    rw [look_none]
    intro q
    unfold keysOf at q
    rw [List.map_append] at q
    rcases List.mem_append.mp q with q | q
    · have z : look (offs ov v) c = none := by rw [look_offs, if_pos (List.mem_of_getElem? h)]
      exact look_none.mp z q
    · have e : (prs (v.take (2 * j))).map (·.1) = v.take (2 * j) := keys_prs j _ tl
      rw [e] at q
      exact nt c i hi h q
  refine ⟨y.st j a b ha hb, no a _ (Nat.le_refl _) ha, no b _ (by omega) hb, ?_⟩
  rw [e2, prs_snoc a b j _ tl, List.append_assoc, List.append_assoc]
  rfl
end Sf
namespace Sf
open PySem PySem.Spec PyProof.Rows L2
section
variable {P : Program} {w : World} {K : PySem.W.Frag} {mg : Str → Option Value} {base : Heap}
def spCopied (CL : Addr) : Sp := fun vs H Q _ => ∃ (y dy x d : Addr) (ov : Ovr), vs = [.ref y] ∧ LayAt CL H y dy x d ov ∧
  ∀ (y2 dy2 d2 : Addr) (H' : Hp), Same H H' → H y2 = none → H d2 = none → LayAt CL H' y2 dy2 x d2 ov → Q (.ref y2) H'
theorem scCopied : FnScope ["self", "other"] ["self"] (defScope sLaying_copied) := ⟨rfl, rfl, rfl, by decide +kernel, rfl, by decide +kernel, by decide +kernel⟩
theorem ok_copied {f fI CL : Addr} {fd fdI : FuncData} (F : Fun K "copied" "Laying.copied" sLaying_copied f fd) (L : LTxt K mg CL) (M : Mk K CL fI) (GI : FnOk P w K mg base CX0 1 fI fdI ["self", "floor"] (spLInit CL)) (bI : Binds K fdI ["self", "floor"] []) (gd : mg "dict" = none) :
    FnOk P w K mg base CX0 3 f fd ["self"] (spCopied CL) := by
  refine F.ok scCopied (fun vs H Q E h => ?_) (fun cdv A outer s H vs Q E hr h => ?_)
  · obtain ⟨y, dy, x, d, ov, rfl, _⟩ := h
    rfl
  · obtain ⟨y, dy, x, d, ov, rfl, la, hQ⟩ := h
    refine ⟨_, pss_cons (ps_set (i := 1) scCopied.nd rfl (Or.inl rfl) (pe_make M GI hr rfl L.mgC bI .nil pass0 (pa_cons (pe_fld (pv 0) rfl) pa_nil)))
      (pss_cons (ps_fld (pv 1) (pe_callTy call_dictD (by rfl) gd rfl (pa_cons (pe_fld (pv 0) rfl) pa_nil)) rfl)
      (pss_one (ps_ret (pv 1)))), ?_⟩
    refine ⟨_, rfl, y, CL, dy, _, _, rfl, la.ob, L.cl, L.nF, lfl_floor _ _, fun y2 dy2 ny ndy ney => ?_⟩
    refine ⟨y2, dy2, x, rfl, upd_same, fun d1 H1 hd1 k1 la1 => ⟨rfl, ?_⟩⟩
    have s1 : Same H H1 := fun b o e => k1 b o (ne_of_none e ny) (by rw [upd_ne (ne_of_none e ny), upd_ne (ne_of_none e ndy)]; exact e)
    have laA := la.same s1
    refine ⟨_, rfl, y, CL, dy, _, _, rfl, laA.ob, L.cl, L.nO, lfl_over _ _, d, dk ov, rfl, .inl laA.dc, fun d2 hd2 => ?_⟩
    have s2 : Same H1 (upd H1 d2 (.dK (dk ov))) := Same.new hd2
    have ny2 : d2 ≠ y2 := fun q => by rw [q, la1.ob] at hd2; cases hd2
    refine ⟨_, rfl, y2, CL, dy2, _, rfl, s2 _ _ la1.ob, L.cl, L.nO, (by show 2 < 1000; decide), ?_⟩
    refine ⟨_, rfl, ?_⟩
    have h0 : H d2 = none := by
      cases q : H d2 with
      | none => rfl
      | some o =>
        have := s1 _ _ q
        rw [hd2] at this
        cases this
    refine hQ y2 dy2 d2 _ (fun b o e => ?_) ny h0 ⟨?_, ?_⟩
    · rw [upd_ne (ne_of_none e ny)]
      exact s2 _ _ (s1 _ _ e)
    · rw [upd_same]
      rfl
    · rw [upd_ne ny2, upd_same]
end
end Sf
namespace Sf
open PySem PySem.Spec PyProof.Rows L2 Gc
def spCopied0 (CL : Addr) : Sp := fun vs H Q _ => ∃ (y x d : Addr) (ov : Ovr), vs = [.ref y] ∧ LayD CL H y x d ov ∧
  ∀ (y2 d2 : Addr) (H' : Hp), Same H H' → H y2 = none → H d2 = none → LayD CL H' y2 x d2 ov → Q (.ref y2) H'
section
variable {P : Program} {w : World} {K : PySem.W.Frag} {mg : Str → Option Value} {base : Heap} {C CL cN cB cC cU : Addr}
theorem copied0 (c : Cm P w K mg base CX0 3 CL "copied" ["self"] (spCopied CL)) : Cm P w K mg base CX0 3 CL "copied" ["self"] (spCopied0 CL) := c.imp fun vs H Q E h => by
  obtain ⟨y, x, d, ov, rfl, ⟨dy, la⟩, hQ⟩ := h
  exact ⟨y, dy, x, d, ov, rfl, la, fun y2 dy2 d2 H' s h1 h2 l => hQ y2 d2 H' s h1 h2 ⟨dy2, l⟩⟩
end
end Sf
/-! Comprehensions over ints: the kept ones, and a value of each. -/
namespace Gc
open PySem PySem.Spec PyProof.Rows L2
theorem int_at0 {ks : List Int} {j : Nat} {y : V} (h : (ks.map V.int)[j]? = some y) : ∃ z, ks[j]? = some z ∧ y = V.int z ∧ ks.take (j + 1) = ks.take j ++ [z] := by
  rw [List.getElem?_map] at h
  cases e : ks[j]? with
  | none => rw [e] at h; cases h
  | some z =>
    rw [e] at h
    refine ⟨z, rfl, (Option.some.inj h).symm, ?_⟩
    rw [List.take_add_one, e] <;> rfl
theorem same_new {H : Hp} {a : Addr} {o : HO} (h : H a = none) : Same H (upd H a o) := fun b u e => by
  rw [upd_ne (ne_of_none e h)]
  exact e
theorem same_off {H0 H1 : Hp} {a : Addr} {o : HO} (s : Same H0 H1) (h : H0 a = none) : Same H0 (upd H1 a o) := fun b u e => by
  rw [upd_ne (ne_of_none e h)]
  exact s b u e
theorem none_back {H H' : Hp} {a : Addr} (s : Same H H') (h : H' a = none) : H a = none := by
  cases q : H a with
  | none => rfl
  | some o =>
    have := s _ _ q
    rw [h] at this
    cases this
theorem wipe1 (σ : L2.St) (i : Nat) (x : Option V) : wipe ((wipe σ [i]).set i x) [i] = wipe σ [i] := by
  show ((σ.set i none).set i x).set i none = σ.set i none
  rw [List.set_set, List.set_set]
/-- [c for c in xs if t] -/
theorem lc_filt {K : PySem.W.Frag} {a : Addr} {xs : List Int} {i : Nat} {tt : TT} {σ : L2.St} {H1 : Hp} {D : Addr} {Qd : Hp → Prop} (p : Int → Bool) (hS : SqL K H1 a (xs.map V.int)) (hD : H1 D = none) (hl : xs.length ≤ 900) (hi : i < σ.length)
    (ht : ∀ c H3, c ∈ xs → Same H1 H3 → ∀ R : Bool → Hp → Prop, (∀ H4, Same H3 H4 → R (p c) H4) → tt ((wipe σ [i]).set i (some (.int c))) H3 R)
    (hd : ∀ H3, Same H1 H3 → H3 D = some (.lst ((xs.filter p).map V.int)) → Qd H3) :
    ∃ W : Nat → Nat → Hp → Prop, (∃ m, W 0 m (upd H1 D (.lst []))) ∧ ∀ i' m H, W i' m H →
      ((Itl K a).stop i' H ∧ Qd H) ∨ ((Itl K a).go i' H ∧ ∃ Nx : Hp → Prop, (∀ H', Nx H' → ∃ m', m' < m ∧ W (i' + 1) m' H') ∧ ∀ x H', (Itl K a).yld i' H x H' → gName i x (wipe σ [i]) H' fun σ2 H2 => wipe σ2 [i] = wipe σ [i] ∧ tt σ2 H2 fun b H3 =>
        if b = true then tVar i σ2 H3 fun y H4 => ∃ acc, H4 D = some (.lst acc) ∧ acc.length < sizeLine ∧ Nx (upd H4 D (.lst (acc ++ [y]))) else Nx H3) := by
  refine lc_list (K := K) (a := a) (xs := xs.map V.int) (fun j H3 => Same H1 H3 ∧ H3 D = some (.lst (((xs.take j).filter p).map V.int))) ⟨same_new hD, upd_same⟩ (fun i H3 _ ⟨s3, _⟩ => s3.seq hS) ?_ ?_
  · rintro j y H3 hj ⟨s3, h3⟩
    obtain ⟨z, hz, rfl, tk1⟩ := int_at0 hj
    refine ⟨wipe1 σ i _, ht z H3 (List.mem_of_getElem? hz) s3 _ fun H4 s4 => ?_⟩
    have h4 := s4 _ _ h3
    have s34 := s3.trans s4
    cases hp : p z with
    | true =>
      refine iteT ?_
      refine ⟨.int z, ?_, _, h4, ?_, same_off s34 hD, ?_⟩
      · show ((σ.set i none).set i (some (V.int z)))[i]? = _
        rw [List.getElem?_set_self (by rw [List.length_set]; exact hi)]
      · rw [List.length_map]
        have q1 := List.length_filter_le p (xs.take j)
        have q2 : (xs.take j).length ≤ xs.length := by rw [List.length_take]; omega
        exact small1000 (by omega)
      · rw [upd_same, tk1, List.filter_append, List.map_append, List.filter_cons, if_pos hp] <;> rfl
    | false =>
      refine iteF ?_
      refine ⟨s34, ?_⟩
      rw [tk1, List.filter_append, List.filter_cons, if_neg (by rw [hp]; decide), List.filter_nil, List.append_nil]
      exact h4
  · rintro H3 ⟨s3, h3⟩
    rw [List.length_map, List.take_length] at h3
    exact hd H3 s3 h3
end Gc
namespace Sf
open PySem PySem.Spec PyProof.Rows L2 Gc
theorem rg_two (n : Nat) (h1 : n ≤ 1000) : RgC 0 (((n : Nat) : Int) - 1) 2 (n / 2) := by
  have e : Builtin.Range.rangeSize 0 (((n : Nat) : Int) - 1) 2 = ((n / 2 : Nat) : Int) := by
    unfold Builtin.Range.rangeSize
    rw [if_pos (by decide)]
    by_cases h : 1 < n
    · rw [if_pos (by omega)]
      omega
    · rw [if_neg (by omega)]
      omega
  refine ⟨by decide, by decide, ?_, e⟩
  unfold Builtin.Range.small
  rw [e]
  simp only [Builtin.Range.rangeFitsLong, Bool.and_eq_true, Bool.or_eq_true, decide_eq_true_eq, beq_iff_eq, show ((2 : Int) > 0) by decide, if_true]
  omega
def spTurned (K : PySem.W.Frag) (C CL : Addr) : Sp := fun vs H Q _ => ∃ (y x df d lw : Addr) (ws : List Str) (ov : Ovr) (v : List Int), vs = [.ref y, .ref lw] ∧ LayD CL H y x d ov ∧ FloorD C H x df ws ∧ Wf ws ∧ Vl ws ov ∧ SqL K H lw (v.map V.int) ∧ Wy ws ov v ∧ 0 < v.length ∧ v.length ≤ 1000 ∧
  ∀ (y2 d2 : Addr) (H' : Hp), Same H H' → H y2 = none → H d2 = none → LayD CL H' y2 x d2 (ovT ov v) → Vl ws (ovT ov v) → Q (.ref y2) H'
section
variable {P : Program} {w : World} {K : PySem.W.Frag} {mg : Str → Option Value} {base : Heap} {C CL : Addr}
theorem scturned : FnScope ["laying", "way", "other", "cell", "at"] ["laying", "way"] (defScope sturned) := ⟨rfl, rfl, rfl, by decide +kernel, rfl, by decide +kernel, by decide +kernel⟩
theorem ok_turned (D : Df K mg "turned" sturned ["laying", "way"]) (B : Bi mg) (L : LTxt K mg CL)
    (c_Laying_copied : Cm P w K mg base CX0 3 CL "copied" ["self"] (spCopied0 CL)) (c_Laying_put : Cm P w K mg base CX0 3 CL "put" ["self", "one", "other"] (spPut0 C CL)) (c_Laying_lift : Cm P w K mg base CX0 3 CL "lift" ["self", "cell"] (spLift0 C CL)) :
    Cl P w K mg base CX0 4 "turned" ["laying", "way"] (spTurned K C CL) := D.cl fun f fd F => by
  refine F.ok scturned (fun vs H Q E h => ?_) (fun cdv A outer s H vs Q E hr h => ?_)
  · obtain ⟨y, x, df, d, lw, ws, ov, v, rfl, _⟩ := h
    rfl
  · obtain ⟨y, x, df, d, lw, ws, ov, v, rfl, ⟨dy, la⟩, fl, hw, vl, hS, wy, h0, hl, hQ⟩ := h
    have hu := hu_of hr
    refine ⟨_, (pss_cons (ps_set (i := 2) scturned.nd rfl (Or.inl rfl) (pe_cm0 (pv 0) L.cl c_Laying_copied (hr.mono (by decide))))
      (pss_cons (ps_for PassesOwn.never rfl (pi_list (pv 1)) (pg_name (i := 3) scturned.nd rfl (Or.inl rfl)) (pss_one (ps_if (pt_cmp (pc_din hu (pv 3) (pe_fld (pv 2) rfl)) rfl) (pss_one (ps_expr (pe_cm (pv 2) L.cl c_Laying_lift (hr.mono (by decide)) (pa_cons (pv 3) pa_nil)))) pss_nil)))
      (pss_cons (ps_for PassesOwn.never rfl (pi_range3 rfl B.range (pa_cons pe_int (pa_cons (pe_op op_sub (pe_callB call_len (by rfl) B.len PySem.boot_len (pa_cons (pv 1) pa_nil)) pe_int) (pa_cons pe_int pa_nil)))) (pg_name (i := 4) scturned.nd rfl (Or.inl rfl)) (pss_one (ps_expr (pe_cm (pv 2) L.cl c_Laying_put (hr.mono (by decide)) (pa_cons (pe_ix ix_list (pv 1) (pv 4) (fun _ _ => rfl)) (pa_cons (pe_ix ix_list (pv 1) (pe_op op_add (pv 4) pe_int) (fun _ _ => rfl)) pa_nil))))))
      (pss_one (ps_ret (pv 2)))))), ?_⟩
    have nL : ∀ {d}, (lfl x d).lookup ("lift" : Str) = none := fun {d} => lfl_no x d (by decide +kernel) (by decide +kernel)
    have nP : ∀ {d}, (lfl x d).lookup ("put" : Str) = none := fun {d} => lfl_no x d (by decide +kernel) (by decide +kernel)
    refine ⟨_, rfl, y, dy, _, rfl, la.ob, lfl_no x d (by decide +kernel) (by decide +kernel), y, x, d, ov, rfl, ⟨dy, la⟩, fun y2 d2 H1 s1 hy2 hd2 la1 => ?_⟩
    have e0 : offs ov (v.take (upN 0)) = ov := by
      unfold offs
      refine List.filter_eq_self.mpr fun p hp => decide_eq_true fun q => ?_
      obtain ⟨c, hc⟩ : ∃ c, v[0]? = some c := ⟨_, List.getElem?_eq_getElem h0⟩
      have e : v.take (upN 0) = [c] := by
        show v.take (0 + 1) = _
        rw [take_one hc]
        rfl
      rw [e] at q
      have n := wy.hd c hc
      rw [← List.mem_singleton.mp q] at n
      exact look_none.mp n (List.mem_map.mpr ⟨p, hp, rfl⟩)
    have n2f : df ≠ d2 := by
      obtain ⟨kv, e⟩ := fl.dc
      exact ne_of_none e hd2
    refine ⟨_, rfl, lw, rfl, ⟨_, s1.seq hS⟩, for_list (K := K) (a := lw) (xs := v.map V.int) (fun i σ H2 => ∃ v3 : Option V, σ = [some (.ref y), some (.ref lw), some (.ref y2), v3, none] ∧ Same H H2 ∧ LayD CL H2 y2 x d2 (offs ov (v.take (upN i))) ∧ Vl ws (offs ov (v.take (upN i))))
      ⟨none, rfl, s1, by rw [e0]; exact la1, by rw [e0]; exact vl⟩ (fun i σ H2 _ ⟨_, _, s2, _⟩ => s2.seq hS) ?_ ?_⟩
    · rintro i z σ H2 hi ⟨v3, rfl, s2, la2, vl2⟩
      obtain ⟨c, hc, rfl, _⟩ := int_at0 hi
      obtain ⟨dy2, lb2⟩ := la2
      refine ⟨_, rfl, _, rfl, y2, CL, dy2, _, _, rfl, lb2.ob, L.cl, L.nO, lfl_over _ _, d2, _, rfl, (by
        have q := DGet.k (k := (Sum.inl c : Key)) lb2.dc
        rw [dk_val] at q
        exact q), _, rfl, ?_⟩
      rcases up_step wy hc with ⟨h1, h2⟩ | ⟨m, h1, h2⟩
      · rw [h1]
        refine iteF ?_
        exact ⟨_, rfl, s2, by rw [h2]; exact ⟨dy2, lb2⟩, by rw [h2]; exact vl2⟩
      · rw [h1]
        refine iteT ?_
        refine ⟨_, rfl, y2, dy2, _, rfl, lb2.ob, nL, _, rfl, y2, x, df, d2, ws, _, c, m, rfl, ⟨dy2, lb2⟩, fl.same s2, vl2, h1, fun H3 k3 d3 => ?_⟩
        refine ⟨_, rfl, Keep.new s2 hd2 k3, ?_, ?_⟩
        · rw [h2]
          exact LayD.wrote ⟨dy2, lb2⟩ k3 d3
        · rw [h2]
          exact vl2.lift h1
    rintro σ H2 ⟨v3, rfl, s2, la2, vl2⟩
    rw [List.length_map, up_end] at la2 vl2
    refine ⟨_, rfl, _, _, rfl, .inl ⟨_, s2.seq hS, rfl⟩, _, _, rfl, rfl, _, _, _, v.length / 2, rfl, by rw [List.length_map]; exact rg_two _ hl, ?_⟩
    refine for_rangeC (lo := 0) (c := 2) (n := v.length / 2) (fun j σ H3 => ∃ v4 : Option V, σ = [some (.ref y), some (.ref lw), some (.ref y2), v3, v4] ∧ Same H H3 ∧ LayD CL H3 y2 x d2 (offs ov v ++ prs (v.take (2 * j))) ∧ Vl ws (offs ov v ++ prs (v.take (2 * j)))) ⟨none, rfl, s2, ?_, ?_⟩ ?_ ?_
    · have e : offs ov v ++ prs (v.take (2 * 0)) = offs ov v := by
        show _ ++ prs [] = _
        exact List.append_nil _
      rw [e]
      exact la2
    · have e : offs ov v ++ prs (v.take (2 * 0)) = offs ov v := by
        show _ ++ prs [] = _
        exact List.append_nil _
      rw [e]
      exact vl2
    · rintro j σ H3 hj ⟨v4, rfl, s3, la3, vl3⟩
      obtain ⟨a, ha⟩ : ∃ a, v[2 * j]? = some a := ⟨_, List.getElem?_eq_getElem (show 2 * j < v.length by omega)⟩
      obtain ⟨b, hb⟩ : ∃ b, v[2 * j + 1]? = some b := ⟨_, List.getElem?_eq_getElem (show 2 * j + 1 < v.length by omega)⟩
      obtain ⟨p1, p2, p3, p4⟩ := put_step wy ha hb
      obtain ⟨dy3, lb3⟩ := la3
      have z1 : (0 : Int) + ((j : Nat) : Int) * 2 = ((2 * j : Nat) : Int) := by omega
      have z2 : (0 : Int) + ((j : Nat) : Int) * 2 + 1 = ((2 * j + 1 : Nat) : Int) := by omega
      refine ⟨_, rfl, y2, dy3, _, rfl, lb3.ob, nP, _, rfl, _, rfl, lw, _, _, _, rfl, rfl, s3.seq hS, by rw [z1]; exact atI_nat (by rw [List.getElem?_map, ha] <;> rfl), _, rfl, _, rfl, _, _, rfl, rfl, lw, _, _, _, rfl, rfl, s3.seq hS, by rw [z2]; exact atI_nat (by rw [List.getElem?_map, hb] <;> rfl),
        y2, x, df, d2, ws, _, a, b, rfl, ⟨dy3, lb3⟩, fl.same s3, Nat.le_trans (vl3.len hw) (by decide), putN0 p1 p2 p3, fun H4 k4 d4 => ?_⟩
      refine ⟨_, rfl, Keep.new s3 hd2 k4, ?_, ?_⟩
      · rw [p4]
        exact LayD.wrote ⟨dy3, lb3⟩ k4 d4
      · rw [p4]
        exact vl3.put p1 p2 p3
    · rintro σ H3 ⟨v4, rfl, s3, la3, vl3⟩
      rw [prs_take _ v (Nat.le_refl _)] at la3 vl3
      exact ⟨_, rfl, hQ y2 d2 H3 s3 hy2 hd2 la3 vl3⟩
end
end Sf
namespace Sf
open PySem PySem.Spec PyProof.Rows L2 Gc
/-- the way to a cell, as way_to tells it -/
structure Wto (fd : Fd) (c : Int) (v : List Int) : Prop where
  nd : v.Nodup
  pos : 0 < v.length
  last : v[v.length - 1]? = some c
  hd : ∀ a, v[0]? = some a → lookF fd a = some none
  st : ∀ k a b, v[k]? = some a → v[k + 1]? = some b → lookF fd b = some (some a)
  mem : ∀ a ∈ v, a ∈ fk fd
theorem new_take {α : Type} {xs : List α} {x : α} {i : Nat} (nd : xs.Nodup) (h : xs[i]? = some x) : x ∉ xs.take i := fun q => by
  have e := nd
  rw [← List.take_append_drop i xs, List.nodup_append] at e
  refine e.2.2 x q x ?_ rfl
  rw [List.mem_iff_getElem?]
  exact ⟨0, by rw [List.getElem?_drop]; exact h⟩
theorem uniq_at {xs : List Int} {i j : Nat} {a : Int} (nd : xs.Nodup) (hi : xs[i]? = some a) (hj : xs[j]? = some a) : i = j := by
  have key : ∀ {i j : Nat}, xs[i]? = some a → xs[j]? = some a → ¬ i < j := fun {i j} hi hj q => by
    refine new_take nd hj ?_
    rw [List.mem_iff_getElem?]
    exact ⟨i, by rw [List.getElem?_take, if_pos q]; exact hi⟩
  have h1 := key hi hj
  have h2 := key hj hi
  omega
theorem fk_get {fd : Fd} {i : Nat} {a : Int} {q : Option Int} (h : fd[i]? = some (a, q)) : (fk fd)[i]? = some a := by
  unfold fk
  rw [List.getElem?_map, h]
  rfl
theorem snoc_at {v : List Int} {i : Nat} {a c : Int} (h : (v ++ [c])[i]? = some a) : v[i]? = some a ∨ (i = v.length ∧ a = c) := by
  rcases Nat.lt_or_ge i v.length with q | q
  · rw [List.getElem?_append_left q] at h
    exact .inl h
  · rw [List.getElem?_append_right q] at h
    have e : i - v.length = 0 := by
      cases e : i - v.length with
      | zero => rfl
      | succ n => rw [e] at h; simp at h
    rw [e] at h
    exact .inr ⟨by omega, (Option.some.inj h).symm⟩
/-- on the way back: the cells so far, the last one at the place i of what was found -/
structure Back (fd : Fd) (c : Int) (w : List Int) (i : Nat) (a : Int) (q : Option Int) : Prop where
  w0 : w[0]? = some c
  nd : w.Nodup
  la : ∃ w', w = w' ++ [a]
  at_ : fd[i]? = some (a, q)
  st : ∀ k x y, w[k]? = some x → w[k + 1]? = some y → lookF fd x = some (some y)
  ge : ∀ x ∈ w, ∃ j q', i ≤ j ∧ fd[j]? = some (x, q')
theorem Back.step {fd : Fd} {c a b : Int} {w : List Int} {i j : Nat} {q : Option Int} (nd : (fk fd).Nodup) (h : Back fd c w i a (some b)) (hj : j < i) (hb : fd[j]? = some (b, q)) : Back fd c (w ++ [b]) j b q := by
  obtain ⟨w', ew⟩ := h.la
  have nb : b ∉ w := fun m => by
    obtain ⟨j2, q2, h2, e2⟩ := h.ge b m
    have := uniq_at nd (fk_get hb) (fk_get e2)
    omega
  refine ⟨?_, ?_, ⟨w, rfl⟩, hb, fun k x y e1 e2 => ?_, fun x hx => ?_⟩
  · have l0 := (List.getElem?_eq_some_iff.mp h.w0).1
    rw [List.getElem?_append_left l0]
    exact h.w0
  · rw [List.nodup_append]
    exact ⟨h.nd, by simp, fun x hx z hz e => nb (by rw [← List.mem_singleton.mp hz, ← e]; exact hx)⟩
  · rcases snoc_at e2 with z | ⟨z, rfl⟩
    · rw [List.getElem?_append_left (by have := (List.getElem?_eq_some_iff.mp z).1; omega)] at e1
      exact h.st k x y e1 z
    · rw [List.getElem?_append_left (by omega), ew] at e1
      have lw : w.length = w'.length + 1 := by rw [ew, List.length_append]; rfl
      rw [show k = w'.length from by omega, List.getElem?_append_right (Nat.le_refl _), Nat.sub_self] at e1
      have e3 : a = x := Option.some.inj e1
      rw [← e3]
      exact lookF_mem nd (List.mem_of_getElem? h.at_)
  · rcases List.mem_append.mp hx with z | z
    · obtain ⟨j2, q2, h2, e2⟩ := h.ge x z
      exact ⟨j2, q2, by omega, e2⟩
    · rw [List.mem_singleton.mp z]
      exact ⟨j, q, Nat.le_refl _, hb⟩
theorem Back.done {fd : Fd} {c a : Int} {w : List Int} {i : Nat} (nd : (fk fd).Nodup) (h : Back fd c w i a none) : Wto fd c w.reverse := by
  have l0 := (List.getElem?_eq_some_iff.mp h.w0).1
  obtain ⟨w', ew⟩ := h.la
  have lr : w.reverse.length = w.length := List.length_reverse
  refine ⟨(List.reverse_perm w).nodup_iff.mpr h.nd, by omega, ?_, fun x e => ?_, fun k x y e1 e2 => ?_, fun x hx => ?_⟩
  · rw [lr, List.getElem?_reverse (by omega), ← h.w0]
    congr 1
    omega
  · rw [List.getElem?_reverse l0, ew, List.length_append, List.length_singleton, Nat.sub_zero, Nat.add_sub_cancel, List.getElem?_append_right (Nat.le_refl _), Nat.sub_self] at e
    have e3 : a = x := Option.some.inj e
    rw [← e3]
    exact lookF_mem nd (List.mem_of_getElem? h.at_)
  · have i2 := (List.getElem?_eq_some_iff.mp e2).1
    rw [lr] at i2
    rw [List.getElem?_reverse (by omega)] at e1 e2
    refine h.st (w.length - 1 - (k + 1)) y x e2 ?_
    rw [← e1]
    congr 1
    omega
  · obtain ⟨j, q, _, e⟩ := h.ge x (List.mem_reverse.mp hx)
    exact at_fk e
def spWayTo (K : PySem.W.Frag) : Sp := fun vs H Q _ => ∃ (da : Addr) (ws : List Str) (ov : Ovr) (s c : Int) (fd : Fd), vs = [.ref da, .int c] ∧ H da = some (.dK (dkF fd)) ∧ Wf ws ∧ Vl ws ov ∧ Found ws ov s fd ∧ c ∈ fk fd ∧
  ∀ (lw : Addr) (v : List Int) (H' : Hp), Same H H' → H lw = none → H' lw = some (.lst (v.map V.int)) → Wto fd c v → Q (.ref lw) H'
theorem Wto.len {fd : Fd} {c : Int} {v : List Int} {ws : List Str} {ov : Ovr} {s : Int} (h : Wto fd c v) (hw : Wf ws) (vl : Vl ws ov) (f : Found ws ov s fd) : v.length ≤ 144 := by
  have q := List.Nodup.length_le_of_subset h.nd h.mem
  have l := f.len vl hw
  unfold fk at q
  rw [List.length_map] at q
  omega
/-- every second cell of a way is of the shade -/
theorem Wto.shades {fd : Fd} {c : Int} {v : List Int} {ws : List Str} {ov : Ovr} {s : Int} (h : Wto fd c v) (f : Found ws ov s fd) : ∀ (k : Nat) (a : Int), v[k]? = some a → (shadeN ws a = s ↔ k % 2 = 0)
  | 0, a, e => by
    obtain ⟨i, q, hq⟩ := fk_at (h.mem a (List.mem_of_getElem? e))
    have l := lookF_mem f.nd (List.mem_of_getElem? hq)
    rw [h.hd a e] at l
    have p := f.par i a q hq
    rw [← Option.some.inj l] at p
    exact ⟨fun _ => rfl, fun _ => p.2.2⟩
  | k + 1, b, e => by
    obtain ⟨a, ha⟩ : ∃ a, v[k]? = some a := ⟨_, List.getElem?_eq_getElem (show k < v.length by have := (List.getElem?_eq_some_iff.mp e).1; omega)⟩
    have ih := Wto.shades h f k a ha
    obtain ⟨i, q, hq⟩ := fk_at (h.mem b (List.mem_of_getElem? e))
    have l := lookF_mem f.nd (List.mem_of_getElem? hq)
    rw [h.st k a b ha e] at l
    have p := f.par i b q hq
    rw [← Option.some.inj l] at p
    rcases p.2 with ⟨p1, p2, _⟩ | ⟨p1, p2, _⟩
    · have := ih.mp p2
      exact ⟨fun z => absurd z p1, fun z => by omega⟩
    · have : k % 2 ≠ 0 := fun z => p2 (ih.mpr z)
      exact ⟨fun _ => by omega, fun _ => p1⟩
theorem Wto.wy {fd : Fd} {c : Int} {v : List Int} {ws : List Str} {ov : Ovr} {s : Int} (h : Wto fd c v) (vl : Vl ws ov) (f : Found ws ov s fd) (he : v.length % 2 = 0 → look ov c = none) : Wy ws ov v where
  nd := h.nd
  hd := fun a e => by
    obtain ⟨i, q, hq⟩ := fk_at (h.mem a (List.mem_of_getElem? e))
    have l := lookF_mem f.nd (List.mem_of_getElem? hq)
    rw [h.hd a e] at l
    have p := f.par i a q hq
    rw [← Option.some.inj l] at p
    exact p.2.1
  st := fun k a b ha hb => by
    obtain ⟨i, q, hq⟩ := fk_at (h.mem b (List.mem_of_getElem? hb))
    have l := lookF_mem f.nd (List.mem_of_getElem? hq)
    rw [h.st (2 * k) a b ha hb] at l
    have p := f.par i b q hq
    rw [← Option.some.inj l] at p
    rcases p.2 with ⟨_, _, p3⟩ | ⟨_, p2, _⟩
    · exact p3
    · exact absurd ((h.shades f (2 * k) a ha).mpr (by omega)) p2
  mt := fun k a b ha hb => by
    obtain ⟨i, q, hq⟩ := fk_at (h.mem b (List.mem_of_getElem? hb))
    have l := lookF_mem f.nd (List.mem_of_getElem? hq)
    rw [h.st (2 * k + 1) a b ha hb] at l
    have p := f.par i b q hq
    rw [← Option.some.inj l] at p
    rcases p.2 with ⟨_, p2, _⟩ | ⟨_, _, p3⟩
    · have := (h.shades f (2 * k + 1) a ha).mp p2
      omega
    · exact vl.sym b a p3
  en := fun k a ha hl => by
    have e := h.last
    rw [show v.length - 1 = 2 * k + 1 from by omega, ha] at e
    rw [Option.some.inj e]
    exact he (by omega)
section
variable {P : Program} {w : World} {K : PySem.W.Frag} {mg : Str → Option Value} {base : Heap}
theorem scway_to : FnScope ["found", "cell", "way"] ["found", "cell"] (defScope sway_to) := ⟨rfl, rfl, rfl, by decide +kernel, rfl, by decide +kernel, by decide +kernel⟩
theorem ok_wayto (D : Df K mg "way_to" sway_to ["found", "cell"]) : Cl P w K mg base CX0 1 "way_to" ["found", "cell"] (spWayTo K) := D.cl fun f fd_ F => by
  refine F.ok scway_to (fun vs H Q E h => ?_) (fun cdv A outer s_ H vs Q E hr h => ?_)
  · obtain ⟨da, ws, ov, s, c, fd, rfl, _⟩ := h
    rfl
  · obtain ⟨da, ws, ov, s, c, fd, rfl, hd, hw, vl, fo, hc, hQ⟩ := h
    have hu := hu_of hr
    refine ⟨_, (pss_cons (ps_set (i := 2) scway_to.nd rfl (Or.inl rfl) (pe_lst (pa_cons (pv 1) pa_nil)))
      (pss_cons (ps_while PassesOwn.never (pt_cmpR op_notN (pe_dget hu (pv 0) (pe_ix ix_list (pv 2) (pe_un un_neg pe_int) (fun _ _ => rfl)) (fun _ _ => rfl)) pe_non (by rfl)) (pss_one (ps_expr (pe_bm PySem.F.plainAttrs_list PySem.F.slot_list_append PySem.F.type_list_append mt_append (pv 2) (pa_cons (pe_dget hu (pv 0) (pe_ix ix_list (pv 2) (pe_un un_neg pe_int) (fun _ _ => rfl)) (fun _ _ => rfl)) pa_nil)))))
      (pss_one (ps_ret (pe_revL (pv 2)))))), ?_⟩
    refine ⟨_, rfl, (by show 1 ≤ sizeLine; decide), fun lw hlw => ?_⟩
    have s1 : Same H (upd H lw (.lst [.int c])) := same_new hlw
    obtain ⟨i0, q0, hi0⟩ := fk_at hc
    refine ⟨fun m σ H2 => ∃ (w_ : List Int) (a : Int) (q : Option Int), σ = [some (.ref da), some (.int c), some (.ref lw)] ∧ Same H H2 ∧ H2 lw = some (.lst (w_.map V.int)) ∧ Back fd c w_ m a q, ⟨i0, [c], c, q0, rfl, s1, upd_same, ⟨rfl, by simp, ⟨[], rfl⟩, hi0, fun k x y _ e => by simp at e, fun x hx => by rw [List.mem_singleton.mp hx]; exact ⟨i0, q0, Nat.le_refl _, hi0⟩⟩⟩, ?_⟩
    rintro i σ H2 ⟨w_, a, q, rfl, s2, w2, bk⟩
    obtain ⟨w', rfl⟩ := bk.la
    have atl : atI ((w' ++ [a]).map V.int) (-1) = some (V.int a) := by
      rw [List.map_append]
      exact atI_last _ _
    have la_ : lookF fd a = some q := lookF_mem fo.nd (List.mem_of_getElem? bk.at_)
    have dg : DGet H2 da (V.int a) (some (oV q)) := by
      have z := dgetF (.inl (s2 _ _ hd)) a
      rw [la_] at z
      exact z
    have wl : (w' ++ [a]).length ≤ 144 := by
      have z := List.Nodup.length_le_of_subset bk.nd (fun x hx => by
        obtain ⟨j, q', _, e⟩ := bk.ge x hx
        exact at_fk e : (w' ++ [a]) ⊆ fk fd)
      have l := fo.len vl hw
      unfold fk at z
      rw [List.length_map] at z
      omega
    refine ⟨_, rfl, _, rfl, _, rfl, lw, _, _, _, rfl, rfl, SqL.of w2, atl, da, _, rfl, dg, rfl, _, rfl, ?_⟩
    cases q with
    | none =>
      refine iteF ?_
      refine ⟨_, rfl, lw, _, rfl, SqL.of w2, fun p hp => ?_⟩
      refine hQ p (w' ++ [a]).reverse _ (s2.trans (same_new hp)) (none_back s2 hp) ?_ (bk.done fo.nd)
      rw [upd_same, List.map_reverse]
    | some b =>
      refine iteT ?_
      have pr := fo.par i a (some b) bk.at_
      obtain ⟨j, qb, hj, hb⟩ := fk_take pr.1
      refine ⟨fun σ' H' => ∃ (w_ : List Int) (a : Int) (q : Option Int), σ' = [some (.ref da), some (.int c), some (.ref lw)] ∧ Same H H' ∧ H' lw = some (.lst (w_.map V.int)) ∧ Back fd c w_ j a q, fun σ' H' h => ⟨j, hj, h⟩, ?_⟩
      refine ⟨_, rfl, .inl ⟨rfl, _, SqL.of w2⟩, _, rfl, _, rfl, _, rfl, lw, _, _, _, rfl, rfl, SqL.of w2, atl, da, _, rfl, dg, lw, _, _, rfl, rfl, w2, (by rw [List.length_map]; exact small1000 (by omega)), ?_⟩
      refine ⟨w' ++ [a] ++ [b], b, qb, rfl, same_off s2 hlw, ?_, bk.step fo.nd hj hb⟩
      rw [upd_same, List.map_append (l₁ := w' ++ [a])]
      rfl
end
end Sf
namespace Sf
open PySem PySem.Spec PyProof.Rows L2
def spRC (C : Addr) : Sp := fun vs H Q _ => ∃ (x dx lr d : Addr) (f : Nat → Addr) (ws : List Str) (p : Int), vs = [.ref x, .int p] ∧ FloorAt C H x dx lr d f ws ∧ 0 < wide ws ∧ wide ws ≤ 12 ∧ ∀ t H', Same H H' → H t = none → H' t = some (.tup [.int (p / (wide ws : Int)), .int (p % (wide ws : Int))]) → Q (.ref t) H'
section
variable {P : Program} {w : World} {K : PySem.W.Frag} {mg : Str → Option Value} {base : Heap}
theorem scRC : FnScope ["self", "place"] ["self", "place"] (defScope sFloor_row_and_column) := ⟨rfl, rfl, rfl, by decide +kernel, rfl, by decide +kernel, by decide +kernel⟩
theorem ok_rc {f C : Addr} {fd : FuncData} (F : Fun K "row_and_column" "Floor.row_and_column" sFloor_row_and_column f fd) (T : FTxt K mg C) (gd : mg "divmod" = none) (gm : mg "max" = none) : FnOk P w K mg base CX0 1 f fd ["self", "place"] (spRC C) := by
  refine F.ok scRC (fun vs H Q E h => ?_) (fun cdv A outer s H vs Q E hr h => ?_)
  · obtain ⟨x, dx, lr, d, g, ws, p, rfl, _⟩ := h
    rfl
  · obtain ⟨x, dx, lr, d, g, ws, p, rfl, a, h0, h1, hQ⟩ := h
    refine ⟨_, pss_one (ps_ret (pe_callB call_divmod (by rfl) gd rfl (pa_cons (pv 1) (pa_cons (pe_callB (call_max2 rfl) (by rfl) gm rfl (pa_cons (pe_fld (pv 0) rfl) (pa_cons pe_int pa_nil))) pa_nil)))), ?_⟩
    have em : (if (1 : Int) > ((wide ws : Nat) : Int) then (1 : Int) else ((wide ws : Nat) : Int)) = ((wide ws : Nat) : Int) := if_neg (by omega)
    refine ⟨_, rfl, _, rfl, x, C, dx, _, _, rfl, a.ob, T.cl, T.nW, flds_wide _ _ _ _, _, _, rfl, _, _, rfl, ?_, fun t ht => ?_⟩
    · rw [em]
      exact ⟨by omega, by omega⟩
    · rw [em]
      exact hQ t _ (Same.new ht) ht upd_same
end
end Sf
namespace Sf
open PySem PySem.Spec PyProof.Rows L2
def spShade (C : Addr) : Sp := fun vs H Q _ => ∃ (x dx lr d : Addr) (f : Nat → Addr) (ws : List Str) (p : Int), vs = [.ref x, .int p] ∧ FloorAt C H x dx lr d f ws ∧ 0 < wide ws ∧ wide ws ≤ 12 ∧ ∀ H', Same H H' → Q (.int (shadeN ws p)) H'
section
variable {P : Program} {w : World} {K : PySem.W.Frag} {mg : Str → Option Value} {base : Heap}
theorem scShade : FnScope ["self", "place", "row", "column"] ["self", "place"] (defScope sFloor_shade) := ⟨rfl, rfl, rfl, by decide +kernel, rfl, by decide +kernel, by decide +kernel⟩
theorem ok_shade {f fr C : Addr} {fd fdr : FuncData} (F : Fun K "shade" "Floor.shade" sFloor_shade f fd) (T : FTxt K mg C) (GR : FnOk P w K mg base CX0 1 fr fdr ["self", "place"] (spRC C)) (mR : Meth K C "row_and_column" fr) (bR : Binds K fdr ["self", "place"] []) : FnOk P w K mg base CX0 2 f fd ["self", "place"] (spShade C) := by
  refine F.ok scShade (fun vs H Q E h => ?_) (fun cdv A outer s H vs Q E hr h => ?_)
  · obtain ⟨x, dx, lr, d, g, ws, p, rfl, _⟩ := h
    rfl
  · obtain ⟨x, dx, lr, d, g, ws, p, rfl, a, h0, h1, hQ⟩ := h
    refine ⟨_, pss_cons (ps_asg (pe_meth (pv 0) T.cl mR GR hr bR .nil pass0 (pa_cons (pv 1) pa_nil)) (pg_tup (by rfl) (pgs_cons (pg_name (i := 2) scShade.nd rfl (Or.inl rfl)) (pgs_cons (pg_name (i := 3) scShade.nd rfl (Or.inl rfl)) pgs_nil))))
      (pss_one (ps_ret (pe_op op_mod (pe_op op_add (pv 2) (pv 3)) pe_int))), ?_⟩
    refine ⟨_, rfl, x, dx, _, rfl, a.ob, flds_no _ _ _ _ (by decide +kernel) (by decide +kernel) (by decide +kernel) (by decide +kernel), _, rfl, x, dx, lr, d, g, ws, p, rfl, a, h0, h1, fun t H1 s1 ht h1t => ?_⟩
    refine ⟨t, _, rfl, SqT.of h1t, rfl, _, _, rfl, _, _, rfl, rfl, ?_⟩
    refine ⟨_, rfl, _, rfl, _, _, rfl, rfl, _, _, rfl, rfl, (by show (0 : Int) < 2; decide), ?_⟩
    exact hQ _ s1
end
end Sf
namespace Sf
open PySem PySem.Spec PyProof.Rows L2
def spBeside (C CN : Addr) : Sp := fun vs H Q E => ∃ (x dx lr d : Addr) (f : Nat → Addr) (ws : List Str) (i : Int), vs = [.ref x, .int i] ∧ FloorAt C H x dx lr d f ws ∧
  (isCell ws i = true → ∀ (l : Addr) (H' : Hp), Same H H' → H l = none → H' l = some (.lst ((nbsP ws i.toNat).map V.int)) → Q (.ref l) H') ∧ (isCell ws i = false → E (.ref CN) none H)
section
variable {P : Program} {w : World} {K : PySem.W.Frag} {mg : Str → Option Value} {base : Heap}
theorem scBeside : FnScope ["self", "cell"] ["self", "cell"] (defScope sFloor_beside) := ⟨rfl, rfl, rfl, by decide +kernel, rfl, by decide +kernel, by decide +kernel⟩
theorem ok_beside {f fr C CN : Addr} {fd fdr : FuncData} (F : Fun K "beside" "Floor.beside" sFloor_beside f fd) (T : FTxt K mg C) (GR : FnOk P w K mg base (L2.CX P w) 2 fr fdr ["floor", "number"] (spRef C CN)) (gR : mg "refuse_no_cell" = some (.ref fr)) (kR : PySem.W.keepIn K (.ref fr) = true) (bR : Binds K fdr ["floor", "number"] [])
    (gl : mg "list" = none) : FnOk P w K mg base (L2.CX P w) 3 f fd ["self", "cell"] (spBeside C CN) := by
  refine F.okX scBeside (fun vs H Q E h => ?_) (fun cdv A outer s H vs Q E hr h => ?_)
  · obtain ⟨x, dx, lr, d, g, ws, i, rfl, _⟩ := h
    rfl
  · obtain ⟨x, dx, lr, d, g, ws, i, rfl, a, hQ, hE⟩ := h
    have hu := hu_of hr
    have go : Passes (L2.CX P w) (cxOf (L2.CX P w) P w K mg base ["self", "cell"] "Floor.beside" (defScope sFloor_beside) f cdv A outer s H E) E := passes_call (takes_of rfl rfl rfl rfl) (fun _ _ _ _ h => h)
    refine ⟨_, pss_cons (ps_expr (pe_call GR hr rfl gR kR bR .nil go (pa_cons (pv 0) (pa_cons (pv 1) pa_nil))))
      (pss_one (ps_ret (pe_callTy call_list_of (by rfl) gl (by decide +kernel) (pa_cons (pe_dget hu (pe_fld (pv 0) rfl) (pv 1) (fun _ _ => rfl)) pa_nil)))), ?_⟩
    refine ⟨_, rfl, _, rfl, x, dx, lr, d, g, ws, i, rfl, a, fun e => ?_, fun e => hE e⟩
    have hc : 0 ≤ i ∧ i.toNat ∈ cellsOf ws := of_decide_eq_true e
    refine ⟨_, rfl, x, C, dx, _, _, rfl, a.ob, T.cl, T.nN, flds_nbs _ _ _ _, _, rfl, d, .ref (g i.toNat), rfl, ?_, g i.toNat, _, rfl, .inl (SqL.of (a.tb.ls _ hc.2)), fun l hl => ?_⟩
    · have q := DGet.k (k := (Sum.inl i : Key)) a.tb.dc
      rw [valV_tab, if_pos hc] at q
      exact q
    · exact hQ e l _ (Same.new hl) hl upd_same
end
end Sf
namespace Sf
open PySem PySem.Spec PyProof.Rows L2 Gc
def spShade0 (C : Addr) : Sp := fun vs H Q _ => ∃ (x df : Addr) (ws : List Str) (p : Int), vs = [.ref x, .int p] ∧ FloorD C H x df ws ∧ Wf ws ∧ isCell ws p = true ∧ ∀ H', Same H H' → Q (.int (shadeN ws p)) H'
def spBeside0 (C : Addr) : Sp := fun vs H Q _ => ∃ (x df : Addr) (ws : List Str) (i : Int), vs = [.ref x, .int i] ∧ FloorD C H x df ws ∧ isCell ws i = true ∧ ∀ (l : Addr) (H' : Hp), Same H H' → H l = none → H' l = some (.lst ((nbsP ws i.toNat).map V.int)) → Q (.ref l) H'
theorem cell_wide {ws : List Str} {i : Int} (h : isCell ws i = true) : 0 < wide ws := by
  obtain ⟨p, rfl, hp⟩ := cell_nat h
  obtain ⟨h1, _⟩ := cell_place hp
  rcases Nat.eq_zero_or_pos (wide ws) with q | q
  · rw [q, Nat.zero_mul] at h1
    omega
  · exact q
section
variable {P : Program} {w : World} {K : PySem.W.Frag} {mg : Str → Option Value} {base : Heap} {C CN : Addr}
theorem shade0 (c : Cm P w K mg base CX0 2 C "shade" ["self", "place"] (spShade C)) : Cm P w K mg base CX0 2 C "shade" ["self", "place"] (spShade0 C) := c.imp fun vs H Q E h => by
  obtain ⟨x, df, ws, p, rfl, ⟨dx, lr, g, fa⟩, hw, hc, hQ⟩ := h
  exact ⟨x, dx, lr, df, g, ws, p, rfl, fa, cell_wide hc, hw.wid, hQ⟩
theorem beside0 (c : Cm P w K mg base (L2.CX P w) 3 C "beside" ["self", "cell"] (spBeside C CN)) : Cm P w K mg base CX0 3 C "beside" ["self", "cell"] (spBeside0 C) := c.calm fun vs H Q E h => by
  obtain ⟨x, df, ws, i, rfl, ⟨dx, lr, g, fa⟩, hc, hQ⟩ := h
  exact ⟨x, dx, lr, df, g, ws, i, rfl, fa, fun _ => hQ, fun q => by rw [hc] at q; cases q⟩
end
end Sf
/-! A name that is set to a dict comprehension; such a one over a list. -/
namespace Gc
open PySem PySem.Spec PyProof.Rows L2
theorem sw_trueD {kx vx : Expr} {gs : List Comprehension} {scope : Scope} {pos py : Pos} {y : Str} {l : Nat} {env : Env} (hk : env.scope.kind = .function) (hy : env.scope.names.lookup y = some .local) (hl : (py.line == pos.line) = true)
    (ha : (scope.names.any fun (n, k) => n == y && (k == .local || k == .cell)) = false) : swapsWith (.DictComp kx vx gs scope pos) (some (.Name y py)) l env = pure true := by
  have ky : env.kindOf y = some .local := hy
  have hb : env.blockKind = .function := by unfold Env.blockKind; rw [hk]; rfl
  unfold swapsWith
  simp only [hb, ky, ha, Expr.pos, hl]
  rfl
section
variable {X : Cx}
theorem ps_setDc {i : Nat} {y : Str} {py : Pos} {kx vx tg iter : Expr} {ifs : List Expr} {scope : Scope} {own : List (Str × Nat)} {pos spos : Pos} {wi : TI} {g : TG} {tt : TT} {tk tv : TE} (hc : X.calm = true) (hN : X.N.Nodup) (hy : X.N[i]? = some y) (hyl : X.env.scope.names.lookup y = some .local)
    (hsw : swapsWith (.DictComp kx vx [⟨tg, iter, ifs, 0⟩] scope pos) (some (.Name y py)) spos.line X.env = pure true) (hi : PI X tg iter wi) (ok : BlkOk X.N X.env.scope scope own)
    (hg : ∀ (s : Shared) (H : Hp) (C : Addr) (cl : List (Str × Addr)) (fp : List Addr), PG (X.blk s H scope (compEnvC scope cl C X.env) fp) tg g) (ht : ∀ (s : Shared) (H : Hp) (C : Addr) (cl : List (Str × Addr)) (fp : List Addr), PTs (X.blk s H scope (compEnvC scope cl C X.env) fp) ifs tt)
    (hk : ∀ (s : Shared) (H : Hp) (C : Addr) (cl : List (Str × Addr)) (fp : List Addr), PE (X.blk s H scope (compEnvC scope cl C X.env) fp) kx tk)
    (he : ∀ (s : Shared) (H : Hp) (C : Addr) (cl : List (Str × Addr)) (fp : List Addr), PE (X.blk s H scope (compEnvC scope cl C X.env) fp) vx tv) (hs : ∀ x, foldedSetIterable iter X.env x = pure x := by intro _; rfl) :
    PS X (.Assign [.Name y py] (.DictComp kx vx [⟨tg, iter, ifs, 0⟩] scope pos) spos) (tAsg (tDc wi g tt tk tv (own.map (·.2))) (gName i)) := by
  refine ⟨fun pins s σ H D I h => ?_⟩
  rw [exec_Assign_Name_used _ _ _ _ hsw]
  refine wpAny_bind (wpAny_standAt (wpAny_bind ?_))
  show wpAny _ X.A (do let _ ← comprehension (.DictComp kx vx [⟨tg, iter, ifs, 0⟩] scope pos) scope X.env (firstIterPos [⟨tg, iter, ifs, 0⟩] pos) newDict false (eval iter X.env) (some (assign (.Name y py) X.env))) _ _ s
  have h : tDc wi g tt tk tv (own.map (·.2)) σ H (fun x H1 => gName i x σ H1 D.nx) := h
  refine wpAny_bind (thn (dc_core (Qf := fun _ s' => SP X pins D .next s') hc hN I hi ok hg ht hk he hs h fun L C s' m H' I' q hn f => ?_) fun _ s' hq => wpAny_pure (wpAny_pure hq))
  show wpAny _ _ (assign (.Name y py) X.env (.ref L)) _ _ _
  refine wpAny_assign_Name (store_ok2 (v := V.ref L) I' hN hy (.inl hyl) rfl (fun s2 I2 ⟨a, sb, ha⟩ => ?_) (.inr hyl))
  obtain ⟨f0, f1, f2, f3, f4, f5⟩ := f
  have haC : C ≠ a := by
    rcases ha with z | z
    · rw [z]; exact f1
    · exact fun e => f4 y a z e.symm
  refine ⟨m, hn.sameBut sb haC, fun h3 sb3 => ?_⟩
  exact ⟨_, H', I2.turned (t' := s2.toks) (fun b o hb e => (sb3.2 b hb).trans e) f0 f1 f3 f4 f5, q⟩
end
/-- over a list that stays -/
theorem dc_list {K : PySem.W.Frag} {a : Addr} {xs : List V} {g : TG} {tt : TT} {tk tv : TE} {vs : List Nat} {σ : L2.St} {H1 : Hp} {D : Addr} {Qd : Hp → Prop} (Pv : Nat → Hp → Prop) (h0 : Pv 0 (upd H1 D (.dK []))) (hl : ∀ i H, i ≤ xs.length → Pv i H → SqL K H a xs)
    (hs : ∀ i x H, xs[i]? = some x → Pv i H → g x (wipe σ vs) H fun σ2 H2 => wipe σ2 vs = wipe σ vs ∧ tt σ2 H2 fun b H3 =>
      if b = true then tk σ2 H3 fun y H4 => tv σ2 H4 fun z H5 => ∃ kvs k, y = kV k ∧ H5 D = some (.dK kvs) ∧ kvs.length < sizeLine ∧ Pv (i + 1) (upd H5 D (.dK (putK kvs k z))) else Pv (i + 1) H3) (hd : ∀ H, Pv xs.length H → Qd H) :
    ∃ W : Nat → Nat → Hp → Prop, (∃ m, W 0 m (upd H1 D (.dK []))) ∧ ∀ i m H, W i m H →
      ((Itl K a).stop i H ∧ Qd H) ∨ ((Itl K a).go i H ∧ ∃ Nx : Hp → Prop, (∀ H', Nx H' → ∃ m', m' < m ∧ W (i + 1) m' H') ∧ ∀ x H', (Itl K a).yld i H x H' → g x (wipe σ vs) H' fun σ2 H2 => wipe σ2 vs = wipe σ vs ∧ tt σ2 H2 fun b H3 =>
        if b = true then tk σ2 H3 fun y H4 => tv σ2 H4 fun z H5 => ∃ kvs k, y = kV k ∧ H5 D = some (.dK kvs) ∧ kvs.length < sizeLine ∧ Nx (upd H5 D (.dK (putK kvs k z))) else Nx H3) := by
  refine ⟨fun i m H => m = xs.length - i ∧ i ≤ xs.length ∧ Pv i H, ⟨xs.length, by simp, Nat.zero_le _, h0⟩, ?_⟩
  rintro i m H ⟨rfl, hi, p⟩
  have q := hl i H hi p
  by_cases hlt : i < xs.length
  · refine .inr ⟨⟨xs, xs[i], q, by simp [hlt]⟩, Pv (i + 1), fun H' p' => ⟨xs.length - (i + 1), by omega, rfl, hlt, p'⟩, fun x H' y => ?_⟩
    obtain ⟨e, y⟩ := y
    subst e
    exact hs i x _ (y xs q) p
  · have e : i = xs.length := by omega
    subst e
    exact .inl ⟨⟨xs, q, Nat.le_refl _⟩, hd H p⟩
end Gc
namespace Sf
open PySem PySem.Spec PyProof.Rows L2 Gc
def dLen (H : Hp) (d : Addr) : Nat := match H d with
  | some (.dK kvs) => kvs.length
  | _ => 0
def lLen (H : Hp) (d : Addr) : Nat := match H d with
  | some (.lst xs) => xs.length
  | _ => 0
theorem dLen_of {H : Hp} {d : Addr} {fd : Fd} (h : H d = some (.dK (dkF fd))) : dLen H d = fd.length := by
  unfold dLen
  rw [h]
  unfold dkF
  exact List.length_map _
theorem lLen_of {H : Hp} {d : Addr} {xs : List Int} (h : H d = some (.lst (xs.map V.int))) : lLen H d = xs.length := by
  unfold lLen
  rw [h]
  exact List.length_map _
def spReached (C CL : Addr) : Sp := fun vs H Q _ => ∃ (y x df d : Addr) (ws : List Str) (ov : Ovr) (s : Int), vs = [.ref y, .int s] ∧ LayD CL H y x d ov ∧ FloorD C H x df ws ∧ Wf ws ∧ Vl ws ov ∧ (s = 0 ∨ s = 1) ∧
  ∀ (fa : Addr) (fd : Fd) (H' : Hp), Same H H' → H fa = none → H' fa = some (.dK (dkF fd)) → Found ws ov s fd → Q (.ref fa) H'
/-- the bare cells of a shade, as they are found first -/
def first (bs : List Int) (ws : List Str) (s : Int) : Fd := (bs.filter fun c => decide (shadeN ws c = s)).map fun c => (c, none)
theorem fk_first (bs : List Int) (ws : List Str) (s : Int) : fk (first bs ws s) = bs.filter fun c => decide (shadeN ws c = s) := by
  unfold fk first
  rw [List.map_map]
  have e : ((fun x : Int × Option Int => x.1) ∘ fun c : Int => (c, (none : Option Int))) = id := rfl
  rw [e, List.map_id]
theorem bare_mem {ws : List Str} {ov : Ovr} {c : Int} : c ∈ bareOf ws ov ↔ isCell ws c = true ∧ look ov c = none := by
  unfold bareOf
  rw [List.mem_filter]
  constructor
  · rintro ⟨h1, h2⟩
    refine ⟨cell_natI.mpr h1, ?_⟩
    cases e : look ov c with
    | none => rfl
    | some z => unfold has at h2; rw [e] at h2; cases h2
  · rintro ⟨h1, h2⟩
    refine ⟨cell_natI.mp h1, ?_⟩
    unfold has
    rw [h2]
    rfl
theorem bare_nd (ws : List Str) (ov : Ovr) : (bareOf ws ov).Nodup := (natI_nd (cellsOf_nd ws)).sublist List.filter_sublist
theorem bare_len {ws : List Str} (w : Wf ws) (ov : Ovr) : (bareOf ws ov).length ≤ 144 := by
  have h := List.length_filter_le (fun c => !has ov c) (natI (cellsOf ws))
  have h2 : (natI (cellsOf ws)).length = (cellsOf ws).length := by unfold natI; rw [List.length_map]
  have h3 := cells144 w
  have e : bareOf ws ov = (natI (cellsOf ws)).filter fun c => !has ov c := rfl
  rw [e]
  omega
theorem RI.start {ws : List Str} {ov : Ovr} {s : Int} (v : Vl ws ov) : RI ws ov s (first (bareOf ws ov) ws s) (fk (first (bareOf ws ov) ws s)) [] := by
  have mem : ∀ c, c ∈ fk (first (bareOf ws ov) ws s) ↔ (isCell ws c = true ∧ look ov c = none) ∧ shadeN ws c = s := fun c => by
    rw [fk_first, List.mem_filter, bare_mem, decide_eq_true_eq]
  refine ⟨?_, fun i c q e => ?_, fun c h1 h2 h3 => (mem c).mpr ⟨⟨h1, h2⟩, h3⟩, fun o m h1 h2 _ => absurd ((mem o).mp h1).2 h2, fun c h1 _ => .inl h1, fun c h => ⟨h, ((mem c).mp h).2⟩⟩
  · rw [fk_first]
    exact (bare_nd ws ov).sublist List.filter_sublist
  · have m := List.mem_of_getElem? e
    unfold first at m
    obtain ⟨c', hc', e'⟩ := List.mem_map.mp m
    have e1 : c' = c := congrArg Prod.fst e'
    have e2 : none = q := congrArg Prod.snd e'
    have h := (mem c).mp (by rw [fk_first, ← e1]; exact hc')
    rw [← e2]
    exact ⟨h.1.1, h.1.2, h.2⟩
section
variable {P : Program} {w : World} {K : PySem.W.Frag} {mg : Str → Option Value} {base : Heap} {C CL : Addr}
theorem screached : FnScope ["laying", "shade", "floor", "found", "ahead", "cell", "other", "bare"] ["laying", "shade"] (defScope sreached) := ⟨rfl, rfl, rfl, by decide +kernel, rfl, by decide +kernel, by decide +kernel⟩
theorem ok_reached (D : Df K mg "reached" sreached ["laying", "shade"]) (B : Bi mg) (T : FTxt K mg C) (L : LTxt K mg CL)
    (c_Laying_bare : Cm P w K mg base CX0 2 CL "bare" ["self"] (spBare0 C CL)) (c_Floor_shade : Cm P w K mg base CX0 2 C "shade" ["self", "place"] (spShade0 C)) (c_Floor_beside : Cm P w K mg base CX0 3 C "beside" ["self", "cell"] (spBeside0 C)) :
    Cl P w K mg base CX0 4 "reached" ["laying", "shade"] (spReached C CL) := D.cl fun f fd F => by
  refine F.ok screached (fun vs H Q E h => ?_) (fun cdv A outer s H vs Q E hr h => ?_)
  · obtain ⟨y, x, df, d, ws, ov, sh, rfl, _⟩ := h
    rfl
  · obtain ⟨y, x, df, d, ws, ov, sh, rfl, ⟨dy, la⟩, fl, hw, v, hs, hQ⟩ := h
    have hu := hu_of hr
    refine ⟨_, (pss_cons (ps_set (i := 2) screached.nd rfl (Or.inr rfl) (pe_fld (pv 0) rfl))
      (pss_cons (ps_setDc (i := 3) (own := [("bare", 7)]) (g := gName 7) rfl screached.nd rfl rfl (sw_trueD rfl rfl rfl (by decide +kernel)) (pi_list (pe_cm0 (pv 0) L.cl c_Laying_bare (hr.mono (by decide)))) (blkOk_by (N := ["laying", "shade", "floor", "found", "ahead", "cell", "other", "bare"]) (sc := defScope sreached) (by decide +kernel)) (fun _ _ _ _ _ => pg_name (i := 7) screached.nd rfl (Or.inl rfl)) (fun _ _ _ _ _ => pts_one (pt_cmpR op_eq (pe_cm (pv 2) T.cl c_Floor_shade (hr.mono (by decide)) (pa_cons (pv 7) pa_nil)) (pv 1) (nomark _))) (fun _ _ _ _ _ => (pv 7)) (fun _ _ _ _ _ => pe_non))
      (pss_cons (ps_set (i := 4) screached.nd rfl (Or.inl rfl) (pe_callTy (call_listD rfl) (by rfl) B.list (by decide +kernel) (pa_cons (pv 3) pa_nil)))
      (pss_cons (ps_while PassesOwn.never (pt_truth (pv 4) (by intro _; rfl)) (pss_cons (ps_set (i := 5) screached.nd rfl (Or.inl rfl) (pe_bm0 PySem.F.plainAttrs_list PySem.F.slot_list_pop PySem.F.type_list_pop mt_pop (pv 4)))
      (pss_one (ps_for PassesOwn.never rfl (pi_list (pe_cm (pv 2) T.cl c_Floor_beside (hr.mono (by decide)) (pa_cons (pv 5) pa_nil))) (pg_name (i := 6) screached.nd rfl (Or.inl rfl)) (pss_one (ps_if (pt_cmp (pc_dnotin hu (pv 6) (pv 3)) rfl) (pss_cons (ps_dput hu (pv 3) (pv 6) (pv 5) rfl)
      (pss_one (ps_if (pt_cmp (pc_din hu (pv 6) (pe_fld (pv 0) rfl)) rfl) (pss_cons (ps_dput hu (pv 3) (pe_dget hu (pe_fld (pv 0) rfl) (pv 6) (fun _ _ => rfl)) (pv 6) rfl)
      (pss_one (ps_expr (pe_bm PySem.F.plainAttrs_list PySem.F.slot_list_append PySem.F.type_list_append mt_append (pv 4) (pa_cons (pe_dget hu (pe_fld (pv 0) rfl) (pv 6) (fun _ _ => rfl)) pa_nil))))) pss_nil))) pss_nil))))))
      (pss_one (ps_ret (pv 3))))))), ?_⟩
    obtain ⟨dxf, lrf, gf, faf⟩ := fl
    have fl : ∀ {H'}, Same H H' → FloorD C H' x df ws := fun s => ⟨dxf, lrf, gf, faf.same s⟩
    have nB : (lfl x d).lookup ("bare" : Str) = none := lfl_no x d (by decide +kernel) (by decide +kernel)
    have nSh : (flds lrf ws df (gf (topP ws))).lookup ("shade" : Str) = none := flds_no _ _ _ _ (by decide +kernel) (by decide +kernel) (by decide +kernel) (by decide +kernel)
    have nBe : (flds lrf ws df (gf (topP ws))).lookup ("beside" : Str) = none := flds_no _ _ _ _ (by decide +kernel) (by decide +kernel) (by decide +kernel) (by decide +kernel)
    refine ⟨_, rfl, y, CL, dy, _, _, rfl, la.ob, L.cl, L.nF, lfl_floor _ _, ?_⟩
    -- what is bare
    refine ⟨_, rfl, y, dy, _, rfl, la.ob, nB, y, x, df, d, ws, ov, rfl, ⟨dy, la⟩, fl (Same.refl _), hw, fun lb H1 s1 hlb h1 => ?_⟩
    have bl := bare_len hw ov
    refine ⟨lb, rfl, ⟨_, SqL.of h1⟩, fun D hD => ?_⟩
    have hD0 := none_back s1 hD
    refine dc_list (K := K) (a := lb) (xs := (bareOf ws ov).map V.int) (fun j H3 => Same H1 H3 ∧ H3 D = some (.dK (dkF (first ((bareOf ws ov).take j) ws sh)))) ⟨same_new hD, upd_same⟩ (fun i H3 _ ⟨s3, _⟩ => SqL.of (s3 _ _ h1)) ?_ ?_
    · rintro j z H3 hj ⟨s3, h3⟩
      obtain ⟨c, hc, rfl, tk⟩ := int_at0 hj
      have cm := List.mem_of_getElem? hc
      have cb := bare_mem.mp cm
      have s03 := s1.trans s3
      have nin : c ∉ fk (first ((bareOf ws ov).take j) ws sh) := fun q => by
        rw [fk_first] at q
        have q2 := (List.mem_filter.mp q).1
        have e := bare_nd ws ov
        rw [← List.take_append_drop j (bareOf ws ov), List.nodup_append] at e
        refine e.2.2 c q2 c ?_ rfl
        rw [List.mem_iff_getElem?]
        exact ⟨0, by rw [List.getElem?_drop]; exact hc⟩
      refine ⟨rfl, _, rfl, x, dxf, _, rfl, (faf.same s03).ob, nSh, _, rfl, x, df, ws, c, rfl, fl s03, hw, cb.1, fun H4 s4 => ?_⟩
      have s34 := s3.trans s4
      have h4 := s4 _ _ h3
      refine ⟨_, rfl, rfl, _, rfl, ?_⟩
      by_cases q : shadeN ws c = sh
      · refine iteTd (by rw [q]) ?_
        refine ⟨_, rfl, _, (Sum.inl c : Key), rfl, h4, ?_, same_off s34 hD, ?_⟩
        · refine dkF_len ?_
          have e : (first ((bareOf ws ov).take j) ws sh).length = (fk (first ((bareOf ws ov).take j) ws sh)).length := by unfold fk; rw [List.length_map]
          rw [e, fk_first]
          have q1 := List.length_filter_le (fun c => decide (shadeN ws c = sh)) ((bareOf ws ov).take j)
          have q2 : ((bareOf ws ov).take j).length ≤ (bareOf ws ov).length := by rw [List.length_take]; omega
          omega
        · rw [upd_same]
          have e := dkF_put (q := none) nin
          rw [show V.non = oV none from rfl, e, tk]
          unfold first
          rw [List.filter_append, List.map_append, List.filter_cons, if_pos (decide_eq_true q)]
          rfl
      · refine iteNS2 (fun e => q (V.int.inj e)) ?_
        refine ⟨s34, ?_⟩
        rw [tk]
        have e : first ((bareOf ws ov).take j ++ [c]) ws sh = first ((bareOf ws ov).take j) ws sh := by
          unfold first
          rw [List.filter_append, List.filter_cons, if_neg (by rw [decide_eq_true_eq]; exact q), List.filter_nil, List.append_nil]
        rw [e]
        exact h4
    rintro H2 ⟨s2, h2⟩
    rw [List.length_map, List.take_length] at h2
    have s02 := s1.trans s2
    -- ahead
    refine ⟨_, rfl, D, _, rfl, .inl h2, fun l hl => ?_⟩
    have el : ((dkF (first (bareOf ws ov) ws sh)).map fun kv => kV kv.1) = (fk (first (bareOf ws ov) ws sh)).map V.int := by
      unfold dkF fk
      rw [List.map_map, List.map_map]
      rfl
    rw [el]
    have hl0 := none_back s02 hl
    have nDl : D ≠ l := ne_of_none h2 hl
    have sz900 : ∀ {fd ah cur}, RI ws ov sh fd ah cur → fd.length ≤ 144 := fun r => r.len v hw
    let Pv : L2.St → Hp → Prop := fun σ H3 => ∃ (v5 v6 : Option V) (fd : Fd) (ah : List Int), σ = [some (.ref y), some (.int sh), some (.ref x), some (.ref D), some (.ref l), v5, v6, none] ∧ Same H H3 ∧ H3 D = some (.dK (dkF fd)) ∧ H3 l = some (.lst (ah.map V.int)) ∧ RI ws ov sh fd ah [] ∧ ah.length ≤ fd.length
    refine ⟨fun m σ H3 => m = 2 * (200 - dLen H3 D) + lLen H3 l ∧ Pv σ H3, ⟨_, rfl, none, none, _, _, rfl, same_off s02 hl0, by rw [upd_ne nDl]; exact h2, upd_same, RI.start v, by unfold fk; rw [List.length_map]; exact Nat.le_refl _⟩, ?_⟩
    rintro _ σ H3 ⟨rfl, v5, v6, fd, ah, rfl, s3, d3, l3, r3, al⟩
    refine ⟨_, rfl, _, .inl ⟨_, SqL.of l3, rfl⟩, ?_⟩
    rcases List.eq_nil_or_concat ah with rfl | ⟨ah0, c, rfl⟩
    · refine iteF ?_
      exact ⟨_, rfl, hQ D fd H3 s3 hD0 d3 (r3.done v)⟩
    rw [List.concat_eq_append] at l3 r3 al ⊢
    rw [List.map_append, show (List.map V.int ah0 ++ List.map V.int [c]).isEmpty = false from by cases ah0 <;> rfl]
    refine iteT ?_
    refine ⟨fun σ' H' => Pv σ' H' ∧ 2 * (200 - dLen H' D) + lLen H' l < 2 * (200 - dLen H3 D) + lLen H3 l, fun σ' H' ⟨p, l⟩ => ⟨_, l, rfl, p⟩, ?_⟩
    have ckey := (r3.ahk c (List.mem_append_right _ List.mem_cons_self))
    have ccell := r3.cell v ckey.1
    refine ⟨_, rfl, .inl ⟨rfl, _, SqL.of l3⟩, l, _, .int c, rfl, rfl, l3, ?_, ?_⟩
    · rw [List.map_append, List.length_append]
      show (List.map V.int ah0 ++ [V.int c])[(List.map V.int ah0).length + 1 - 1]? = _
      rw [Nat.add_sub_cancel, List.getElem?_append_right (Nat.le_refl _), Nat.sub_self]
      rfl
    have dl : ((ah0 ++ [c]).map V.int).dropLast = ah0.map V.int := by
      rw [List.map_append]
      exact List.dropLast_concat
    rw [dl]
    have r4 : RI ws ov sh fd ah0 [c] := ⟨r3.nd, r3.par, r3.bare, r3.mate, fun z h1 h2 => by
      rcases r3.nbr z h1 h2 with q | q | q
      · rcases List.mem_append.mp q with q | q
        · exact .inl q
        · exact .inr (.inl q)
      · cases q
      · exact .inr (.inr q), fun z hz => r3.ahk z (List.mem_append_left _ hz)⟩
    have s4 : Same H (upd H3 l (.lst (ah0.map V.int))) := same_off s3 hl0
    have d4 : (upd H3 l (.lst (ah0.map V.int))) D = some (.dK (dkF fd)) := by rw [upd_ne nDl]; exact d3
    have l4 : (upd H3 l (.lst (ah0.map V.int))) l = some (.lst (ah0.map V.int)) := upd_same
    have μ3 : 2 * (200 - dLen H3 D) + lLen H3 l = 2 * (200 - fd.length) + ah0.length + 1 := by
      rw [dLen_of d3, lLen_of l3, List.length_append]
      rfl
    rw [μ3]
    have al0 : ah0.length + 1 ≤ fd.length := by
      rw [List.length_append, List.length_singleton] at al
      exact al
    clear d3 l3 r3 al μ3 s3
    generalize upd H3 l (.lst (ah0.map V.int)) = H4 at s4 d4 l4
    refine ⟨_, rfl, x, dxf, _, rfl, (faf.same s4).ob, nBe, _, rfl, x, df, ws, c, rfl, fl s4, ccell, fun ln H5 s5 hln h5 => ?_⟩
    obtain ⟨cp, rfl, hcp⟩ := cell_nat ccell
    rw [Int.toNat_natCast] at h5
    have h0n : H ln = none := none_back s4 hln
    have nlD : ln ≠ D := fun q => by rw [q, d4] at hln; cases hln
    have nll : ln ≠ l := fun q => by rw [q, l4] at hln; cases hln
    refine ⟨ln, rfl, ⟨_, SqL.of h5⟩, for_list (K := K) (a := ln) (xs := (nbsP ws cp).map V.int) (fun j σ H6 => ∃ (v6 : Option V) (fd2 : Fd) (ah2 : List Int), σ = [some (.ref y), some (.int sh), some (.ref x), some (.ref D), some (.ref l), some (.int ((cp : Nat) : Int)), v6, none] ∧ Same H H6 ∧ H6 ln = some (.lst ((nbsP ws cp).map V.int)) ∧ H6 D = some (.dK (dkF fd2)) ∧ H6 l = some (.lst (ah2.map V.int)) ∧ RI ws ov sh fd2 ah2 [((cp : Nat) : Int)] ∧
      (∀ o ∈ (nbsP ws cp).take j, o ∈ fk fd2) ∧ ((cp : Nat) : Int) ∈ fk fd2 ∧ 2 * (200 - fd2.length) + ah2.length ≤ 2 * (200 - fd.length) + ah0.length ∧ ah2.length ≤ fd2.length)
      ⟨v6, fd, ah0, rfl, s4.trans s5, h5, s5 _ _ d4, s5 _ _ l4, r4, fun o h => by simp at h, ckey.1, Nat.le_refl _, by omega⟩ (fun i σ H6 _ ⟨_, _, _, _, _, h6, _⟩ => SqL.of h6) ?_ ?_⟩
    · rintro j z σ H6 hj ⟨v6, fd2, ah2, rfl, s6, n6, d6, l6, r6, done, ck, mu, al2⟩
      obtain ⟨o, ho, rfl, tk⟩ := int_at0 hj
      have my : mayB ws ((cp : Nat) : Int) o = true := may_nbs.mpr ⟨ccell, by rw [Int.toNat_natCast]; exact List.mem_of_getElem? ho⟩
      have len6 := r6.len v hw
      refine ⟨_, rfl, _, rfl, D, _, rfl, dgetF (.inl d6) o, _, rfl, ?_⟩
      by_cases hin : o ∈ fk fd2
      · obtain ⟨q, hq⟩ := lookF_in hin
        rw [hq]
        refine iteF ?_
        refine ⟨_, fd2, ah2, rfl, s6, n6, d6, l6, r6, fun o' h' => ?_, ck, mu, al2⟩
        rw [tk] at h'
        rcases List.mem_append.mp h' with q | q
        · exact done o' q
        · rw [List.mem_singleton.mp q]
          exact hin
      rw [lookF_none.mpr hin]
      refine iteT ?_
      refine ⟨_, rfl, _, rfl, _, rfl, D, _, rfl, DPut.k (k := (Sum.inl o : Key)) d6 (dkF_len (by omega)), ?_⟩
      have e1 := dkF_put (q := some ((cp : Nat) : Int)) hin
      rw [show V.int ((cp : Nat) : Int) = oV (some ((cp : Nat) : Int)) from rfl, e1]
      have s7 : Same H (upd H6 D (.dK (dkF (fd2 ++ [(o, some ((cp : Nat) : Int))])))) := same_off s6 hD0
      have d7 : (upd H6 D (.dK (dkF (fd2 ++ [(o, some ((cp : Nat) : Int))])))) D = some (.dK (dkF (fd2 ++ [(o, some ((cp : Nat) : Int))]))) := upd_same
      have l7 : (upd H6 D (.dK (dkF (fd2 ++ [(o, some ((cp : Nat) : Int))])))) l = some (.lst (ah2.map V.int)) := by rw [upd_ne nDl.symm]; exact l6
      have n7 : (upd H6 D (.dK (dkF (fd2 ++ [(o, some ((cp : Nat) : Int))])))) ln = some (.lst ((nbsP ws cp).map V.int)) := by rw [upd_ne nlD]; exact n6
      generalize upd H6 D (.dK (dkF (fd2 ++ [(o, some ((cp : Nat) : Int))]))) = H7 at s7 d7 l7 n7
      have la7 := la.same s7
      have dn : ∀ fd3 : Fd, (∀ z, z ∈ fk fd2 → z ∈ fk fd3) → o ∈ fk fd3 → ∀ o' ∈ (nbsP ws cp).take (j + 1), o' ∈ fk fd3 := fun fd3 h1 h2 o' h' => by
        rw [tk] at h'
        rcases List.mem_append.mp h' with q | q
        · exact h1 _ (done o' q)
        · rw [List.mem_singleton.mp q]
          exact h2
      refine ⟨_, rfl, _, rfl, y, CL, dy, _, _, rfl, la7.ob, L.cl, L.nO, lfl_over _ _, d, _, rfl, (by
        have q := DGet.k (k := (Sum.inl o : Key)) la7.dc
        rw [dk_val] at q
        exact q), _, rfl, ?_⟩
      cases hlo : look ov o with
      | none =>
        refine iteF ?_
        refine ⟨_, _, ah2, rfl, s7, n7, d7, l7, r6.free v ck ckey.2 my hin hlo, dn _ (fun z hz => by rw [fk_snoc]; exact List.mem_append_left _ hz) (by rw [fk_snoc]; exact List.mem_append_right _ List.mem_cons_self), by rw [fk_snoc]; exact List.mem_append_left _ ck, ?_, ?_⟩
        · rw [List.length_append, List.length_singleton]
          omega
        · rw [List.length_append, List.length_singleton]
          omega
      | some m =>
        refine iteT ?_
        have dg : ∀ {Hx}, Same H Hx → DGet Hx d (V.int o) (some (V.int m)) := fun {Hx} sx => by
          have q := DGet.k (k := (Sum.inl o : Key)) (la.same sx).dc
          rw [dk_val, hlo] at q
          exact q
        obtain ⟨nm, r8⟩ := r6.pair hs v ck ckey.2 my hin hlo
        refine ⟨_, rfl, _, rfl, _, rfl, y, CL, dy, _, _, rfl, la7.ob, L.cl, L.nO, lfl_over _ _, _, rfl, d, _, rfl, dg s7, D, _, rfl, DPut.k (k := (Sum.inl m : Key)) d7 (dkF_len (by rw [List.length_append, List.length_singleton]; omega)), ?_⟩
        have e2 := dkF_put (q := some o) nm
        rw [show V.int o = oV (some o) from rfl, e2]
        have s8 : Same H (upd H7 D (.dK (dkF (fd2 ++ [(o, some ((cp : Nat) : Int))] ++ [(m, some o)])))) := same_off s7 hD0
        have d8 : (upd H7 D (.dK (dkF (fd2 ++ [(o, some ((cp : Nat) : Int))] ++ [(m, some o)])))) D = some (.dK (dkF (fd2 ++ [(o, some ((cp : Nat) : Int))] ++ [(m, some o)]))) := upd_same
        have l8 : (upd H7 D (.dK (dkF (fd2 ++ [(o, some ((cp : Nat) : Int))] ++ [(m, some o)])))) l = some (.lst (ah2.map V.int)) := by rw [upd_ne nDl.symm]; exact l7
        have n8 : (upd H7 D (.dK (dkF (fd2 ++ [(o, some ((cp : Nat) : Int))] ++ [(m, some o)])))) ln = some (.lst ((nbsP ws cp).map V.int)) := by rw [upd_ne nlD]; exact n7
        generalize upd H7 D (.dK (dkF (fd2 ++ [(o, some ((cp : Nat) : Int))] ++ [(m, some o)]))) = H8 at s8 d8 l8 n8
        have la8 := la.same s8
        have len8 := r8.len v hw
        rw [List.length_append, List.length_append, List.length_singleton, List.length_singleton] at len8
        refine ⟨_, rfl, .inl ⟨rfl, _, SqL.of l8⟩, _, rfl, y, CL, dy, _, _, rfl, la8.ob, L.cl, L.nO, lfl_over _ _, _, rfl, d, _, rfl, dg s8, l, _, _, rfl, rfl, l8, (by rw [List.length_map]; exact small1000 (by omega)), ?_⟩
        refine ⟨_, _, ah2 ++ [m], rfl, same_off s8 hl0, ?_, ?_, ?_, r8, dn _ (fun z hz => by rw [fk_snoc, fk_snoc]; exact List.mem_append_left _ (List.mem_append_left _ hz)) (by rw [fk_snoc, fk_snoc]; exact List.mem_append_left _ (List.mem_append_right _ List.mem_cons_self)), by rw [fk_snoc, fk_snoc]; exact List.mem_append_left _ (List.mem_append_left _ ck), ?_, ?_⟩
        · rw [upd_ne nll]
          exact n8
        · rw [upd_ne nDl]
          exact d8
        · rw [upd_same, List.map_append] <;> rfl
        · rw [List.length_append, List.length_append, List.length_append, List.length_singleton, List.length_singleton, List.length_singleton]
          omega
        · rw [List.length_append, List.length_append, List.length_append, List.length_singleton, List.length_singleton, List.length_singleton]
          omega
    · rintro σ H6 ⟨v6, fd2, ah2, rfl, s6, n6, d6, l6, r6, done, ck, mu, al2⟩
      rw [List.length_map, List.take_length] at done
      refine ⟨⟨_, _, fd2, ah2, rfl, s6, d6, l6, ⟨r6.nd, r6.par, r6.bare, r6.mate, fun z h1 h2 => ?_, r6.ahk⟩, al2⟩, ?_⟩
      · rcases r6.nbr z h1 h2 with q | q | q
        · exact .inl q
        · refine .inr (.inr fun o ho => done o ?_)
          rw [List.mem_singleton.mp q] at ho
          have := (may_nbs.mp ho).2
          rw [Int.toNat_natCast] at this
          exact this
        · exact .inr (.inr q)
      · rw [dLen_of d6, lLen_of l6]
        omega
end
end Sf
namespace Sf
open PySem PySem.Spec PyProof.Rows L2 Gc
/-! ### how many cells a turned laying covers -/
/-- a cell of a way that is bare: the first one, or the last one of an even number -/
theorem Wy.ends {ws : List Str} {ov : Ovr} {v : List Int} (vl : Vl ws ov) (y : Wy ws ov v) {i : Nat} {c : Int} (h : v[i]? = some c) (n : look ov c = none) : i = 0 ∨ (i + 1 = v.length ∧ i % 2 = 1) := by
  have il := (List.getElem?_eq_some_iff.mp h).1
  rcases Nat.eq_zero_or_pos i with z | z
  · exact .inl z
  · rcases Nat.mod_two_eq_zero_or_one i with e | e
    · obtain ⟨k, hk⟩ : ∃ k, i = 2 * k + 2 := ⟨i / 2 - 1, by omega⟩
      obtain ⟨b, hb⟩ : ∃ b, v[2 * k + 1]? = some b := ⟨_, List.getElem?_eq_getElem (show 2 * k + 1 < v.length by omega)⟩
      have q := y.mt k b c hb (by rw [← hk]; exact h)
      rw [vl.sym b c q] at n
      cases n
    · refine .inr ⟨?_, e⟩
      rcases Nat.lt_or_ge (i + 1) v.length with q | q
      · obtain ⟨k, hk⟩ : ∃ k, i = 2 * k + 1 := ⟨i / 2, by omega⟩
        obtain ⟨b, hb⟩ : ∃ b, v[2 * k + 2]? = some b := ⟨_, List.getElem?_eq_getElem (show 2 * k + 2 < v.length by omega)⟩
        rw [y.mt k c b (by rw [← hk]; exact h) hb] at n
        cases n
      · omega
theorem keys_offs (ov : Ovr) (s : List Int) : keysOf (offs ov s) = (keysOf ov).filter fun c => decide (c ∉ s) := by
  unfold keysOf offs
  rw [List.filter_map]
  rfl
theorem count_two (l m : List Int) (nl : l.Nodup) (nm : m.Nodup) : (l.filter fun c => decide (c ∈ m)).length = (m.filter fun c => decide (c ∈ l)).length := by
  have p : (l.filter fun c => decide (c ∈ m)).Perm (m.filter fun c => decide (c ∈ l)) := by
    refine (List.perm_ext_iff_of_nodup (nl.sublist List.filter_sublist) (nm.sublist List.filter_sublist)).mpr fun c => ?_
    rw [List.mem_filter, List.mem_filter, decide_eq_true_eq, decide_eq_true_eq]
    exact ⟨fun h => ⟨h.2, h.1⟩, fun h => ⟨h.2, h.1⟩⟩
  exact p.length_eq
theorem split_in (p : Int → Prop) [DecidablePred p] (l : List Int) : (l.filter fun c => decide (p c)).length + (l.filter fun c => decide (¬ p c)).length = l.length := by
  induction l with
  | nil => rfl
  | cons a r ih =>
    rw [List.filter_cons, List.filter_cons]
    by_cases h : p a
    · rw [if_pos (decide_eq_true h), if_neg (by rw [decide_eq_true_eq]; exact fun q => q h), List.length_cons, List.length_cons]
      omega
    · rw [if_neg (by rw [decide_eq_true_eq]; exact h), if_pos (decide_eq_true h), List.length_cons, List.length_cons]
      omega
theorem bare_in_way {ws : List Str} {ov : Ovr} {v : List Int} (vl : Vl ws ov) (y : Wy ws ov v) (h0 : 0 < v.length) : (v.filter fun c => decide (c ∉ keysOf ov)).length = if v.length % 2 = 0 then 2 else 1 := by
  obtain ⟨a, ha⟩ : ∃ a, v[0]? = some a := ⟨_, List.getElem?_eq_getElem h0⟩
  have na := y.hd a ha
  have nd := y.nd.sublist (List.filter_sublist (p := fun c => decide (c ∉ keysOf ov)) (l := v))
  by_cases e : v.length % 2 = 0
  · rw [if_pos e]
    obtain ⟨b, hb⟩ : ∃ b, v[v.length - 1]? = some b := ⟨_, List.getElem?_eq_getElem (by omega)⟩
    obtain ⟨k, hk⟩ : ∃ k, v.length - 1 = 2 * k + 1 := ⟨v.length / 2 - 1, by omega⟩
    have nb := y.en k b (by rw [← hk]; exact hb) (by omega)
    have ne : a ≠ b := fun q => by
      rw [q] at ha
      have := uniq_at y.nd ha hb
      omega
    have p : (v.filter fun c => decide (c ∉ keysOf ov)).Perm [a, b] := by
      refine (List.perm_ext_iff_of_nodup nd (by rw [List.nodup_cons]; exact ⟨by simpa using ne, by simp⟩)).mpr fun c => ?_
      rw [List.mem_filter, decide_eq_true_eq]
      constructor
      · rintro ⟨h1, h2⟩
        obtain ⟨i, hi⟩ := List.mem_iff_getElem?.mp h1
        rcases y.ends vl hi (look_none.mpr h2) with z | ⟨z, _⟩
        · rw [z, ha] at hi
          rw [← Option.some.inj hi]
          exact List.mem_cons_self
        · rw [show i = v.length - 1 from by omega, hb] at hi
          rw [← Option.some.inj hi]
          exact List.mem_cons_of_mem _ List.mem_cons_self
      · intro h
        rcases List.mem_cons.mp h with z | z
        · rw [z]
          exact ⟨List.mem_of_getElem? ha, look_none.mp na⟩
        · rw [List.mem_singleton.mp z]
          exact ⟨List.mem_of_getElem? hb, look_none.mp nb⟩
    exact p.length_eq
  · rw [if_neg e]
    have p : (v.filter fun c => decide (c ∉ keysOf ov)).Perm [a] := by
      refine (List.perm_ext_iff_of_nodup nd (by simp)).mpr fun c => ?_
      rw [List.mem_filter, decide_eq_true_eq]
      constructor
      · rintro ⟨h1, h2⟩
        obtain ⟨i, hi⟩ := List.mem_iff_getElem?.mp h1
        rcases y.ends vl hi (look_none.mpr h2) with z | ⟨z, z2⟩
        · rw [z, ha] at hi
          rw [← Option.some.inj hi]
          exact List.mem_cons_self
        · omega
      · intro h
        rw [List.mem_singleton.mp h]
        exact ⟨List.mem_of_getElem? ha, look_none.mp na⟩
    exact p.length_eq
theorem prs_len {v : List Int} : (prs v).length = 2 * (v.length / 2) := by
  have e := prs_take v.length v (Nat.le_refl _)
  have k := keys_prs (v.length / 2) (v.take (2 * (v.length / 2))) (by rw [List.length_take]; omega)
  rw [e] at k
  have h : (keysOf (prs v)).length = (prs v).length := by unfold keysOf; rw [List.length_map]
  rw [← h, k, List.length_take]
  omega
theorem ovT_len {ws : List Str} {ov : Ovr} {v : List Int} (vl : Vl ws ov) (y : Wy ws ov v) (h0 : 0 < v.length) : (ovT ov v).length = if v.length % 2 = 0 then ov.length + 2 else ov.length := by
  have h1 : (offs ov v).length = ((keysOf ov).filter fun c => decide (c ∉ v)).length := by
    rw [← keys_offs]
    unfold keysOf
    rw [List.length_map]
  have h2 := split_in (fun c => c ∈ v) (keysOf ov)
  have h3 := count_two (keysOf ov) v vl.nd y.nd
  have h4 := split_in (fun c => c ∈ keysOf ov) v
  have h5 := bare_in_way vl y h0
  have h6 := prs_len (v := v)
  have h7 : (keysOf ov).length = ov.length := by unfold keysOf; rw [List.length_map]
  unfold ovT
  rw [List.length_append]
  by_cases e : v.length % 2 = 0
  · rw [if_pos e] at h5 ⊢
    omega
  · rw [if_neg e] at h5 ⊢
    omega
theorem ovT_keeps {ws : List Str} {ov : Ovr} {v : List Int} (y : Wy ws ov v) (e : v.length % 2 = 0) {c : Int} (h : c ∈ keysOf ov) : c ∈ keysOf (ovT ov v) := by
  have k := keys_prs (v.length / 2) v (by omega)
  have e2 : keysOf (ovT ov v) = keysOf (offs ov v) ++ v := by
    unfold ovT keysOf
    rw [List.map_append]
    congr 1
  rw [e2, keys_offs]
  by_cases q : c ∈ v
  · exact List.mem_append_right _ q
  · exact List.mem_append_left _ (List.mem_filter.mpr ⟨h, decide_eq_true q⟩)
/-- a bare cell of shade 1 is reached from shade 0 -/
def Aug (ws : List Str) (ov : Ovr) : Prop := ∃ c, isCell ws c = true ∧ look ov c = none ∧ shadeN ws c = 1 ∧ Rch ws ov 0 c
def spBetter (C CL : Addr) : Sp := fun vs H Q _ => ∃ (y x df d : Addr) (ws : List Str) (ov : Ovr), vs = [.ref y] ∧ LayD CL H y x d ov ∧ FloorD C H x df ws ∧ Wf ws ∧ Vl ws ov ∧
  (Aug ws ov → ∀ (y2 d2 : Addr) (ov2 : Ovr) (H' : Hp), Same H H' → H y2 = none → H d2 = none → LayD CL H' y2 x d2 ov2 → Vl ws ov2 → ov2.length = ov.length + 2 → (∀ c ∈ keysOf ov, c ∈ keysOf ov2) → Q (.ref y2) H') ∧
  (¬ Aug ws ov → ∀ H', Same H H' → Q .non H')
section
variable {P : Program} {w : World} {K : PySem.W.Frag} {mg : Str → Option Value} {base : Heap} {C CL : Addr}
theorem scbetter : FnScope ["laying", "floor", "found", "cell"] ["laying"] (defScope sbetter) := ⟨rfl, rfl, rfl, by decide +kernel, rfl, by decide +kernel, by decide +kernel⟩
theorem ok_better (D : Df K mg "better" sbetter ["laying"]) (B : Bi mg) (T : FTxt K mg C) (L : LTxt K mg CL)
    (c_Laying_bare : Cm P w K mg base CX0 2 CL "bare" ["self"] (spBare0 C CL)) (c_Floor_shade : Cm P w K mg base CX0 2 C "shade" ["self", "place"] (spShade0 C)) (c_reached : Cl P w K mg base CX0 4 "reached" ["laying", "shade"] (spReached C CL))
    (c_way_to : Cl P w K mg base CX0 1 "way_to" ["found", "cell"] (spWayTo K)) (c_turned : Cl P w K mg base CX0 4 "turned" ["laying", "way"] (spTurned K C CL)) :
    Cl P w K mg base CX0 5 "better" ["laying"] (spBetter C CL) := D.cl fun f fd_ F => by
  refine F.ok scbetter (fun vs H Q E h => ?_) (fun cdv A outer s_ H vs Q E hr h => ?_)
  · obtain ⟨y, x, df, d, ws, ov, rfl, _⟩ := h
    rfl
  · obtain ⟨y, x, df, d, ws, ov, rfl, ⟨dy, la⟩, ⟨dxf, lrf, gf, faf⟩, hw, v, hQ, hN⟩ := h
    have hu := hu_of hr
    refine ⟨_, (pss_cons (ps_set (i := 1) scbetter.nd rfl (Or.inl rfl) (pe_fld (pv 0) rfl))
      (pss_cons (ps_set (i := 2) scbetter.nd rfl (Or.inl rfl) (pe_cl c_reached (hr.mono (by decide)) rfl (pa_cons (pv 0) (pa_cons pe_int pa_nil))))
      (pss_cons (ps_for PassesOwn.never rfl (pi_list (pe_cm0 (pv 0) L.cl c_Laying_bare (hr.mono (by decide)))) (pg_name (i := 3) scbetter.nd rfl (Or.inl rfl)) (pss_one (ps_if (PW.pt (pw_and (pt_cmpR op_eq (pe_cm (pv 1) T.cl c_Floor_shade (hr.mono (by decide)) (pa_cons (pv 3) pa_nil)) pe_int (nomark _)) (pw_and1 (pt_cmp (pc_din hu (pv 3) (pv 2)) rfl)))) (pss_one (ps_ret (pe_cl c_turned (hr.mono (by decide)) rfl (pa_cons (pv 0) (pa_cons (pe_cl c_way_to (hr.mono (by decide)) rfl (pa_cons (pv 2) (pa_cons (pv 3) pa_nil))) pa_nil))))) pss_nil)))
      (pss_one (ps_ret pe_non))))), ?_⟩
    have fl : ∀ {H'}, Same H H' → FloorD C H' x df ws := fun s => ⟨dxf, lrf, gf, faf.same s⟩
    have nSh : (flds lrf ws df (gf (topP ws))).lookup ("shade" : Str) = none := flds_no _ _ _ _ (by decide +kernel) (by decide +kernel) (by decide +kernel) (by decide +kernel)
    refine ⟨_, rfl, y, CL, dy, _, _, rfl, la.ob, L.cl, L.nF, lfl_floor _ _, ?_⟩
    refine ⟨_, rfl, y, x, df, d, ws, ov, 0, rfl, ⟨dy, la⟩, fl (Same.refl _), hw, v, .inl rfl, fun fa fd H1 s1 hfa h1 fo => ?_⟩
    have la1 := la.same s1
    refine ⟨_, rfl, y, dy, _, rfl, la1.ob, lfl_no x d (by decide +kernel) (by decide +kernel), y, x, df, d, ws, ov, rfl, ⟨dy, la1⟩, fl s1, hw, fun lb H2 s2 hlb h2 => ?_⟩
    have s12 := s1.trans s2
    refine ⟨lb, rfl, ⟨_, SqL.of h2⟩, for_list (K := K) (a := lb) (xs := (bareOf ws ov).map V.int) (fun i σ H3 => (∃ v3 : Option V, σ = [some (.ref y), some (.ref x), some (.ref fa), v3]) ∧ Same H2 H3 ∧ ∀ c ∈ (bareOf ws ov).take i, ¬ (shadeN ws c = 1 ∧ c ∈ fk fd)) ⟨⟨none, rfl⟩, Same.refl _, fun c h => by simp at h⟩ (fun i σ H3 _ ⟨_, s3, _⟩ => SqL.of (s3 _ _ h2)) ?_ ?_⟩
    · rintro i z σ H3 hi ⟨⟨v3, rfl⟩, s3, no⟩
      obtain ⟨c, hc, rfl, tk⟩ := int_at0 hi
      have cb := bare_mem.mp (List.mem_of_getElem? hc)
      have s03 := s12.trans s3
      refine ⟨_, rfl, x, dxf, _, rfl, (faf.same s03).ob, nSh, _, rfl, x, df, ws, c, rfl, fl s03, hw, cb.1, fun H4 s4 => ?_⟩
      have s04 := s03.trans s4
      refine ⟨rfl, _, rfl, ?_⟩
      have more : ¬ (shadeN ws c = 1 ∧ c ∈ fk fd) → ∀ c' ∈ (bareOf ws ov).take (i + 1), ¬ (shadeN ws c' = 1 ∧ c' ∈ fk fd) := fun h c' hc' => by
        rw [tk] at hc'
        rcases List.mem_append.mp hc' with q | q
        · exact no c' q
        · rw [List.mem_singleton.mp q]
          exact h
      by_cases q1 : shadeN ws c = 1
      case neg =>
        refine iteNS2 (fun e => q1 (V.int.inj e)) ?_
        exact ⟨⟨_, rfl⟩, s3.trans s4, more fun q => q1 q.1⟩
      refine iteTd (congrArg V.int q1) ?_
      have h4 := s4 _ _ (s3 _ _ (s2 _ _ h1))
      refine ⟨_, rfl, _, rfl, fa, _, rfl, dgetF (.inl h4) c, _, rfl, ?_⟩
      by_cases q2 : c ∈ fk fd
      case neg =>
        rw [lookF_none.mpr q2]
        refine iteF ?_
        exact ⟨⟨_, rfl⟩, s3.trans s4, more fun q => q2 q.2⟩
      obtain ⟨q, hq⟩ := lookF_in q2
      rw [hq]
      refine iteT ?_
      have rc := (fo.all c).mp q2
      refine ⟨_, rfl, _, rfl, _, rfl, fa, ws, ov, 0, c, fd, rfl, h4, hw, v, fo, q2, fun lw vw H5 s5 hlw h5 wt => ?_⟩
      have s05 := s04.trans s5
      have len := wt.len hw v fo
      have ev : vw.length % 2 = 0 := by
        have z := (wt.shades fo (vw.length - 1) c wt.last)
        have pos := wt.pos
        have nz : ¬ ((vw.length - 1) % 2 = 0) := fun e => by
          have := z.mpr e
          omega
        omega
      have wy := wt.wy v fo (fun _ => cb.2)
      refine ⟨y, x, df, d, lw, ws, ov, vw, rfl, ⟨dy, la.same s05⟩, fl s05, hw, v, SqL.of h5, wy, wt.pos, by omega, fun y2 d2 H6 s6 hy2 hd2 la2 v2 => ?_⟩
      have ln := ovT_len v wy wt.pos
      rw [if_pos ev] at ln
      exact hQ ⟨c, cb.1, cb.2, q1, rc⟩ y2 d2 _ H6 (s05.trans s6) (none_back s05 hy2) (none_back s05 hd2) la2 v2 ln fun c' hc' => ovT_keeps wy ev hc'
    · rintro σ H3 ⟨⟨v3, rfl⟩, s3, no⟩
      rw [List.length_map, List.take_length] at no
      refine hN (fun ⟨c, c1, c2, c3, c4⟩ => ?_) H3 (s12.trans s3)
      exact no c (bare_mem.mpr ⟨c1, c2⟩) ⟨c3, (fo.all c).mpr c4⟩
end
end Sf
namespace Sf
open PySem PySem.Spec PyProof.Rows L2 Gc
/-! ### a laying that no way makes better leaves the fewest bare cells -/
theorem aug_of {ws : List Str} {ov : Ovr} (v : Vl ws ov) {c : Int} (r1 : Rch ws ov 1 c) : Rch ws ov 0 c → Aug ws ov := by
  induction r1 with
  | bare h1 h2 h3 => exact fun r => ⟨_, h1, h2, h3, r⟩
  | step _ h2 h3 ih =>
    intro r
    have := may_shade h3
    have t := shade_two ws
    have a1 := t
    exact ih (.step r (by rename_i c o _; have := t c; have := t o; omega) (by rw [mayB_symm]; exact h3))
  | @mate o m _ h2 h3 ih =>
    intro r
    have hm := may_shade (v.may _ _ h3)
    have t := shade_two ws o
    exact ih (.mate r (by omega) (v.sym _ _ h3))
theorem bare_light {ws : List Str} {ov : Ovr} {s : Int} {R : List Int} (hs : s = 0 ∨ s = 1) (v : Vl ws ov) (best : ¬ Aug ws ov) (hR : ∀ c, c ∈ R ↔ Rch ws ov s c) {c : Int} (h1 : isCell ws c = true) (h2 : look ov c = none) : isLight ws s R c = true := by
  by_cases sc : shadeN ws c = s
  · rw [light_s sc]
    exact decide_eq_true ((hR c).mpr (.bare h1 h2 sc))
  · rw [light_n sc]
    have t := shade_two ws c
    have n : c ∉ R := fun q => best (by
      have r := (hR c).mp q
      rcases hs with rfl | rfl
      · exact ⟨c, h1, h2, by omega, r⟩
      · exact aug_of v r (.bare h1 h2 (by omega)))
    rw [decide_eq_false n]
    rfl
theorem filter_swap (p q : Int → Bool) (l : List Int) : (l.filter p).filter q = (l.filter q).filter p := by
  rw [List.filter_filter, List.filter_filter]
  congr 1
  funext a
  exact Bool.and_comm _ _
theorem has_key {ov : Ovr} {c : Int} : has ov c = true ↔ c ∈ keysOf ov := by
  unfold has
  cases e : look ov c with
  | none => exact ⟨fun q => (by cases q), fun q => absurd q (look_none.mp e)⟩
  | some m => exact ⟨fun _ => look_some.mpr ⟨m, e⟩, fun _ => rfl⟩
theorem keys_permV {ws : List Str} {ov : Ovr} (v : Vl ws ov) : ((natI (cellsOf ws)).filter fun c => has ov c).Perm (keysOf ov) := by
  refine (List.perm_ext_iff_of_nodup ((natI_nd (cellsOf_nd ws)).sublist List.filter_sublist) v.nd).mpr fun c => ?_
  rw [List.mem_filter]
  exact ⟨fun q => has_key.mp q.2, fun q => ⟨cell_natI.mp (v.cell q), has_key.mpr q⟩⟩
theorem bare_count {ws : List Str} {ov : Ovr} (v : Vl ws ov) : (bareOf ws ov).length + ov.length = (natI (cellsOf ws)).length := by
  have h1 := filter_two (fun c => has ov c) (natI (cellsOf ws))
  have h2 := (keys_permV v).length_eq
  rw [keys_length] at h2
  have h3 : (bareOf ws ov).length = ((natI (cellsOf ws)).filter fun c => !has ov c).length := rfl
  omega
theorem light_count {ws : List Str} {ov : Ovr} {s : Int} {R : List Int} (hs : s = 0 ∨ s = 1) (v : Vl ws ov) (best : ¬ Aug ws ov) (hR : ∀ c, c ∈ R ↔ Rch ws ov s c) : 2 * (lightOf ws s R).length = (natI (cellsOf ws)).length + (bareOf ws ov).length := by
  have e1 := filter_two (fun c => has ov c) (lightOf ws s R)
  have e2 : (lightOf ws s R).filter (fun c => has ov c) = ((natI (cellsOf ws)).filter fun c => has ov c).filter (isLight ws s R) := filter_swap _ _ _
  have e3 : (lightOf ws s R).filter (fun c => !has ov c) = (bareOf ws ov).filter (isLight ws s R) := filter_swap _ _ _
  have e4 : (bareOf ws ov).filter (isLight ws s R) = bareOf ws ov := List.filter_eq_self.mpr fun c hc => by
    obtain ⟨h1, h2⟩ := bare_mem.mp hc
    exact bare_light hs v best hR h1 h2
  have e5 := ((keys_permV v).filter (isLight ws s R)).length_eq
  have e6 := keys_light v (isLight ws s R) fun a b ha hb => light_apart hs hR ha hb
  have e7 := keys_dark hs v hR
  have e8 := filter_two (isLight ws s R) (keysOf ov)
  rw [keys_length] at e8
  have e9 := bare_count v
  rw [e2, e3, e4, e5] at e1
  omega
theorem best_most {ws : List Str} {ov ov' : Ovr} (v : Vl ws ov) (best : ¬ Aug ws ov) (v' : Vl ws ov') : ov'.length ≤ ov.length := by
  obtain ⟨R, hR⟩ : ∃ R : List Int, ∀ c, c ∈ R ↔ Rch ws ov 0 c := by
    refine ⟨(natI (cellsOf ws)).filter fun c => @decide (Rch ws ov 0 c) (Classical.propDecidable _), fun c => ?_⟩
    rw [List.mem_filter]
    exact ⟨fun q => @of_decide_eq_true _ (Classical.propDecidable _) q.2, fun r => ⟨cell_natI.mp (r.cell v), @decide_eq_true _ (Classical.propDecidable _) r⟩⟩
  have h1 := light_len (.inl rfl) hR v'
  have h2 := light_count (.inl rfl) v best hR
  have h3 := bare_count v
  have h4 : (natI (cellsOf ws)).length = (cellsOf ws).length := by unfold natI; rw [List.length_map]
  omega
end Sf
namespace Sf
open PySem PySem.Spec PyProof.Rows L2 Gc
def spLaid (C CL : Addr) : Sp := fun vs H Q _ => ∃ (x df : Addr) (ws : List Str), vs = [.ref x] ∧ FloorD C H x df ws ∧ Wf ws ∧
  ∀ (y d : Addr) (ov : Ovr) (H' : Hp), Same H H' → H y = none → H d = none → LayD CL H' y x d ov → Vl ws ov → ¬ Aug ws ov → Q (.ref y) H'
section
variable {P : Program} {w : World} {K : PySem.W.Frag} {mg : Str → Option Value} {base : Heap} {C CL : Addr}
theorem sclaid : FnScope ["floor", "laying", "fewer"] ["floor"] (defScope slaid) := ⟨rfl, rfl, rfl, by decide +kernel, rfl, by decide +kernel, by decide +kernel⟩
theorem ok_laid (D : Df K mg "laid" slaid ["floor"]) (L : LTxt K mg CL)
    (c_Laying : Cn P w K mg base 1 CL "Laying" ["self", "floor"] (spLInit CL)) (c_better : Cl P w K mg base CX0 5 "better" ["laying"] (spBetter C CL)) :
    Cl P w K mg base CX0 6 "laid" ["floor"] (spLaid C CL) := D.cl fun f fd F => by
  refine F.ok sclaid (fun vs H Q E h => ?_) (fun cdv A outer s H vs Q E hr h => ?_)
  · obtain ⟨x, df, ws, rfl, _⟩ := h
    rfl
  · obtain ⟨x, df, ws, rfl, fl, hw, hQ⟩ := h
    have hu := hu_of hr
    refine ⟨_, (pss_cons (ps_set (i := 1) sclaid.nd rfl (Or.inl rfl) (pe_cn c_Laying (hr.mono (by decide)) rfl (pa_cons (pv 0) pa_nil)))
      (C8.pss_cut (ps_set (i := 2) sclaid.nd rfl (Or.inl rfl) (pe_cl c_better (hr.mono (by decide)) rfl (pa_cons (pv 1) pa_nil)))
      (pss_cons (ps_while PassesOwn.never (pt_cmpR op_notN (pv 2) pe_non (by rfl)) (pss_cons (ps_set (i := 1) sclaid.nd rfl (Or.inl rfl) (pv 2))
      (pss_one (ps_set (i := 2) sclaid.nd rfl (Or.inl rfl) (pe_cl c_better (hr.mono (by decide)) rfl (pa_cons (pv 1) pa_nil))))))
      (pss_one (ps_ret (pv 1)))))), ?_⟩
    refine ⟨_, rfl, fun y dy ny ndy ney => ?_⟩
    refine ⟨y, dy, x, rfl, upd_same, fun d H2 hd2 k2 la => ⟨rfl, ?_⟩⟩
    have s2 : Same H H2 := fun b o e => k2 b o (ne_of_none e ny) (by rw [upd_ne (ne_of_none e ny), upd_ne (ne_of_none e ndy)]; exact e)
    have hd : H d = none := by
      cases q : H d with
      | none => rfl
      | some o =>
        have z : (upd (upd H dy (.own y)) y (.ins CL dy [])) d = some o := by rw [upd_ne (ne_of_none q ny), upd_ne (ne_of_none q ndy)]; exact q
        rw [hd2] at z
        cases z
    have s2h := s2
    refine ⟨fun σ' H' => ∃ (y d : Addr) (ov : Ovr) (v2 : V), σ' = [some (.ref x), some (.ref y), some v2] ∧ Same H H' ∧ H y = none ∧ H d = none ∧ LayD CL H' y x d ov ∧ Vl ws ov ∧
      ((v2 = .non ∧ ¬ Aug ws ov) ∨ ∃ y2 d2 ov2, v2 = .ref y2 ∧ H y2 = none ∧ H d2 = none ∧ LayD CL H' y2 x d2 ov2 ∧ Vl ws ov2 ∧ ov2.length = ov.length + 2), ?_, ?_⟩
    · refine ⟨_, rfl, y, x, df, d, ws, [], rfl, ⟨dy, la⟩, fl.same s2, hw, Vl.nil ws, fun au y2 d2 ov2 H3 s3 hy2 hd2 la2 v2 ln _ => ?_, fun na H3 s3 => ?_⟩
      · exact ⟨y, d, [], _, rfl, s2.trans s3, ny, hd, ⟨dy, la.same s3⟩, Vl.nil ws, .inr ⟨y2, d2, ov2, rfl, none_back s2 hy2, none_back s2 hd2, la2, v2, ln⟩⟩
      · exact ⟨y, d, [], _, rfl, s2.trans s3, ny, hd, ⟨dy, la.same s3⟩, Vl.nil ws, .inl ⟨rfl, na⟩⟩
    rintro _ H3 ⟨y, d, ov, v2, rfl, s3, hy, hd, la3, v3, kn⟩
    refine ⟨fun m σ H' => ∃ (y d : Addr) (ov : Ovr) (v2 : V), m = 1000 - ov.length ∧ σ = [some (.ref x), some (.ref y), some v2] ∧ Same H H' ∧ H y = none ∧ H d = none ∧ LayD CL H' y x d ov ∧ Vl ws ov ∧
      ((v2 = .non ∧ ¬ Aug ws ov) ∨ ∃ y2 d2 ov2, v2 = .ref y2 ∧ H y2 = none ∧ H d2 = none ∧ LayD CL H' y2 x d2 ov2 ∧ Vl ws ov2 ∧ ov2.length = ov.length + 2), ⟨_, y, d, ov, v2, rfl, rfl, s3, hy, hd, la3, v3, kn⟩, ?_⟩
    rintro m σ H4 ⟨y, d, ov, v2, rfl, rfl, s4, hy, hd, la4, v4, kn⟩
    rcases kn with ⟨rfl, na⟩ | ⟨y2, d2, ov2, rfl, hy2, hd2, la2, v5, ln⟩
    · refine ⟨_, rfl, rfl, _, rfl, ?_⟩
      refine iteF ?_
      exact ⟨_, rfl, hQ y d ov H4 s4 hy hd la4 v4 na⟩
    · have l1 := v5.len hw
      refine ⟨_, rfl, rfl, _, rfl, ?_⟩
      refine iteT ?_
      refine ⟨fun σ' H' => ∃ m', m' < 1000 - ov.length ∧ ∃ (y d : Addr) (ov : Ovr) (v2 : V), m' = 1000 - ov.length ∧ σ' = [some (.ref x), some (.ref y), some v2] ∧ Same H H' ∧ H y = none ∧ H d = none ∧ LayD CL H' y x d ov ∧ Vl ws ov ∧
        ((v2 = .non ∧ ¬ Aug ws ov) ∨ ∃ y2 d2 ov2, v2 = .ref y2 ∧ H y2 = none ∧ H d2 = none ∧ LayD CL H' y2 x d2 ov2 ∧ Vl ws ov2 ∧ ov2.length = ov.length + 2), fun σ' H' h => h, ?_⟩
      refine ⟨_, rfl, _, rfl, y2, x, df, d2, ws, ov2, rfl, la2, fl.same s4, hw, v5, fun au y3 d3 ov3 H5 s5 hy3 hd3 la3 v6 ln3 _ => ?_, fun na H5 s5 => ?_⟩
      · exact ⟨_, by omega, y2, d2, ov2, _, rfl, rfl, s4.trans s5, hy2, hd2, la2.same s5, v5, .inr ⟨y3, d3, ov3, rfl, none_back s4 hy3, none_back s4 hd3, la3, v6, ln3⟩⟩
      · exact ⟨_, by omega, y2, d2, ov2, _, rfl, rfl, s4.trans s5, hy2, hd2, la2.same s5, v5, .inl ⟨rfl, na⟩⟩
end
end Sf
namespace Sf
open PySem PySem.Spec PyProof.Rows L2 Gc
/-! ### a floor turned a quarter -/
def turnC (n : Nat) : Nat := if n = 45 then 124 else if n = 124 then 45 else n
def qrow (ws : List Str) (c : Nat) : Str := ⟨((List.range ws.length).map fun k => turnC (signAt ws (ws.length - 1 - k) c)).toArray⟩
def qrt (ws : List Str) : List Str := (List.range (wide ws)).map (qrow ws)
theorem qrow_len (ws : List Str) (c : Nat) : (qrow ws c).length = ws.length := by
  show (((List.range ws.length).map fun k => turnC (signAt ws (ws.length - 1 - k) c)).toArray).size = _
  rw [List.size_toArray, List.length_map, List.length_range]
theorem qrt_len (ws : List Str) : (qrt ws).length = wide ws := by
  unfold qrt
  rw [List.length_map, List.length_range]
theorem qrt_wide {ws : List Str} (h : 0 < wide ws) : wide (qrt ws) = ws.length := by
  have e : (qrt ws).headD "" = qrow ws 0 := by
    unfold qrt
    obtain ⟨n, hn⟩ : ∃ n, wide ws = n + 1 := ⟨wide ws - 1, by omega⟩
    rw [hn, List.range_succ_eq_map]
    rfl
  show ((qrt ws).headD "").length = _
  rw [e]
  exact qrow_len ws 0
theorem qrow_at (ws : List Str) {c k : Nat} (hk : k < ws.length) : (qrow ws c).cps.getD k 35 = turnC (signAt ws (ws.length - 1 - k) c) := by
  have e : (qrow ws c).cps.toList[k]? = some (turnC (signAt ws (ws.length - 1 - k) c)) := by
    show ((List.range ws.length).map fun k => turnC (signAt ws (ws.length - 1 - k) c))[k]? = _
    rw [List.getElem?_map, List.getElem?_range hk]
    rfl
  rw [Array.getElem?_toList] at e
  rw [Array.getD_eq_getD_getElem?, e]
  rfl
theorem qrt_sign {ws : List Str} {c k : Nat} (hc : c < wide ws) (hk : k < ws.length) : signAt (qrt ws) c k = turnC (signAt ws (ws.length - 1 - k) c) := by
  unfold signAt
  have e : (qrt ws).getD c ("" : Str) = qrow ws c := by
    unfold qrt
    rw [List.getD_eq_getElem?_getD, List.getElem?_map, List.getElem?_range hc]
    rfl
  rw [e]
  exact qrow_at ws hk
theorem turn_ok {n : Nat} (h : okSign n) : okSign (turnC n) := by
  unfold turnC
  split
  · unfold okSign at h ⊢
    omega
  · split
    · unfold okSign at h ⊢
      omega
    · exact h
theorem qrt_wf {ws : List Str} (w : Wf ws) : Wf (qrt ws) := by
  refine Wf.of (n := ws.length) (by rw [qrt_len]; exact w.wid) (fun a ha => ?_) w.high fun a ha c hc => ?_
  · obtain ⟨j, _, rfl⟩ := List.mem_map.mp ha
    exact qrow_len ws j
  · obtain ⟨j, hj, rfl⟩ := List.mem_map.mp ha
    have hj2 : j < wide ws := List.mem_range.mp hj
    have hc2 : c ∈ (List.range ws.length).map fun k => turnC (signAt ws (ws.length - 1 - k) j) := hc
    obtain ⟨k, hk, rfl⟩ := List.mem_map.mp hc2
    have hk2 : k < ws.length := List.mem_range.mp hk
    have hr : ws.length - 1 - k < ws.length := by omega
    refine turn_ok (w.sign (ws.getD (ws.length - 1 - k) ("" : Str)) ?_ _ (List.mem_of_getElem? (sign_at w hr hj2)))
    rw [List.getD_eq_getElem?_getD, List.getElem?_eq_getElem hr]
    exact List.getElem_mem hr
/-- two places by their rows and columns -/
def mayC (ws : List Str) (r c r' c' : Nat) : Bool := if r = r' ∧ (c = c' + 1 ∨ c' = c + 1) then tk ".-" (signAt ws r c) && tk ".-" (signAt ws r' c') else if c = c' ∧ (r = r' + 1 ∨ r' = r + 1) then tk ".|" (signAt ws r c) && tk ".|" (signAt ws r' c') else false
theorem tk_turn (n : Nat) : tk ".-" (turnC n) = tk ".|" n ∧ tk ".|" (turnC n) = tk ".-" n := by
  have e1 : (".-" : Str).cps.toList = [46, 45] := by decide +kernel
  have e2 : (".|" : Str).cps.toList = [46, 124] := by decide +kernel
  unfold tk turnC
  rw [e1, e2]
  constructor
  · refine decide_eq_decide.mpr ?_
    simp only [List.mem_cons, List.not_mem_nil, or_false]
    split
    · omega
    · split <;> omega
  · refine decide_eq_decide.mpr ?_
    simp only [List.mem_cons, List.not_mem_nil, or_false]
    split
    · omega
    · split <;> omega
theorem mayC_turn {ws : List Str} {r c r' c' : Nat} (hr : r < ws.length) (hc : c < wide ws) (hr' : r' < ws.length) (hc' : c' < wide ws) : mayC (qrt ws) c (ws.length - 1 - r) c' (ws.length - 1 - r') = mayC ws r c r' c' := by
  unfold mayC
  rw [qrt_sign hc (by omega), qrt_sign hc' (by omega), show ws.length - 1 - (ws.length - 1 - r) = r from by omega, show ws.length - 1 - (ws.length - 1 - r') = r' from by omega, (tk_turn _).1, (tk_turn _).1, (tk_turn _).2, (tk_turn _).2]
  by_cases h1 : r = r' ∧ (c = c' + 1 ∨ c' = c + 1)
  · rw [if_pos h1, if_neg (by omega), if_pos (by omega)]
  · rw [if_neg h1]
    by_cases h2 : c = c' ∧ (r = r' + 1 ∨ r' = r + 1)
    · rw [if_pos h2, if_pos (by omega)]
    · rw [if_neg h2, if_neg (by omega), if_neg (by omega)]
theorem lmay_c {ws : List Str} {i j : Int} {r c r' c' : Nat} (hr : r < ws.length) (hc : c < wide ws) (hr' : r' < ws.length) (hc' : c' < wide ws) (ei : i = ((r * wide ws + c : Nat) : Int)) (ej : j = ((r' * wide ws + c' : Nat) : Int)) : lmay ws i j = mayC ws r c r' c' := by
  have area : ∀ {r c : Nat}, r < ws.length → c < wide ws → r * wide ws + c < wide ws * ws.length := fun {r c} h1 h2 => by
    have := Nat.mul_le_mul_right (wide ws) (show r + 1 ≤ ws.length from h1)
    rw [Nat.add_mul, Nat.mul_comm ws.length] at this
    omega
  have a1 := area hr hc
  have a2 := area hr' hc'
  have dv : ∀ {r c : Nat}, c < wide ws → (r * wide ws + c) / wide ws = r ∧ (r * wide ws + c) % wide ws = c := fun {r c} h => by
    constructor
    · rw [Nat.mul_comm, Nat.mul_add_div (by omega), Nat.div_eq_of_lt h]
      omega
    · rw [Nat.mul_comm, Nat.mul_add_mod, Nat.mod_eq_of_lt h]
  obtain ⟨d1, m1⟩ := dv (r := r) hc
  obtain ⟨d2, m2⟩ := dv (r := r') hc'
  subst ei ej
  unfold lmay mayC
  rw [if_pos ⟨by omega, by omega, by omega, by omega⟩]
  rw [← Int.natCast_ediv, ← Int.natCast_ediv, ← Int.natCast_emod, ← Int.natCast_emod, d1, m1, d2, m2, Int.toNat_natCast, Int.toNat_natCast]
  unfold atP
  rw [d1, m1, d2, m2]
  by_cases h1 : r = r' ∧ (c = c' + 1 ∨ c' = c + 1)
  · rw [if_pos h1, if_pos]
    obtain ⟨rfl, h⟩ := h1
    exact ⟨rfl, by omega⟩
  · rw [if_neg h1, if_neg]
    · by_cases h2 : c = c' ∧ (r = r' + 1 ∨ r' = r + 1)
      · rw [if_pos h2, if_pos ⟨by omega, by omega⟩]
      · rw [if_neg h2, if_neg (fun q => h2 ⟨by omega, by omega⟩)]
    · rintro ⟨q1, q2⟩
      have q3 : r = r' := by omega
      subst q3
      exact h1 ⟨rfl, by omega⟩
end Sf
namespace Sf
open PySem PySem.Spec PyProof.Rows L2 Gc
/-! ### layings of a floor that is turned -/
def qp (ws : List Str) (p : Int) : Int := p % (wide ws : Int) * (ws.length : Int) + (ws.length : Int) - 1 - p / (wide ws : Int)
def qg (ws : List Str) (p : Int) : Int := ((ws.length : Int) - 1 - p % (ws.length : Int)) * (wide ws : Int) + p / (ws.length : Int)
theorem dm_nat {w r c : Nat} (h : c < w) : ((r * w + c : Nat) : Int) / (w : Int) = (r : Int) ∧ ((r * w + c : Nat) : Int) % (w : Int) = (c : Int) := by
  rw [← Int.natCast_ediv, ← Int.natCast_emod]
  constructor
  · rw [Nat.mul_comm, Nat.mul_add_div (by omega), Nat.div_eq_of_lt h]
    omega
  · rw [Nat.mul_comm, Nat.mul_add_mod, Nat.mod_eq_of_lt h]
theorem qp_at {ws : List Str} {r c : Nat} (hr : r < ws.length) (hc : c < wide ws) : qp ws ((r * wide ws + c : Nat) : Int) = ((c * ws.length + (ws.length - 1 - r) : Nat) : Int) := by
  unfold qp
  obtain ⟨e1, e2⟩ := dm_nat (w := wide ws) (r := r) (c := c) hc
  rw [e1, e2, ← Int.natCast_mul]
  omega
theorem qg_at {ws : List Str} {c k : Nat} (hc : c < wide ws) (hk : k < ws.length) : qg ws ((c * ws.length + k : Nat) : Int) = (((ws.length - 1 - k) * wide ws + c : Nat) : Int) := by
  unfold qg
  obtain ⟨e1, e2⟩ := dm_nat (w := ws.length) (r := c) (c := k) hk
  rw [e1, e2, show (ws.length : Int) - 1 - (k : Int) = ((ws.length - 1 - k : Nat) : Int) from by omega, ← Int.natCast_mul]
  omega
/-- a place of the floor, by row and column -/
theorem cell_rc {ws : List Str} {p : Int} (h : isCell ws p = true) : ∃ r c : Nat, r < ws.length ∧ c < wide ws ∧ p = ((r * wide ws + c : Nat) : Int) ∧ signAt ws r c ≠ 35 := by
  obtain ⟨h0, h1, h2⟩ := isCell_iff.mp h
  obtain ⟨r, c, hr, hc, e, _, _, a, _, _⟩ := place h0 h1
  exact ⟨r, c, hr, hc, e, by rw [← a]; exact h2⟩
theorem cell_at {ws : List Str} {r c : Nat} (hr : r < ws.length) (hc : c < wide ws) (h : signAt ws r c ≠ 35) : isCell ws ((r * wide ws + c : Nat) : Int) = true := by
  have := Nat.mul_le_mul_right (wide ws) (show r + 1 ≤ ws.length from hr)
  rw [Nat.add_mul, Nat.mul_comm ws.length] at this
  refine isCell_iff.mpr ⟨by omega, by omega, ?_⟩
  obtain ⟨e1, e2⟩ := dm_nat (w := wide ws) (r := r) (c := c) hc
  rw [← Int.natCast_ediv] at e1
  rw [← Int.natCast_emod] at e2
  unfold atP
  rw [Int.toNat_natCast, Int.ofNat.inj e1, Int.ofNat.inj e2]
  exact h
theorem turn_no {n : Nat} (h : n ≠ 35) : turnC n ≠ 35 := by
  unfold turnC
  split
  · omega
  · split <;> omega
theorem turn_back {n : Nat} (h : turnC n ≠ 35) : n ≠ 35 := fun e => h (by rw [e]; rfl)
theorem cell_qp {ws : List Str} {p : Int} (h : isCell ws p = true) : isCell (qrt ws) (qp ws p) = true ∧ qg ws (qp ws p) = p := by
  obtain ⟨r, c, hr, hc, rfl, ns⟩ := cell_rc h
  have e := qrt_wide (ws := ws) (by omega)
  have l := qrt_len ws
  rw [qp_at hr hc]
  constructor
  · have q := cell_at (ws := qrt ws) (r := c) (c := ws.length - 1 - r) (by omega) (by omega) (by rw [qrt_sign hc (by omega), show ws.length - 1 - (ws.length - 1 - r) = r from by omega]; exact turn_no ns)
    rw [e] at q
    exact q
  · rw [qg_at hc (by omega), show ws.length - 1 - (ws.length - 1 - r) = r from by omega]
theorem cell_qg {ws : List Str} {p : Int} (h : isCell (qrt ws) p = true) : isCell ws (qg ws p) = true ∧ qp ws (qg ws p) = p := by
  obtain ⟨c, k, hc, hk, rfl, ns⟩ := cell_rc h
  rw [qrt_len] at hc
  have e := qrt_wide (ws := ws) (by omega)
  rw [e] at hk ⊢
  rw [qrt_sign hc hk] at ns
  rw [qg_at hc hk]
  refine ⟨cell_at (by omega) hc (turn_back ns), ?_⟩
  rw [qp_at (by omega) hc, show ws.length - 1 - (ws.length - 1 - k) = k from by omega]
/-- two places may have a slab there just where they may here -/
theorem lmay_qp {ws : List Str} {p o : Int} (p0 : 0 ≤ p) (p1 : p < ((wide ws * ws.length : Nat) : Int)) (o0 : 0 ≤ o) (o1 : o < ((wide ws * ws.length : Nat) : Int)) : lmay (qrt ws) (qp ws p) (qp ws o) = lmay ws p o := by
  obtain ⟨r, c, hr, hc, rfl, _⟩ := place p0 p1
  obtain ⟨r', c', hr', hc', rfl, _⟩ := place o0 o1
  have e := qrt_wide (ws := ws) (by omega)
  have l := qrt_len ws
  rw [qp_at hr hc, qp_at hr' hc', lmay_c (ws := ws) hr hc hr' hc' rfl rfl, ← mayC_turn hr hc hr' hc']
  exact lmay_c (ws := qrt ws) (by omega) (by omega) (by omega) (by omega) (by rw [e]) (by rw [e])
theorem may_rng {ws : List Str} {a b : Int} (m : mayB ws a b = true) : isCell ws a = true ∧ isCell ws b = true := may_cell m
theorem may_qp {ws : List Str} {a b : Int} (m : mayB ws a b = true) : mayB (qrt ws) (qp ws a) (qp ws b) = true := by
  obtain ⟨h1, h2⟩ := may_rng m
  obtain ⟨a0, a1, _⟩ := isCell_iff.mp h1
  obtain ⟨b0, b1, _⟩ := isCell_iff.mp h2
  rw [may_eq] at m ⊢
  rw [lmay_qp a0 a1 b0 b1]
  exact m
theorem may_qg {ws : List Str} {a b : Int} (m : mayB (qrt ws) a b = true) : mayB ws (qg ws a) (qg ws b) = true := by
  obtain ⟨h1, h2⟩ := may_rng m
  obtain ⟨c1, e1⟩ := cell_qg h1
  obtain ⟨c2, e2⟩ := cell_qg h2
  obtain ⟨a0, a1, _⟩ := isCell_iff.mp c1
  obtain ⟨b0, b1, _⟩ := isCell_iff.mp c2
  rw [may_eq] at m ⊢
  rw [← lmay_qp a0 a1 b0 b1, e1, e2]
  exact m
theorem Vl.mapped {ws ws2 : List Str} {ov : Ovr} (f g : Int → Int) (inv : ∀ a, isCell ws a = true → g (f a) = a) (hm : ∀ a b, mayB ws a b = true → mayB ws2 (f a) (f b) = true) (v : Vl ws ov) : Vl ws2 (ov.map fun p => (f p.1, f p.2)) := by
  have nd : (keysOf (ov.map fun p => (f p.1, f p.2))).Nodup := by
    have e : keysOf (ov.map fun p => (f p.1, f p.2)) = (keysOf ov).map f := by
      unfold keysOf
      rw [List.map_map, List.map_map]
      rfl
    rw [e]
    refine List.pairwise_map.mpr (List.Pairwise.imp_of_mem (fun {a b} ha hb (q : a ≠ b) z => q ?_) v.nd)
    rw [← inv a (v.cell ha), ← inv b (v.cell hb), z]
  have back : ∀ k j, look (ov.map fun p => (f p.1, f p.2)) k = some j → ∃ a b, k = f a ∧ j = f b ∧ look ov a = some b := fun k j h => by
    obtain ⟨p, hp, e⟩ := List.mem_map.mp (look_mem h)
    obtain ⟨e1, e2⟩ := Prod.mk.inj e
    exact ⟨p.1, p.2, e1.symm, e2.symm, mem_look v.nd hp⟩
  refine ⟨nd, fun k j h => ?_, fun k j h => ?_⟩
  · obtain ⟨a, b, rfl, rfl, e⟩ := back k j h
    exact mem_look nd (List.mem_map.mpr ⟨(b, a), look_mem (v.sym a b e), rfl⟩)
  · obtain ⟨a, b, rfl, rfl, e⟩ := back k j h
    exact hm a b (v.may a b e)
theorem bare_turn {ws : List Str} {ov ov2 : Ovr} (v : Vl ws ov) (na : ¬ Aug ws ov) (v2 : Vl (qrt ws) ov2) (na2 : ¬ Aug (qrt ws) ov2) : (bareOf (qrt ws) ov2).length = (bareOf ws ov).length := by
  have b1 := best_most v2 na2 (v.mapped (ws2 := qrt ws) (qp ws) (qg ws) (fun a h => (cell_qp h).2) fun a b => may_qp)
  have b2 := best_most v na (v2.mapped (ws2 := ws) (qg ws) (qp ws) (fun a h => (cell_qg h).2) fun a b => may_qg)
  rw [List.length_map] at b1 b2
  have c1 := inj_len (natI_nd (cellsOf_nd ws)) (qp ws) (m := natI (cellsOf (qrt ws))) (fun a ha => cell_natI.mp (cell_qp (cell_natI.mpr ha)).1) fun a ha b hb e => by
    rw [← (cell_qp (cell_natI.mpr ha)).2, ← (cell_qp (cell_natI.mpr hb)).2, e]
  have c2 := inj_len (natI_nd (cellsOf_nd (qrt ws))) (qg ws) (m := natI (cellsOf ws)) (fun a ha => cell_natI.mp (cell_qg (cell_natI.mpr ha)).1) fun a ha b hb e => by
    rw [← (cell_qg (cell_natI.mpr ha)).2, ← (cell_qg (cell_natI.mpr hb)).2, e]
  have d1 := bare_count v
  have d2 := bare_count v2
  omega
end Sf
/-! Comprehensions without a filter: a value for each turn. -/
namespace Gc
open PySem PySem.Spec PyProof.Rows L2
/-- sep.join(..), its frame K named: within a comprehension -/
def tJn (K : PySem.W.Frag) (to te : TE) : TE := tM1 (fun x xs H Q => ∃ a p, ∃ ys : List Str, x = .str a ∧ xs = [.ref p] ∧ (SqL K H p (ys.map V.str) ∨ SqT K H p (ys.map V.str)) ∧ (ys.map (·.length)).sum + ys.length * a.length ≤ 16777216 ∧ Q (.str (Txt.join a ys)) H) to te
theorem pe_joinK {X : Cx} {K : PySem.W.Frag} {o e : Expr} {to te : TE} {apos pos : Pos} (hK : X.K = K) (ho : PE X o to) (he : PE X e te) (hs : starEach [e] X.env = [(false, eval e X.env)]) (hbase : attributeBase o "join" X.env (eval o X.env) = eval o X.env) (hline : (apos.endLine == pos.line) = true) :
    PE X (.Call (.Attribute o "join" apos) [e] [] pos) (tJn K to te) := by
  subst hK
  exact pe_join ho he hs hbase hline
/-- a comprehension within one -/
def relS (scope sc0 : Scope) : Scope := { scope with names := scope.names.map fun (n, k) => if (k == .free && sc0.kind == .function && sc0.names.lookup n == some .cell) then (n, .cell) else (n, k) }
theorem relS_eq {scope sc0 : Scope} {env : Env} (he : env.scope = sc0) : relabel scope env = relS scope sc0 := by
  subst he
  rfl
theorem blkOk_in {N : List Str} {scope1 scope2 sc0 : Scope} {own : List (Str × Nat)} {cl : List (Str × Addr)} {C : Addr} {env : Env} (he : env.scope = sc0) (h : blkC N (relS scope1 sc0) scope2 own = true) : BlkOk N (compEnvC scope1 cl C env).scope scope2 own := by
  have e : (compEnvC scope1 cl C env).scope = relS scope1 sc0 := relS_eq he
  rw [e]
  exact blkOk_by h
/-- [f(k) for k in range(n)] -/
theorem lc_valsR {n i : Nat} {f : Nat → V} {te : TE} {σ : L2.St} {H1 : Hp} {D : Addr} {Qd : Hp → Prop} (hD : H1 D = none) (hn : n ≤ 900)
    (ht : ∀ k H3, k < n → Same H1 H3 → ∀ R : V → Hp → Prop, (∀ H4, Same H3 H4 → R (f k) H4) → te ((wipe σ [i]).set i (some (.int ((k : Nat) : Int)))) H3 R)
    (hd : ∀ H3, Same H1 H3 → H3 D = some (.lst ((List.range n).map f)) → Qd H3) :
    ∃ W : Nat → Nat → Hp → Prop, (∃ m, W 0 m (upd H1 D (.lst []))) ∧ ∀ i' m H, W i' m H →
      ((Itr 0 n).stop i' H ∧ Qd H) ∨ ((Itr 0 n).go i' H ∧ ∃ Nx : Hp → Prop, (∀ H', Nx H' → ∃ m', m' < m ∧ W (i' + 1) m' H') ∧ ∀ x H', (Itr 0 n).yld i' H x H' → gName i x (wipe σ [i]) H' fun σ2 H2 => wipe σ2 [i] = wipe σ [i] ∧ tYes σ2 H2 fun b H3 =>
        if b = true then te σ2 H3 fun y H4 => ∃ acc, H4 D = some (.lst acc) ∧ acc.length < sizeLine ∧ Nx (upd H4 D (.lst (acc ++ [y]))) else Nx H3) := by
  refine lc_range (lo := 0) (n := n) (fun j H3 => Same H1 H3 ∧ H3 D = some (.lst ((List.range j).map f))) ⟨same_new hD, upd_same⟩ ?_ ?_
  · rintro j H3 hj ⟨s3, h3⟩
    have z : (0 : Int) + ((j : Nat) : Int) = ((j : Nat) : Int) := Int.zero_add _
    refine ⟨wipe1 σ i _, ?_⟩
    show te ((wipe σ [i]).set i (some (.int ((0 : Int) + ((j : Nat) : Int))))) H3 _
    rw [z]
    refine ht j H3 hj s3 _ fun H4 s4 => ?_
    refine ⟨_, s4 _ _ h3, ?_, same_off (s3.trans s4) hD, ?_⟩
    · rw [List.length_map, List.length_range]
      exact small1000 (by omega)
    · rw [upd_same, List.range_succ, List.map_append] <;> rfl
  · rintro H3 ⟨s3, h3⟩
    exact hd H3 s3 h3
/-- [f(x) for x in list] -/
theorem lc_valsL {K : PySem.W.Frag} {a : Addr} {xs : List V} {i : Nat} {f : V → V} {te : TE} {σ : L2.St} {H1 : Hp} {D : Addr} {Qd : Hp → Prop} (hS : SqL K H1 a xs) (hD : H1 D = none) (hn : xs.length ≤ 900)
    (ht : ∀ x H3, x ∈ xs → Same H1 H3 → ∀ R : V → Hp → Prop, (∀ H4, Same H3 H4 → R (f x) H4) → te ((wipe σ [i]).set i (some x)) H3 R)
    (hd : ∀ H3, Same H1 H3 → H3 D = some (.lst (xs.map f)) → Qd H3) :
    ∃ W : Nat → Nat → Hp → Prop, (∃ m, W 0 m (upd H1 D (.lst []))) ∧ ∀ i' m H, W i' m H →
      ((Itl K a).stop i' H ∧ Qd H) ∨ ((Itl K a).go i' H ∧ ∃ Nx : Hp → Prop, (∀ H', Nx H' → ∃ m', m' < m ∧ W (i' + 1) m' H') ∧ ∀ x H', (Itl K a).yld i' H x H' → gName i x (wipe σ [i]) H' fun σ2 H2 => wipe σ2 [i] = wipe σ [i] ∧ tYes σ2 H2 fun b H3 =>
        if b = true then te σ2 H3 fun y H4 => ∃ acc, H4 D = some (.lst acc) ∧ acc.length < sizeLine ∧ Nx (upd H4 D (.lst (acc ++ [y]))) else Nx H3) := by
  refine lc_list (K := K) (a := a) (xs := xs) (fun j H3 => Same H1 H3 ∧ H3 D = some (.lst ((xs.take j).map f))) ⟨same_new hD, upd_same⟩ (fun i H3 _ ⟨s3, _⟩ => s3.seq hS) ?_ ?_
  · rintro j y H3 hj ⟨s3, h3⟩
    refine ⟨wipe1 σ i _, ?_⟩
    show te ((wipe σ [i]).set i (some y)) H3 _
    refine ht y H3 (List.mem_of_getElem? hj) s3 _ fun H4 s4 => ?_
    refine ⟨_, s4 _ _ h3, ?_, same_off (s3.trans s4) hD, ?_⟩
    · rw [List.length_map]
      have q2 : (xs.take j).length ≤ xs.length := by rw [List.length_take]; omega
      exact small1000 (by omega)
    · rw [upd_same, List.take_add_one, hj, List.map_append] <;> rfl
  · rintro H3 ⟨s3, h3⟩
    rw [List.take_length] at h3
    exact hd H3 s3 h3
end Gc
/-! A range with a step, kept in a name. -/
namespace Gc
open PySem PySem.Spec PyProof.Rows L2
/-- a range object of three ints at a -/
def RgO (a : Addr) (i j k : Int) : HO := .ext fun h => ∃ t u v, h.get? a = some { cls := .type "range", data := .fields #[.int i t, .int j u, .int k v] }
theorem cr_range3v {X : Cx} : CallR X (.type "range") (fun vs H Q => ∃ i j k, vs = [V.int i, V.int j, V.int k] ∧ k ≠ 0 ∧ k.natAbs < 1073741824 ∧ ∀ p, H p = none → Q (.ref p) (upd H p (RgO p i j k))) := by
  intro pins s σ H vs us Q I r h
  obtain ⟨i, j, k, rfl, c0, c1, q⟩ := h
  cases r with
  | cons r rr =>
    cases rr with
    | cons r' rr =>
      cases rr with
      | cons r'' rr =>
        cases rr
        obtain ⟨t, rfl⟩ := r
        obtain ⟨t', rfl⟩ := r'
        obtain ⟨t'', rfl⟩ := r''
        refine call_range_3 c0 ?_ (.inl (PyProof.noPylong_small c1))
        refine ⟨.ref s.heap.objs.size, upd H s.heap.objs.size (RgO s.heap.objs.size i j k), I.laid (t' := s.toks) (fun b o e => Heap.get?_push_of_some _ e) (Nat.le_refl _) ?_, rfl, q _ (I.hok.fresh (Nat.le_refl _))⟩
        refine ⟨⟨t, t', t'', Heap.get?_push_size _ rfl⟩, ⟨_, Heap.get?_push_size _ rfl⟩, fun h1 h2 hφ kk => ?_⟩
        obtain ⟨a1, a2, a3, e⟩ := hφ
        exact ⟨a1, a2, a3, kk _ e⟩
/-- over a range that a name keeps -/
def iRgv (te : L2.TE) : TI := fun σ H R => te σ H fun v H1 => ∃ (a : Addr) (i j k : Int) (n : Nat), v = .ref a ∧ H1 a = some (RgO a i j k) ∧ RgC i j k n ∧ R (Itc i k n) H1
theorem pi_rgv {X : Cx} {tg e : Expr} {te : L2.TE} (he : PE X e te) : PI X tg e (iRgv te) := by
  refine ⟨fun pins s σ H R I h => ?_⟩
  refine thn (he.run pins s σ H _ I h) fun u s1 ⟨v, H1, I1, rv, q1⟩ => ?_
  obtain ⟨a, i, j, k, n, rfl, ha, ⟨c0, c1, c2, c3⟩, q⟩ := q1
  obtain rfl : u = Value.ref a := rv
  obtain ⟨⟨t, t', t'', ho⟩, _, _⟩ := I1.hok a _ ha
  have hr : IsRange s1.heap a i j k t t' t'' := ho
  refine wpAny_pyIter_range hr c2 ?_
  refine pi_one (tk := s1.toks) I1 _ (turn_rangeC _ i k n) ?_ q
  have e1 : i + ((0 : Nat) : Int) * k = i := by simp
  have e2 : (n : Int) - ((0 : Nat) : Int) = Builtin.Range.rangeSize i j k := by rw [c3]; simp
  show IsRangeIter _ _ (i + ((0 : Nat) : Int) * k) ((n : Int) - ((0 : Nat) : Int)) k
  rw [e1, e2]
  exact Heap.get?_push_size _ rfl
end Gc
/-! list(reversed(xs)), xs a list. -/
namespace RT
open PySem PySem.Spec PyProof.Rows L2
section
variable {prog : Program} {w : World} {A : Around} {E : Value → Shared → Prop} {s : Shared}
theorem ext_rev {S it l : Addr} {items : Array Value} {res : Value} {R : Result → Shared → Prop} {c₀ : Nat} (hh : A.handled = none) (hS : s.heap.get? S = some { cls := .type "list", data := .seq #[] c₀ })
    (hit : s.heap.IsRevIter it l ((items.size : Int) - 1)) (hl : s.heap.IsList l items) (hne : l ≠ it) (hSi : S ≠ it) (hSl : S ≠ l) (hn : items.size ≤ sizeLine)
    (hR : ∀ (s' : Shared) (acc : Array Value) (c' : Nat), (∀ b o, b ≠ it → b ≠ S → s.heap.get? b = some o → s'.heap.get? b = some o) → s' = { s with heap := s'.heap, toks := s'.toks } → s'.heap.get? S = some { cls := .type "list", dict := none, data := .seq acc c', slots := #[] } → ItemsOf (fun i v => items[items.size - 1 - i]? = some v) acc items.size → R (.ok (.ret res)) s') :
    wpAny (model prog w) A.in1 (Builtin.List.listExtendWith (.ref S) (.ref it) res)
      (fun fin s' => match fin with | .done f => R (.ok f) s' | .again c' => c'.quiet = true ∧ codeAny (model prog w) A c' R s') (fun e s' => R (.error e) s') s := by
  have W := (Walks.listRev (prog := prog) (w := w) (A := A.in1) hh it l hne items).toS
  have hSf : S ∉ [it, l] := by simp only [List.mem_cons, List.not_mem_nil, or_false, not_or]; exact ⟨hSi, hSl⟩
  have hT : s.TypeIs (.ref it) "list_reverseiterator" := hit.typeIs
  have h1 : Builtin.List.listSameRef (.ref S) (.ref it) = false := by simp [Builtin.List.listSameRef, hSi]
  unfold Builtin.List.listExtendWith
  refine wpAny_bind (wpAny_typeOf hT ?_)
  rw [if_neg (by rw [h1]; decide)]
  refine wpAny_bind (wpAny_pyIter_revIter hit ?_)
  refine wpAny_bind (wpAny_holding ?_)
  unfold Builtin.List.listLengthHint
  refine wpAny_bind (wpAny_specialOf hT nolen_lri ?_)
  show wpAny _ A.in1 (specialOf (Value.ref it) (Str.ofString "__length_hint__") >>= _) _ _ _
  refine wpAny_bind (wpAny_specialOf hT hint_lri ?_)
  generalize hid : ("list_reverseiterator.__length_hint__" : String) = id0
  wp_delta
  rw [show splitId id0 = some ("list_reverseiterator", "__length_hint__") from by subst hid; decide +kernel]
  subst hid
  refine wpAny_bind (wpAny_isInstance (b := true) hT (by rw [isSubtype_type]; kernel_rfl) ?_)
  refine wpAny_pure ?_
  rw [if_neg (by decide)]
  have e0 : ((items.size : Nat) : Int) - 1 - ((0 : Nat) : Int) = (items.size : Int) - 1 := by omega
  refine wpAny_pure ⟨plainId_quiet F.plain_extend_loop _, codeAny_extend_loopS W hn _ hSf _ items.size 0 _ _ _ rfl (Nat.zero_le _) ⟨Nat.zero_le _, by rw [e0]; exact hit, hl⟩ hS (ItemsOf.nil _) fun s' acc' c' hm hS' hacc => ?_⟩
  refine hR s' acc' c' (fun b o hb hb2 e => hm.heap b o (fun hmem => ?_) e) (Moved.eq_with hm) hS' hacc
  rcases List.mem_cons.mp hmem with e' | hmem
  · exact hb2 e'
  · exact hb (List.mem_singleton.mp hmem)
theorem init_rev {S it l : Addr} {items : Array Value} {R : Result → Shared → Prop} (hh : A.handled = none) (hS : s.heap.get? S = some { cls := .type "list", data := .seq #[] })
    (hit : s.heap.IsRevIter it l ((items.size : Int) - 1)) (hl : s.heap.IsList l items) (hne : l ≠ it) (hSi : S ≠ it) (hSl : S ≠ l) (hn : items.size ≤ sizeLine)
    (hR : ∀ (s' : Shared) (acc : Array Value) (c' : Nat), (∀ b o, b ≠ it → b ≠ S → s.heap.get? b = some o → s'.heap.get? b = some o) → s' = { s with heap := s'.heap, toks := s'.toks } → s'.heap.get? S = some { cls := .type "list", dict := none, data := .seq acc c', slots := #[] } → ItemsOf (fun i v => items[items.size - 1 - i]? = some v) acc items.size → R (.ok (.ret .none)) s') :
    wpAny (model prog w) A.in1 (Builtin.«list.__init__» ⟨[.ref S, .ref it], []⟩)
      (fun fin s' => match fin with | .done f => R (.ok f) s' | .again c' => c'.quiet = true ∧ codeAny (model prog w) A c' R s') (fun e s' => R (.error e) s') s := by
  show wpAny _ A.in1 (do let old ← Builtin.List.listItems (.ref S); Builtin.List.listUpdate (.ref S) (fun _ => #[]); letGo old.toList.reverse; Builtin.List.listExtendWith (.ref S) (.ref it) .none) _ _ s
  refine wpAny_bind ?_
  unfold Builtin.List.listItems
  refine wpAny_bind (wpAny_seqItems hS rfl (wpAny_pure ?_))
  show wpAny _ A.in1 (updateSeq S (fun _ => #[]) >>= fun _ => letGo (#[] : Array Value).toList.reverse >>= fun _ => Builtin.List.listExtendWith (.ref S) (.ref it) .none) _ _ s
  refine wpAny_bind (wpAny_updateSeq hS rfl ?_)
  have hS₂ := Heap.get?_update_self (Obj.mapSeq (fun _ => (#[] : Array Value))) hS rfl
  have oth : ∀ b o, b ≠ S → s.heap.get? b = some o → (s.heap.update S (Obj.mapSeq (fun _ => (#[] : Array Value)))).get? b = some o :=
    fun b o hb e => (Heap.get?_update_other _ _ (Ne.symm hb)).trans e
  refine wpAny_bind (wpAny_letGo ?_)
  refine ext_rev (s := { s with heap := s.heap.update S (Obj.mapSeq (fun _ => (#[] : Array Value))) }) hh hS₂ (hit.at fun o e => oth _ _ hSi.symm e) (hl.at fun o e => oth _ _ hSl.symm e) hne hSi hSl hn fun s' acc c' h1 h2 h3 h4 => ?_
  exact hR s' acc c' (fun b o hb hb2 e => h1 b o hb hb2 (oth b o hb2 e)) h2 h3 h4
theorem call_list_rev {it l : Addr} {items : Array Value} {Q : Value → Shared → Prop} (hh : A.handled = none) (hit : s.heap.IsRevIter it l ((items.size : Int) - 1)) (hl : s.heap.IsList l items) (hne : l ≠ it) (hn : items.size ≤ sizeLine)
    (hQ : ∀ (h' : Heap) (tk : Nat) (acc : Array Value) (c' : Nat), (∀ b o, b ≠ it → s.heap.get? b = some o → h'.get? b = some o) → h'.get? s.heap.objs.size = some { cls := .type "list", dict := none, data := .seq acc c', slots := #[] } → ItemsOf (fun i v => items[items.size - 1 - i]? = some v) acc items.size →
      Q (.ref s.heap.objs.size) { s with heap := h', toks := tk }) :
    wpAny (model prog w) A (call (.type "list") [.ref it]) Q E s := by
  obtain ⟨oi, hoi, _⟩ := id hit
  obtain ⟨ol, hol, _⟩ := id hl
  have hSi : s.heap.objs.size ≠ it := Nat.ne_of_gt (Heap.lt_size hoi)
  have hSl : s.heap.objs.size ≠ l := Nat.ne_of_gt (Heap.lt_size hol)
  refine callType_codes (Q₁ := fun obj s₁ => obj = .ref s.heap.objs.size ∧ s₁ = { s with heap := s.heap.push { cls := .type "list", data := .seq #[] } }) F.called_list (F.typeCall_list_1 _) F.entry_list_init
    (code_list_new _ ⟨rfl, rfl⟩) fun obj s₁ h₁ => ?_
  obtain ⟨rfl, rfl⟩ := h₁
  have hS : (s.heap.push { cls := .type "list", data := .seq #[] }).get? s.heap.objs.size = some { cls := .type "list", data := .seq #[] } := Heap.get?_push_size _ rfl
  refine ⟨⟨_, hS, rfl⟩, F.args_list_init_2 _ _, init_rev (A := A.in1) hh hS (hit.at fun o e => Heap.get?_push_of_some _ e) (hl.push _) hne hSi hSl hn fun s' acc c' h1 h2 h3 h4 => ?_⟩
  have q := hQ s'.heap s'.toks acc c' (fun b o hb e => h1 b o hb (Nat.ne_of_lt (Heap.lt_size e)) (Heap.get?_push_of_some _ e)) h3 h4
  refine ⟨rfl, ?_⟩
  rw [h2]
  exact q
end
end RT
namespace Gc
open PySem PySem.Spec PyProof.Rows L2 RT
/-- list(reversed(xs)), xs a list: a new list -/
def tLstRv (K : PySem.W.Frag) (te : L2.TE) : L2.TE := fun σ H Q => te σ H fun v H1 => ∃ (a : Addr) (xs : List V), v = .ref a ∧ SqL K H1 a xs ∧ ∀ q, H1 q = none → Q (.ref q) (upd H1 q (.lst xs.reverse))
theorem pe_lstRv {X : Cx} {e : Expr} {te : L2.TE} {p p2 pos pos2 : Pos} (hc : X.calm = true) (hg : Gl X "list") (hm : X.mg "list" = none) (hg2 : Gl X "reversed") (hm2 : X.mg "reversed" = none) (he : PE X e te)
    (hs : starEach [e] X.env = (false, eval e X.env) :: starEach [] X.env := by rfl)
    (hs2 : starEach [.Call (.Name "reversed" p2) [e] [] pos2] X.env = (false, eval (.Call (.Name "reversed" p2) [e] [] pos2) X.env) :: starEach [] X.env := by rfl) :
    PE X (.Call (.Name "list" p) [.Call (.Name "reversed" p2) [e] [] pos2] [] pos) (tLstRv X.K te) := by
  refine ⟨fun pins s σ H Q I h => ?_⟩
  refine Call_ (ld_blt I hg hm boot_list (PyProof.Rows.callWith_type1 (args_cons (Call_ (ld_blt I hg2 hm2 PyProof.Rows.boot_reversed (PyProof.Rows.callWith_type1 (args_cons (thn (he.run pins s σ H _ I h) fun u s1 ⟨v, H1, I1, r1, q1⟩ => args_nil ?_) hs) hs rfl))) hs2) hs2 rfl))
  obtain ⟨a, xs, ev, hq, q⟩ := q1
  subst ev
  obtain rfl : u = Value.ref a := r1
  obtain ⟨its, rv, p', hz⟩ := I1.list hq
  refine call_reversed_list p'.isList (args_nil ?_)
  have k0 : ∀ b o, s1.heap.get? b = some o → (s1.heap.push (revObj a ((its.toArray.size : Int) - 1))).get? b = some o := fun b o e => Heap.get?_push_of_some _ e
  have hl := p'.isList
  obtain ⟨ol, hol, _⟩ := id hl
  have hne : a ≠ s1.heap.objs.size := Nat.ne_of_lt (Heap.lt_size hol)
  have hn : its.toArray.size ≤ sizeLine := by rw [List.size_toArray, ← rv.length]; exact hz
  refine call_list_rev (s := { s1 with heap := s1.heap.push (revObj a ((its.toArray.size : Int) - 1)) }) (I1.ok.hd hc) ⟨_, Heap.get?_push_size _ rfl, rfl, rfl⟩ (hl.push _) hne hn fun h' tk acc c' hk hS hi => ?_
  have sz : s1.heap.objs.size ≤ (s1.heap.push (revObj a ((its.toArray.size : Int) - 1))).objs.size := by
    show _ ≤ (s1.heap.objs.push _).size
    rw [Array.size_push]
    omega
  refine ⟨.ref (s1.heap.push (revObj a ((its.toArray.size : Int) - 1))).objs.size, upd H1 (s1.heap.push (revObj a ((its.toArray.size : Int) - 1))).objs.size (.lst xs.reverse), I1.laid (t' := tk) (fun b o e => hk b o (Nat.ne_of_lt (Heap.lt_size e)) (k0 b o e)) sz
    (show ObjOk X.prog X.w _ _ _ (.lst xs.reverse) from ⟨by rw [List.length_reverse]; exact hz, acc.toList, c', vals_rev rv hi, by rw [Array.toArray_toList]; exact hS⟩), rfl, q _ (I1.hok.fresh sz)⟩
end Gc
namespace Sf
open PySem PySem.Spec PyProof.Rows L2 Gc
theorem FloorD.sm {C Pt x df : Addr} {H H' : Hp} {ws : List Str} (f : FloorD C H x df ws) (s : Sm Pt H H') (hT : GxR.TabG H Pt) : FloorD C H' x df ws := by
  obtain ⟨dx, lr, g, a⟩ := f
  exact ⟨dx, lr, g, s.at hT a.ob (fun _ z => by cases z), s.at hT a.rw (fun _ z => by cases z), ⟨s.at hT a.tb.dc (fun _ z => by cases z), fun p hp => s.at hT (a.tb.ls p hp) (fun _ z => by cases z)⟩, s.at hT a.sg (fun _ z => by cases z)⟩
/-- TURNED, as the top has written it -/
def TrnAt (K : PySem.W.Frag) (w : World) (t9 : Addr) : Prop := KDct K w t9 (sg1 46) (.str (sg1 46)) ∧ KDct K w t9 (sg1 45) (.str (sg1 124)) ∧ KDct K w t9 (sg1 124) (.str (sg1 45)) ∧ KDct K w t9 (sg1 35) (.str (sg1 35))
theorem TrnAt.at {K : PySem.W.Frag} {w : World} {t9 : Addr} (t : TrnAt K w t9) {n : Nat} (h : okSign n) : KDct K w t9 (sg1 n) (.str (sg1 (turnC n))) := by
  obtain ⟨a, b, c, d⟩ := t
  rcases h with rfl | rfl | rfl | rfl
  · exact a
  · exact b
  · exact c
  · exact d
theorem trn_of {K : PySem.W.Frag} {w : World} {t9 : Addr} {u0 u1 u2 u3 : Tok} (h : ∃ es n, KDict K w t9 es n) (n0 : PySem.W.nsIn K t9 "." = some (some (.str "." u0))) (n1 : PySem.W.nsIn K t9 "-" = some (some (.str "|" u1))) (n2 : PySem.W.nsIn K t9 "|" = some (some (.str "-" u2))) (n3 : PySem.W.nsIn K t9 "#" = some (some (.str "#" u3))) : TrnAt K w t9 := by
  obtain ⟨es, n, D⟩ := h
  have e0 : ("." : Str) = sg1 46 := by decide +kernel
  have e1 : ("-" : Str) = sg1 45 := by decide +kernel
  have e2 : ("|" : Str) = sg1 124 := by decide +kernel
  have e3 : ("#" : Str) = sg1 35 := by decide +kernel
  rw [e0] at n0
  rw [e1, e2] at n1
  rw [e1, e2] at n2
  rw [e3] at n3
  exact ⟨⟨es, n, _, D.at_, D.lit, n0, ⟨_, rfl⟩⟩, ⟨es, n, _, D.at_, D.lit, n1, ⟨_, rfl⟩⟩, ⟨es, n, _, D.at_, D.lit, n2, ⟨_, rfl⟩⟩, ⟨es, n, _, D.at_, D.lit, n3, ⟨_, rfl⟩⟩⟩
def spSign (C : Addr) : Sp := fun vs H Q _ => ∃ (x df : Addr) (ws : List Str) (r c : Int), vs = [.ref x, .int r, .int c] ∧ FloorD C H x df ws ∧ Wf ws ∧ Q (.str (sg1 (sgN ws r c))) H
def spQPlace (C : Addr) : Sp := fun vs H Q _ => ∃ (x df : Addr) (ws : List Str) (p : Int), vs = [.ref x, .int p] ∧ FloorD C H x df ws ∧ Wf ws ∧ 0 < wide ws ∧ 0 ≤ p ∧ p < ((wide ws * ws.length : Nat) : Int) ∧ ∀ H', Same H H' → Q (.int (qp ws p)) H'
def spQuarter (K : PySem.W.Frag) (Pt C : Addr) : Sp := fun vs H Q _ => ∃ (x df : Addr) (ws : List Str), vs = [.ref x] ∧ FloorD C H x df ws ∧ Wf ws ∧ GxR.TabG H Pt ∧
  ∀ (x2 df2 : Addr) (H' : Hp), Sm Pt H H' → GxR.TabG H' Pt → FloorD C H' x2 df2 (qrt ws) → Q (.ref x2) H'
theorem sg_join (ns : List Nat) : Txt.join ("" : Str) (ns.map sg1) = ⟨ns.toArray⟩ := by
  have e : (Txt.join ("" : Str) (ns.map sg1)).cps.toList = ns := by
    rw [join_flat]
    induction ns with
    | nil => rfl
    | cons a r ih =>
      show a :: (r.map sg1).flatMap _ = _
      rw [show (r.map sg1).flatMap (fun a => a.cps.toList) = r from ih]
  generalize Txt.join ("" : Str) (ns.map sg1) = z at e
  obtain ⟨c⟩ := z
  have e2 : c.toList = ns := e
  rw [← e2]
theorem qrow_join (ws : List Str) (c : Nat) : qrow ws c = Txt.join ("" : Str) (((List.range ws.length).map fun k => turnC (signAt ws (ws.length - 1 - k) c)).map sg1) := (sg_join _).symm
theorem sums1 : ∀ ns : List Nat, ((ns.map sg1).map (·.length)).sum + (ns.map sg1).length * ("" : Str).length = ns.length
  | [] => rfl
  | a :: r => by
    have ih := sums1 r
    rw [List.map_cons, List.map_cons, List.sum_cons, List.length_cons, List.length_cons]
    rw [empty_len] at ih ⊢
    show 1 + _ + _ = _
    omega
/-- [f(i) for i in up] -/
theorem lc_valsC {lo c : Int} {n i : Nat} {f : Nat → V} {te : L2.TE} {σ : L2.St} {H1 : Hp} {D : Addr} {Qd : Hp → Prop} (hD : H1 D = none) (hn : n ≤ 900)
    (ht : ∀ k H3, k < n → Same H1 H3 → ∀ R : V → Hp → Prop, (∀ H4, Same H3 H4 → R (f k) H4) → te ((wipe σ [i]).set i (some (.int (lo + ((k : Nat) : Int) * c)))) H3 R)
    (hd : ∀ H3, Same H1 H3 → H3 D = some (.lst ((List.range n).map f)) → Qd H3) :
    ∃ W : Nat → Nat → Hp → Prop, (∃ m, W 0 m (upd H1 D (.lst []))) ∧ ∀ i' m H, W i' m H →
      ((Itc lo c n).stop i' H ∧ Qd H) ∨ ((Itc lo c n).go i' H ∧ ∃ Nx : Hp → Prop, (∀ H', Nx H' → ∃ m', m' < m ∧ W (i' + 1) m' H') ∧ ∀ x H', (Itc lo c n).yld i' H x H' → gName i x (wipe σ [i]) H' fun σ2 H2 => wipe σ2 [i] = wipe σ [i] ∧ tYes σ2 H2 fun b H3 =>
        if b = true then te σ2 H3 fun y H4 => ∃ acc, H4 D = some (.lst acc) ∧ acc.length < sizeLine ∧ Nx (upd H4 D (.lst (acc ++ [y]))) else Nx H3) := by
  refine lc_it walk_rangeC (fun j H3 => Same H1 H3 ∧ H3 D = some (.lst ((List.range j).map f))) ⟨same_new hD, upd_same⟩ (fun i H3 _ _ => trivial) ?_ ?_
  · rintro j y H3 H3' hj ⟨s3, h3⟩ ⟨rfl, rfl⟩
    refine ⟨wipe1 σ i _, ?_⟩
    show te ((wipe σ [i]).set i (some (.int (lo + ((j : Nat) : Int) * c)))) _ _
    refine ht j _ hj s3 _ fun H4 s4 => ?_
    refine ⟨_, s4 _ _ h3, ?_, same_off (s3.trans s4) hD, ?_⟩
    · rw [List.length_map, List.length_range]
      exact small1000 (by omega)
    · rw [upd_same, List.range_succ, List.map_append] <;> rfl
  · rintro H3 ⟨s3, h3⟩
    exact hd H3 s3 h3
section
variable {P : Program} {w : World} {K : PySem.W.Frag} {mg : Str → Option Value} {base : Heap} {C Pt t9 : Addr}
theorem scFloor_sign : FnScope ["self", "row", "column"] ["self", "row", "column"] (defScope sFloor_sign) := ⟨rfl, rfl, rfl, by decide +kernel, rfl, by decide +kernel, by decide +kernel⟩
theorem ok_sign (D : Dm K C "sign" "Floor.sign" sFloor_sign ["self", "row", "column"]) (T : FTxt K mg C) (c_sign_at : Cl P w K mg base CX0 1 "_sign_at" ["rows", "row", "column"] (spSignAt K)) : Cm P w K mg base CX0 2 C "sign" ["self", "row", "column"] (spSign C) := D.cm fun f fd F => by
  refine F.ok scFloor_sign (fun vs H Q E h => ?_) (fun cdv A outer s H vs Q E hr h => ?_)
  · obtain ⟨x, df, ws, r, c, rfl, _⟩ := h
    rfl
  · obtain ⟨x, df, ws, r, c, rfl, ⟨dx, lr, g, fa⟩, hw, hQ⟩ := h
    refine ⟨_, (pss_one (ps_ret (pe_cl c_sign_at (hr.mono (by decide)) rfl (pa_cons (pe_fld (pv 0) rfl) (pa_cons (pv 1) (pa_cons (pv 2) pa_nil)))))), ?_⟩
    exact ⟨_, rfl, x, C, dx, _, _, rfl, fa.ob, T.cl, T.nS, flds_signs _ _ _ _, _, rfl, _, rfl, _, ws, r, c, rfl, SqT.of fa.sg, hw, hQ⟩
theorem scquarter_place : FnScope ["floor", "place", "row", "column"] ["floor", "place"] (defScope squarter_place) := ⟨rfl, rfl, rfl, by decide +kernel, rfl, by decide +kernel, by decide +kernel⟩
theorem ok_qplace (D : Df K mg "quarter_place" squarter_place ["floor", "place"]) (T : FTxt K mg C) (c_Floor_row_and_column : Cm P w K mg base CX0 1 C "row_and_column" ["self", "place"] (spRC C)) : Cl P w K mg base CX0 2 "quarter_place" ["floor", "place"] (spQPlace C) := D.cl fun f fd F => by
  refine F.ok scquarter_place (fun vs H Q E h => ?_) (fun cdv A outer s H vs Q E hr h => ?_)
  · obtain ⟨x, df, ws, p, rfl, _⟩ := h
    rfl
  · obtain ⟨x, df, ws, p, rfl, ⟨dx, lr, g, fa⟩, hw, wp, p0, p1, hQ⟩ := h
    have hwd := hw.wid
    have hh := hw.high
    refine ⟨_, (pss_cons (ps_asg (pe_cm (pv 0) T.cl c_Floor_row_and_column (hr.mono (by decide)) (pa_cons (pv 1) pa_nil)) (pg_tup (by rfl) (pgs_cons (pg_name (i := 2) scquarter_place.nd rfl (Or.inl rfl)) (pgs_cons (pg_name (i := 3) scquarter_place.nd rfl (Or.inl rfl)) pgs_nil))))
      (pss_one (ps_ret (pe_op op_sub (pe_op op_sub (pe_op op_add (pe_op op_mul (pv 3) (pe_fld (pv 0) rfl)) (pe_fld (pv 0) rfl)) pe_int) (pv 2))))), ?_⟩
    have nR : (flds lr ws df (g (topP ws))).lookup ("row_and_column" : Str) = none := flds_no _ _ _ _ (by decide +kernel) (by decide +kernel) (by decide +kernel) (by decide +kernel)
    refine ⟨_, rfl, x, dx, _, rfl, fa.ob, nR, _, rfl, x, dx, lr, df, g, ws, p, rfl, fa, wp, hwd, fun t H1 s1 ht h1t => ?_⟩
    refine ⟨t, _, rfl, SqT.of h1t, rfl, _, _, rfl, _, _, rfl, rfl, ?_⟩
    have fa1 := fa.same s1
    have m1 := Int.emod_nonneg p (show ((wide ws : Nat) : Int) ≠ 0 by omega)
    have m2 := Int.emod_lt_of_pos p (show (0 : Int) < ((wide ws : Nat) : Int) by omega)
    exact ⟨_, rfl, _, rfl, x, C, dx, _, _, rfl, fa1.ob, T.cl, T.nH, flds_high _ _ _ _, _, _, rfl, rfl, .inl ⟨by omega, by omega⟩, _, rfl, x, C, dx, _, _, rfl, fa1.ob, T.cl, T.nH, flds_high _ _ _ _, _, _, rfl, rfl, _, _, rfl, rfl, _, rfl, _, _, rfl, rfl, hQ H1 s1⟩
theorem scquarter : FnScope ["floor", "up", "rows", "column", "row"] ["floor"] (defScope squarter) := ⟨rfl, rfl, rfl, by decide +kernel, rfl, by decide +kernel, by decide +kernel⟩
theorem ok_quarter (D : Df K mg "quarter" squarter ["floor"]) (B : Bi mg) (T : FTxt K mg C) (gTURNED : mg "TURNED" = some (.ref t9)) (TN : TrnAt K w t9) (c_Floor_sign : Cm P w K mg base CX0 2 C "sign" ["self", "row", "column"] (spSign C))
    (c_Floor : Cn P w K mg base 4 C "Floor" ["self", "rows"] (spInit K Pt C)) : Cl P w K mg base CX0 6 "quarter" ["floor"] (spQuarter K Pt C) := D.cl fun f fd F => by
  refine F.ok scquarter (fun vs H Q E h => ?_) (fun cdv A outer s H vs Q E hr h => ?_)
  · obtain ⟨x, df, ws, rfl, _⟩ := h
    rfl
  · obtain ⟨x, df, ws, rfl, ⟨dx, lr, g, fa⟩, hw, hT, hQ⟩ := h
    have hwd := hw.wid
    have hh := hw.high
    have nG : (flds lr ws df (g (topP ws))).lookup ("sign" : Str) = none := flds_no _ _ _ _ (by decide +kernel) (by decide +kernel) (by decide +kernel) (by decide +kernel)
    refine ⟨_, (pss_cons (ps_set (i := 1) scquarter.nd rfl (Or.inr rfl) (pe_callTy Gc.cr_range3v (by rfl) B.range (by decide +kernel) (pa_cons (pe_op op_sub (pe_fld (pv 0) rfl) pe_int) (pa_cons (pe_un un_neg pe_int) (pa_cons (pe_un un_neg pe_int) pa_nil)))))
      (pss_cons (ps_setLc (i := 2) (own := [("column", 3)]) (g := gName 3) (tt := tYes) rfl scquarter.nd rfl rfl (sw_true rfl rfl rfl (by decide +kernel)) (pi_range1 rfl B.range (pa_cons (pe_fld (pv 0) rfl) pa_nil)) (blkOk_by (N := ["floor", "up", "rows", "column", "row"]) (sc := defScope squarter) (by decide +kernel)) (fun _ _ _ _ _ => pg_name (i := 3) scquarter.nd rfl (Or.inr rfl)) (fun _ _ _ _ _ => pts_nil) (fun _ _ _ _ _ => (Gc.pe_joinK (K := K) (by rfl) pe_str (by exact (pe_lc (own := [("row", 4)]) (g := gName 4) (tt := tYes) rfl scquarter.nd (Gc.pi_rgv (pv 1)) (Gc.blkOk_in (N := ["floor", "up", "rows", "column", "row"]) (sc0 := defScope squarter) rfl (by decide +kernel)) (fun _ _ _ _ _ => pg_name (i := 4) scquarter.nd rfl (Or.inl rfl)) (fun _ _ _ _ _ => pts_nil) (fun _ _ _ _ _ => (pe_ix (show IxR _ (rIxD K w) from ix_kdict) (pe_glob (v := .ref t9) rfl gTURNED rfl) (pe_cm (pv 0) T.cl c_Floor_sign (hr.mono (by decide)) (pa_cons (pv 4) (pa_cons (pv 3) pa_nil))) (fun _ _ => rfl))))) (by rfl) (by rfl) (by rfl))))
      (pss_one (ps_ret (pe_cn c_Floor (hr.mono (by decide)) rfl (pa_cons (pv 2) pa_nil)))))), ?_⟩
    refine ⟨_, rfl, x, C, dx, _, _, rfl, fa.ob, T.cl, T.nH, flds_high _ _ _ _, _, _, rfl, rfl, _, rfl, _, rfl, _, _, _, rfl, by decide, by decide, fun up hup => ?_⟩
    have s1 : Same H (upd H up (RgO up ((ws.length : Int) - 1) (-1) (-1))) := same_new hup
    have u1 : (upd H up (RgO up ((ws.length : Int) - 1) (-1) (-1))) up = some (RgO up ((ws.length : Int) - 1) (-1) (-1)) := upd_same
    generalize upd H up (RgO up ((ws.length : Int) - 1) (-1) (-1)) = H1 at s1 u1
    have fa1 := fa.same s1
    refine ⟨_, rfl, x, C, dx, _, _, rfl, fa1.ob, T.cl, T.nW, flds_wide _ _ _ _, _, rfl, by omega, by omega, fun D1 hD1 => ?_⟩
    refine lc_valsR (n := wide ws) (i := 3) (f := fun (c : Nat) => V.str (qrow ws c)) hD1 (by omega) ?_ ?_
    · intro c H2 hc s2 R hR
      refine ⟨⟨_, rfl⟩, _, rfl, up, _, _, _, ws.length, rfl, s2 _ _ u1, ?rg, fun D3 hD3 => ?_⟩
      case rg =>
        have q := RgC.neg (i := (ws.length : Int) - 1) (j := -1) (by omega) (by omega) (by decide) (by decide)
        rw [show ((ws.length : Int) - 1 - -1).toNat = ws.length from by omega] at q
        exact q
      refine lc_valsC (n := ws.length) (i := 4) (f := fun (k : Nat) => V.str (sg1 (turnC (signAt ws (ws.length - 1 - k) c)))) hD3 (by omega) ?_ ?_
      · intro k H4 hk s4 R2 hR2
        have s14 := (s1.trans s2).trans s4
        have fa4 := fa.same s14
        have eI : (ws.length : Int) - 1 + ((k : Nat) : Int) * -1 = ((ws.length - 1 - k : Nat) : Int) := by omega
        have kr : ws.length - 1 - k < ws.length := by omega
        have ok := hw.sign _ (List.mem_of_getElem? (row_at kr)) _ (List.mem_of_getElem? (sign_at hw kr hc))
        refine ⟨_, rfl, x, dx, _, rfl, fa4.ob, nG, _, rfl, _, rfl, x, df, ws, _, _, rfl, ⟨dx, lr, g, fa4⟩, hw, ?_⟩
        rw [eI, sgN_in kr hc]
        exact ⟨t9, _, _, rfl, rfl, TN.at ok, hR2 H4 (Same.refl _)⟩
      · intro H4 s4 h4
        have e : (List.range ws.length).map (fun (k : Nat) => V.str (sg1 (turnC (signAt ws (ws.length - 1 - k) c)))) = (((List.range ws.length).map fun k => turnC (signAt ws (ws.length - 1 - k) c)).map sg1).map V.str := by
          rw [List.map_map, List.map_map]
          rfl
        rw [e] at h4
        refine ⟨_, D3, _, rfl, rfl, .inl (SqL.of h4), ?_, ?_⟩
        · rw [sums1, List.length_map, List.length_range]
          omega
        · rw [← qrow_join]
          exact hR H4 s4
    intro H2 s2 h2
    have e : (List.range (wide ws)).map (fun (c : Nat) => V.str (qrow ws c)) = (qrt ws).map V.str := by
      unfold qrt
      rw [List.map_map]
      rfl
    rw [e] at h2
    have s02 := s1.trans s2
    have hT2 := (Sm.of s02 (P := Pt)).t hT
    refine ⟨_, rfl, ?_⟩
    intro x2 dx2 hx ndx nex
    refine mk_floor (SqL.of h2) (qrt_wf hw) hT2 hx ndx nex fun df2 H4 m4 hT4 hdf fl => ?_
    refine ⟨rfl, ?_⟩
    exact hQ x2 df2 H4 ((Sm.of s02).trans m4) hT4 fl
def spLQuarter (K : PySem.W.Frag) : Sp := fun vs H Q _ => ∃ (l : Addr) (ws : List Str), vs = [.ref l] ∧ SqL K H l (ws.map V.str) ∧ Wf ws ∧ ∀ (l2 : Addr) (H' : Hp), Same H H' → H l2 = none → H' l2 = some (.lst ((qrt ws).map V.str)) → Q (.ref l2) H'
def turnV (c : Nat) : V → V
  | .str z => .str (sg1 (turnC (z.cps.getD c 35)))
  | v => v
theorem find_turn {n : Nat} (h : okSign n) : ∃ j : Nat, Txt.find ("-|.#" : Str) (sg1 n) = (j : Int) ∧ ("|-.#" : Str).cps.toList[j]? = some (turnC n) := by
  rcases h with rfl | rfl | rfl | rfl
  · exact ⟨2, by decide +kernel, by decide +kernel⟩
  · exact ⟨0, by decide +kernel, by decide +kernel⟩
  · exact ⟨1, by decide +kernel, by decide +kernel⟩
  · exact ⟨3, by decide +kernel, by decide +kernel⟩
theorem rev_rows (ws : List Str) (c : Nat) : ((ws.map V.str).map (turnV c)).reverse = (((List.range ws.length).map fun k => turnC (signAt ws (ws.length - 1 - k) c)).map sg1).map V.str := by
  apply List.ext_getElem?
  intro j
  by_cases hj : j < ws.length
  · have hr : ws.length - 1 - j < ws.length := by omega
    rw [List.getElem?_reverse (by rw [List.length_map, List.length_map]; exact hj), List.length_map, List.length_map, List.getElem?_map, List.getElem?_map, row_at hr, List.getElem?_map, List.getElem?_map, List.getElem?_map, List.getElem?_range hj]
    rfl
  · rw [List.getElem?_eq_none (by rw [List.length_reverse, List.length_map, List.length_map]; omega), List.getElem?_eq_none (by rw [List.length_map, List.length_map, List.length_map, List.length_range]; omega)]
theorem sc_law_quarter : FnScope ["_law_rows_here", "_law_wide", "_law_made", "_law_column", "_law_signs", "_law_row"] ["_law_rows_here"] (defScope s_law_quarter) := ⟨rfl, rfl, rfl, by decide +kernel, rfl, by decide +kernel, by decide +kernel⟩
theorem ok_lquarter (D : Df K mg "_law_quarter" s_law_quarter ["_law_rows_here"]) (B : Bi mg) : Cl P w K mg base CX0 1 "_law_quarter" ["_law_rows_here"] (spLQuarter K) := D.cl fun f fd F => by
  refine F.ok sc_law_quarter (fun vs H Q E h => ?_) (fun cdv A outer s H vs Q E hr h => ?_)
  · obtain ⟨l, ws, rfl, _⟩ := h
    rfl
  · obtain ⟨l, ws, rfl, hS, hw, hQ⟩ := h
    have hwd := hw.wid
    have hh := hw.high
    refine ⟨_, (C8.pss_cut (ps_set (i := 1) sc_law_quarter.nd rfl (Or.inl rfl) (pe_ifExp (pt_cmpR op_gt (pe_callB call_len (by rfl) B.len PySem.boot_len (pa_cons (pv 0) pa_nil)) pe_int (nomark _)) (pe_callB call_len_str (by rfl) B.len PySem.boot_len (pa_cons (pe_ix ix_list (pv 0) pe_int (fun _ _ => rfl)) pa_nil)) pe_int))
      (pss_cons (ps_set (i := 2) sc_law_quarter.nd rfl (Or.inl rfl) (pe_lst pa_nil))
      (pss_cons (ps_for PassesOwn.never rfl (pi_range1 rfl B.range (pa_cons (pv 1) pa_nil)) (pg_name (i := 3) sc_law_quarter.nd rfl (Or.inr rfl)) (pss_cons (ps_setLc (i := 4) (own := [("_law_row", 5)]) (g := gName 5) (tt := tYes) rfl sc_law_quarter.nd rfl rfl (sw_true rfl rfl rfl (by decide +kernel)) (pi_list (pv 0)) (blkOk_by (N := ["_law_rows_here", "_law_wide", "_law_made", "_law_column", "_law_signs", "_law_row"]) (sc := defScope s_law_quarter) (by decide +kernel)) (fun _ _ _ _ _ => pg_name (i := 5) sc_law_quarter.nd rfl (Or.inl rfl)) (fun _ _ _ _ _ => pts_nil) (fun _ _ _ _ _ => (pe_ix ix_str pe_str (pe_m1 PySem.F.slot_str_find PySem.F.type_str_find mt_find pe_str (pe_ix ix_str (pv 5) (pv 3) (fun _ _ => rfl))) (fun _ _ => rfl))))
      (pss_one (ps_expr (pe_bm PySem.F.plainAttrs_list PySem.F.slot_list_append PySem.F.type_list_append mt_append (pv 2) (pa_cons (pe_join pe_str (Gc.pe_lstRv rfl (by rfl) B.list (by rfl) B.reversed (pv 4))) pa_nil))))))
      (pss_one (ps_ret (pv 2)))))), ?_⟩
    refine ⟨fun σ' H' => σ' = [some (.ref l), some (.int (wide ws)), none, none, none, none] ∧ H = H', ?_, ?_⟩
    · refine ⟨_, rfl, _, _, rfl, .inl ⟨_, hS, rfl⟩, _, _, rfl, rfl, _, rfl, ?_⟩
      rw [List.length_map]
      cases ws with
      | nil =>
        refine iteF ?_
        have e0 : wide ([] : List Str) = 0 := empty_len
        rw [e0]
        exact ⟨rfl, rfl⟩
      | cons a r =>
        refine iteTd (by rw [List.length_cons]; omega) ?_
        have ea : wide (a :: r) = a.length := rfl
        refine ⟨_, rfl, _, _, _, _, rfl, rfl, hS, atI_nat (j := 0) rfl, a, rfl, Nat.le_trans (by rw [← ea]; exact hwd) (by decide), rfl, rfl⟩
    rintro _ _ ⟨rfl, rfl⟩
    refine ⟨(by show 0 ≤ sizeLine; decide), fun lM hlM => ?_⟩
    have s1 : Same H (upd H lM (.lst [])) := same_new hlM
    refine ⟨_, rfl, _, rfl, by omega, by omega, for_range (n := wide ws) (fun i σ Hn => ∃ v3 v4 : Option V, σ = [some (.ref l), some (.int (wide ws)), some (.ref lM), v3, v4, none] ∧ Same H Hn ∧ Hn lM = some (.lst (((List.range i).map (qrow ws)).map V.str)))
      ⟨none, none, rfl, s1, upd_same⟩ ?_ ?_⟩
    · rintro c σ Hn hc ⟨v3, v4, rfl, sn, hn⟩
      have z2 : (0 : Int) + ((c : Nat) : Int) = ((c : Nat) : Int) := Int.zero_add _
      refine ⟨_, rfl, l, rfl, ⟨_, sn.seq hS⟩, fun D hD => ?_⟩
      have nMD : lM ≠ D := ne_of_none hn hD
      refine lc_valsL (i := 5) (f := turnV c) (sn.seq hS) hD (by rw [List.length_map]; omega) ?_ ?_
      · intro x H3 hx s3 R hR
        obtain ⟨z, hz, rfl⟩ := List.mem_map.mp hx
        obtain ⟨r, hr⟩ := List.mem_iff_getElem?.mp hz
        have rl := (List.getElem?_eq_some_iff.mp hr).1
        have ez : ws.getD r ("" : Str) = z := by
          have q := row_at rl
          rw [hr] at q
          exact (Option.some.inj q).symm
        have sa := sign_at hw rl hc
        rw [ez] at sa
        have ok := hw.sign z hz _ (List.mem_of_getElem? sa)
        have zl : z.length ≤ sizeLine := Nat.le_trans (by rw [hw.len z hz]; exact hwd) (by decide)
        obtain ⟨j, fj, aj⟩ := find_turn ok
        have tv : turnV c (V.str z) = V.str (sg1 (turnC (signAt ws r c))) := by
          show V.str (sg1 (turnC (z.cps.getD c 35))) = _
          unfold signAt
          rw [ez]
        have q := hR H3 (Same.refl _)
        rw [tv] at q
        refine ⟨⟨_, rfl⟩, _, rfl, _, rfl, z, _, _, rfl, rfl, zl, by rw [z2]; exact atI_nat sa, _, _, rfl, rfl, ?_⟩
        exact ⟨_, _, _, rfl, rfl, (by decide +kernel), by rw [show (⟨#[signAt ws r c]⟩ : Str) = sg1 (signAt ws r c) from rfl, fj]; exact atI_nat aj, q⟩
      intro H3 s3 h3
      have s03 := sn.trans s3
      have n3 := s3 _ _ hn
      refine ⟨_, rfl, .inl ⟨rfl, _, SqL.of n3⟩, ⟨_, rfl⟩, _, rfl, D, _, rfl, SqL.of h3, fun q hq => ?_⟩
      rw [rev_rows]
      have nq : lM ≠ q := ne_of_none n3 hq
      refine ⟨_, q, _, rfl, rfl, .inl (SqL.of upd_same), ?_, ?_⟩
      · rw [sums1, List.length_map, List.length_range]
        omega
      · rw [← qrow_join]
        refine ⟨lM, _, _, rfl, rfl, by rw [upd_ne nq]; exact n3, (by rw [List.length_map, List.length_map, List.length_range]; exact small1000 (by omega)), ?_⟩
        refine ⟨_, _, rfl, same_off (same_off s03 (none_back s03 hq)) hlM, ?_⟩
        rw [upd_same, List.range_succ, List.map_append, List.map_append]
        rfl
    · rintro σ Hn ⟨v3, v4, rfl, sn, hn⟩
      exact ⟨_, rfl, hQ lM Hn sn hlM hn⟩
end
end Sf
namespace Sf
open PySem L2
section
variable {P : Program} {w : World} {K : PySem.W.Frag} {mg : Str → Option Value} {base : Heap}
theorem scWhole : FnScope ["_law_found"] ["_law_found"] (defScope s_law_whole) := ⟨rfl, rfl, rfl, by decide +kernel, rfl, by decide +kernel, by decide +kernel⟩
theorem ok_whole {f : Addr} {fd : FuncData} (F : Fun K "_law_whole" "_law_whole" s_law_whole f fd) (gI : mg "isinstance" = none) (gi : mg "int" = none) (gb : mg "bool" = none) : FnOk P w K mg base CX0 1 f fd ["_law_found"] spWhole := by
  refine F.ok scWhole (fun vs H Q E h => ?_) (fun cdv A outer s H vs Q E hr h => ?_)
  · obtain ⟨i, rfl, _⟩ := h
    rfl
  · obtain ⟨i, rfl, hQ⟩ := h
    refine ⟨_, pss_one (ps_ret (pe_and (pe_callB call_isi (by rfl) gI PyProof.Rows.boot_isinstance (pa_cons (pv 0) (pa_cons (pe_bltn (v := .ty "int") (by rfl) gi PyProof.Rows.boot_int rfl) pa_nil)))
      (pe_one (pe_not (pe_callB call_isi (by rfl) gI PyProof.Rows.boot_isinstance (pa_cons (pv 0) (pa_cons (pe_bltn (v := .ty "bool") (by rfl) gb PyProof.Rows.boot_bool rfl) pa_nil))))))), ?_⟩
    refine ⟨_, rfl, .int i, .ty "int", .type "int", .type "int", true, rfl, .ty _, .base (.int i), kit_ty (by decide +kernel), _, rfl, ?_⟩
    refine iteT ?_
    exact ⟨_, rfl, .int i, .ty "bool", .type "int", .type "bool", false, rfl, .ty _, .base (.int i), kit_ty (by decide +kernel), _, rfl, hQ⟩
end
end Sf
namespace Sf
open PySem L2
section
variable {P : Program} {w : World} {K : PySem.W.Frag} {mg : Str → Option Value} {base : Heap}
def nListed : List Str := ["_law_found", "_law_due", "_law_one"]
theorem scListed : FnScope nListed ["_law_found", "_law_due"] (defScope s_law_listed) := ⟨rfl, rfl, rfl, by decide +kernel, rfl, by decide +kernel, by decide +kernel⟩
theorem ok_listed {f fw : Addr} {fd fdw : FuncData} (F : Fun K "_law_listed" "_law_listed" s_law_listed f fd) (GW : FnOk P w K mg base CX0 1 fw fdw ["_law_found"] spWhole) (gW : mg "_law_whole" = some (.ref fw)) (kW : PySem.W.keepIn K (.ref fw) = true) (bW : Binds K fdw ["_law_found"] [])
    (gI : mg "isinstance" = none) (gl : mg "list" = none) (gL : mg "len" = none) : FnOk P w K mg base CX0 2 f fd ["_law_found", "_law_due"] (spListed K) := by
  refine F.ok scListed (fun vs H Q E h => ?_) (fun cdv A outer s H vs Q E hr h => ?_)
  · obtain ⟨a, b, xs, rfl, _⟩ := h
    rfl
  · obtain ⟨a, b, xs, rfl, ha, hb, hQ⟩ := h
    refine ⟨_, pss_cons (ps_if (PW.pt (pw_or (pt_not (pt_val (pe_callB call_isi (by rfl) gI PyProof.Rows.boot_isinstance (pa_cons (pv 0) (pa_cons (pe_bltn (v := .ty "list") (by rfl) gl PySem.Pv.boot_list rfl) pa_nil))))) (pw_or1 (pt_cmpR op_ne (pe_callB call_len (by rfl) gL PySem.boot_len (pa_cons (pv 0) pa_nil)) (pe_callB call_len (by rfl) gL PySem.boot_len (pa_cons (pv 1) pa_nil)) (nomark _))))) (pss_one (ps_ret pe_bl)) pss_nil)
      (pss_cons (ps_for PassesOwn.never rfl (pi_list (pv 0)) (pg_name (i := 2) scListed.nd rfl (Or.inl rfl)) (pss_one (ps_if (pt_not (pt_val (pe_call GW hr rfl gW kW bW .nil pass0 (pa_cons (pv 2) pa_nil)))) (pss_one (ps_ret pe_bl)) pss_nil)))
      (pss_one (ps_ret (pe_cmpR (op_eqD hr.units) (pv 0) (pv 1) (nomark _))))), ?_⟩
    refine ⟨_, rfl, .ref a, .ty "list", .type "list", .type "list", true, rfl, .ty _, .base (.lst ha), kit_ty (by decide +kernel), _, rfl, ?_⟩
    refine ⟨_, rfl, _, _, rfl, .inl ⟨_, SqL.of ha, rfl⟩, _, rfl, _, _, rfl, .inl ⟨_, hb, rfl⟩, rfl, _, rfl, ?_⟩
    refine iteNS rfl ?_
    refine ⟨_, rfl, a, rfl, ⟨_, SqL.of ha⟩, for_list (K := K) (a := a) (xs := xs.map V.int) (fun i σ H2 => ∃ v : Option V, σ = [some (.ref a), some (.ref b), v] ∧ H2 = H) ⟨none, rfl, rfl⟩ (fun i σ H2 _ ⟨_, _, e⟩ => by rw [e]; exact SqL.of ha) ?_ ?_⟩
    · rintro i y σ H2 hi ⟨v, rfl, rfl⟩
      obtain ⟨z, rfl⟩ : ∃ z, y = V.int z := by
        rw [List.getElem?_map] at hi
        cases e : xs[i]? with
        | none => rw [e] at hi; cases hi
        | some z => rw [e] at hi; exact ⟨z, (Option.some.inj hi).symm⟩
      refine ⟨_, rfl, z, rfl, _, rfl, ?_⟩
      exact ⟨_, rfl, rfl⟩
    · rintro σ H2 ⟨v, rfl, rfl⟩
      refine ⟨_, rfl, _, rfl, _, _, .lst (SqL.of ha) (dp_ints xs), .lst hb (dp_ints xs), ?_, ?_, ?_⟩
      · exact shaped_ints xs
      · exact shaped_ints xs
      · rw [SeqAt.eqv_refl _ (SeqAt.canLay_of_shaped (shaped_ints xs))]
        exact hQ
end
end Sf
namespace Sf
open PySem L2
def spTruth : Sp := fun vs H Q _ => ∃ b : Bool, vs = [.bl b, .bl b] ∧ Q (.bl true) H
section
variable {P : Program} {w : World} {K : PySem.W.Frag} {mg : Str → Option Value} {base : Heap}
theorem scTruth : FnScope ["_law_found", "_law_due"] ["_law_found", "_law_due"] (defScope s_law_truth) := ⟨rfl, rfl, rfl, by decide +kernel, rfl, by decide +kernel, by decide +kernel⟩
theorem ok_truth {f : Addr} {fd : FuncData} (F : Fun K "_law_truth" "_law_truth" s_law_truth f fd) : FnOk P w K mg base CX0 1 f fd ["_law_found", "_law_due"] spTruth := by
  refine F.ok scTruth (fun vs H Q E h => ?_) (fun cdv A outer s H vs Q E hr h => ?_)
  · obtain ⟨b, rfl, _⟩ := h
    rfl
  · obtain ⟨b, rfl, hQ⟩ := h
    refine ⟨_, pss_cons (ps_if (pt_val (pv 1)) (pss_one (ps_ret (pe_cmpR op_isBl (pv 0) pe_bl (nomark _)))) pss_nil) (pss_one (ps_ret (pe_cmpR op_isBl (pv 0) pe_bl (nomark _)))), ?_⟩
    refine ⟨_, rfl, _, rfl, ?_⟩
    cases b with
    | true =>
      refine iteT ?_
      exact ⟨_, rfl, _, _, rfl, rfl, hQ⟩
    | false =>
      refine iteF ?_
      exact ⟨_, rfl, _, _, rfl, rfl, hQ⟩
end
end Sf
namespace Sf
open PySem L2
def spLMay (K : PySem.W.Frag) : Sp := fun vs H Q _ => ∃ (l : Addr) (ws : List Str) (i j : Int), vs = [.ref l, .int i, .int j] ∧ SqL K H l (ws.map V.str) ∧ Wf ws ∧ Q (.bl (lmay ws i j)) H
theorem iteNot {c A B : Prop} [Decidable c] (h1 : c → B) (h2 : ¬ c → A) : if (!decide c) = true then A else B := by
  by_cases h : c
  · rw [decide_eq_true h]
    exact iteF (h1 h)
  · rw [decide_eq_false h]
    exact iteT (h2 h)
theorem abs_one (n : Int) : (V.int (if n < 0 then -n else n) = V.int 1) ↔ n.natAbs = 1 := by
  constructor
  · intro q
    have q := V.int.inj q
    split at q <;> omega
  · intro q
    congr 1
    split <;> omega
section
variable {P : Program} {w : World} {K : PySem.W.Frag} {mg : Str → Option Value} {base : Heap}
def nLMay : List Str := ["_law_rows_here", "_law_one", "_law_other", "_law_wide", "_law_a", "_law_b"]
theorem scLMay : FnScope nLMay ["_law_rows_here", "_law_one", "_law_other"] (defScope s_law_may) := ⟨rfl, rfl, rfl, by decide +kernel, rfl, by decide +kernel, by decide +kernel⟩
theorem ok_lmay {f : Addr} {fd : FuncData} (F : Fun K "_law_may" "_law_may" s_law_may f fd) (gL : mg "len" = none) (gA : mg "abs" = none) : FnOk P w K mg base CX0 1 f fd ["_law_rows_here", "_law_one", "_law_other"] (spLMay K) := by
  refine F.ok scLMay (fun vs H Q E h => ?_) (fun cdv A outer s H vs Q E hr h => ?_)
  · obtain ⟨l, ws, i, j, rfl, _⟩ := h
    rfl
  · obtain ⟨l, ws, i, j, rfl, hS, hw, hQ⟩ := h
    have hh := hw.high
    have hwd := hw.wid
    refine ⟨_, C8.pss_cut (ps_set (i := 3) scLMay.nd rfl (Or.inl rfl) (pe_ifExp (pt_cmpR op_gt (pe_callB call_len (by rfl) gL PySem.boot_len (pa_cons (pv 0) pa_nil)) pe_int (nomark _)) (pe_callB call_len_str (by rfl) gL PySem.boot_len (pa_cons (pe_ix ix_list (pv 0) pe_int (fun _ _ => rfl)) pa_nil)) pe_int))
      (pss_cons (ps_if (PW.pt (pw_or (pt_not (pt_chain op_le op_lt pe_int (pv 1) (pe_op op_mul (pv 3) (pe_callB call_len (by rfl) gL PySem.boot_len (pa_cons (pv 0) pa_nil))))) (pw_or1 (pt_not (pt_chain op_le op_lt pe_int (pv 2) (pe_op op_mul (pv 3) (pe_callB call_len (by rfl) gL PySem.boot_len (pa_cons (pv 0) pa_nil)))))))) (pss_one (ps_ret pe_bl)) pss_nil)
      (pss_cons (ps_set (i := 4) scLMay.nd rfl (Or.inl rfl) (pe_ix ix_str (pe_ix ix_list (pv 0) (pe_op op_fdiv (pv 1) (pv 3)) (fun _ _ => rfl)) (pe_op op_mod (pv 1) (pv 3)) (fun _ _ => rfl)))
      (pss_cons (ps_set (i := 5) scLMay.nd rfl (Or.inl rfl) (pe_ix ix_str (pe_ix ix_list (pv 0) (pe_op op_fdiv (pv 2) (pv 3)) (fun _ _ => rfl)) (pe_op op_mod (pv 2) (pv 3)) (fun _ _ => rfl)))
      (C8.pss_cut (ps_if (PW.pt (pw_and (pt_cmpR op_eq (pe_op op_fdiv (pv 1) (pv 3)) (pe_op op_fdiv (pv 2) (pv 3)) (nomark _)) (pw_and1 (pt_cmpR op_eq (pe_callB call_abs (by rfl) gA PyProof.Rows.boot_abs (pa_cons (pe_op op_sub (pv 1) (pv 2)) pa_nil)) pe_int (nomark _)))))
        (pss_one (ps_ret (pe_and (pe_cmpR op_in_sign (pv 4) pe_str (by rfl)) (pe_one (pe_cmpR op_in_sign (pv 5) pe_str (by rfl)))))) pss_nil)
      (C8.pss_cut (ps_if (PW.pt (pw_and (pt_cmpR op_eq (pe_op op_mod (pv 1) (pv 3)) (pe_op op_mod (pv 2) (pv 3)) (nomark _)) (pw_and1 (pt_cmpR op_eq (pe_callB call_abs (by rfl) gA PyProof.Rows.boot_abs (pa_cons (pe_op op_sub (pe_op op_fdiv (pv 1) (pv 3)) (pe_op op_fdiv (pv 2) (pv 3))) pa_nil)) pe_int (nomark _)))))
        (pss_one (ps_ret (pe_and (pe_cmpR op_in_sign (pv 4) pe_str (by rfl)) (pe_one (pe_cmpR op_in_sign (pv 5) pe_str (by rfl)))))) pss_nil)
      (pss_one (ps_ret pe_bl))))))), ?_⟩
    refine ⟨fun σ' H' => σ' = [some (.ref l), some (.int i), some (.int j), some (.int (wide ws)), none, none] ∧ H' = H, ?_, ?_⟩
    · refine ⟨_, rfl, _, _, rfl, .inl ⟨_, hS, rfl⟩, _, _, rfl, rfl, _, rfl, ?_⟩
      rw [List.length_map]
      cases ws with
      | nil =>
        refine iteF ?_
        have e0 : wide ([] : List Str) = 0 := empty_len
        rw [e0]
        exact ⟨rfl, rfl⟩
      | cons a r =>
        refine iteTd (by rw [List.length_cons]; omega) ?_
        have ea : wide (a :: r) = a.length := rfl
        refine ⟨_, rfl, _, _, _, _, rfl, rfl, hS, atI_nat (j := 0) rfl, a, rfl, Nat.le_trans (by rw [← ea]; exact hwd) (by decide), rfl, rfl⟩
    · rintro _ H' ⟨rfl, rfl⟩
      have eN : ((wide ws : Nat) : Int) * ((ws.length : Nat) : Int) = ((wide ws * ws.length : Nat) : Int) := (Int.natCast_mul _ _).symm
      have out : ∀ h : ¬ (0 ≤ i ∧ i < ((wide ws * ws.length : Nat) : Int) ∧ 0 ≤ j ∧ j < ((wide ws * ws.length : Nat) : Int)), Q (.bl false) H' := fun h => by
        have e : lmay ws i j = false := by
          unfold lmay
          rw [if_neg h]
        rw [e] at hQ
        exact hQ
      refine ⟨_, rfl, _, _, rfl, rfl, _, rfl, ?_⟩
      refine ite2 (fun i0 => ?_) (fun i0 => ?ee)
      case ee => exact ⟨false, rfl, out fun q => i0 (decide_eq_true q.1)⟩
      refine ⟨_, rfl, _, rfl, _, _, rfl, .inl ⟨_, hS, rfl⟩, _, _, rfl, rfl, .inl ⟨by omega, by omega⟩, _, _, rfl, rfl, _, rfl, ?_⟩
      rw [List.length_map, eN]
      refine iteNot (fun i1 => ?_) (fun i1 => ?ee)
      case ee => exact out fun q => i1 q.2.1
      refine ⟨_, rfl, _, _, rfl, rfl, _, rfl, ?_⟩
      refine ite2 (fun j0 => ?_) (fun j0 => ?ee)
      case ee => exact ⟨false, rfl, out fun q => j0 (decide_eq_true q.2.2.1)⟩
      refine ⟨_, rfl, _, rfl, _, _, rfl, .inl ⟨_, hS, rfl⟩, _, _, rfl, rfl, .inl ⟨by omega, by omega⟩, _, _, rfl, rfl, _, rfl, ?_⟩
      rw [List.length_map, eN]
      refine iteNot (fun j1 => ?_) (fun j1 => ?ee)
      case ee => exact out fun q => j1 q.2.2.2
      have i0' : 0 ≤ i := of_decide_eq_true i0
      have j0' : 0 ≤ j := of_decide_eq_true j0
      have el : lmay ws i j = if i / (wide ws : Int) = j / (wide ws : Int) ∧ (i - j).natAbs = 1 then tk ".-" (atP ws i.toNat) && tk ".-" (atP ws j.toNat)
          else if i % (wide ws : Int) = j % (wide ws : Int) ∧ (i / (wide ws : Int) - j / (wide ws : Int)).natAbs = 1 then tk ".|" (atP ws i.toNat) && tk ".|" (atP ws j.toNat) else false := by
        unfold lmay
        rw [if_pos ⟨i0', i1, j0', j1⟩]
      rw [el] at hQ
      obtain ⟨r, c, hr1, hc1, ei, d1, m1, a1, _, _⟩ := place i0' i1
      obtain ⟨r', c', hr2, hc2, ej, d2, m2, a2, _, _⟩ := place j0' j1
      have hw0 : (0 : Int) < ((wide ws : Nat) : Int) := by omega
      have hw1 : ((wide ws : Nat) : Int) < 1073741824 := by omega
      have sz : ∀ n, n < ws.length → (ws.getD n ("" : Str)).length ≤ sizeLine := fun n hn => Nat.le_trans (by rw [hw.rlen hn]; exact hwd) (by decide)
      refine ⟨_, rfl, _, rfl, _, rfl, _, _, rfl, rfl, ⟨hw0, hw1⟩, _, _, _, _, rfl, rfl, hS, by rw [d1]; exact atI_nat (str_at hr1), _, rfl, _, rfl, _, _, rfl, rfl, hw0, _, _, _, rfl, rfl, sz r hr1, by rw [m1]; exact atI_nat (sign_at hw hr1 hc1), ?_⟩
      refine ⟨_, rfl, _, rfl, _, rfl, _, _, rfl, rfl, ⟨hw0, hw1⟩, _, _, _, _, rfl, rfl, hS, by rw [d2]; exact atI_nat (str_at hr2), _, rfl, _, rfl, _, _, rfl, rfl, hw0, _, _, _, rfl, rfl, sz r' hr2, by rw [m2]; exact atI_nat (sign_at hw hr2 hc2), ?_⟩
      rw [a1, a2] at hQ
      -- the first test
      have veq : ∀ a b : Int, (V.int a = V.int b) ↔ a = b := fun a b => ⟨fun q => V.int.inj q, fun q => by rw [q]⟩
      refine ⟨fun σ' H2 => σ' = [some (.ref l), some (.int i), some (.int j), some (.int (wide ws)), some (.str ⟨#[signAt ws r c]⟩), some (.str ⟨#[signAt ws r' c']⟩)] ∧ H' = H2 ∧ ¬ (i / (wide ws : Int) = j / (wide ws : Int) ∧ (i - j).natAbs = 1), ?_, ?_⟩
      · refine ⟨_, rfl, _, rfl, _, _, rfl, rfl, ⟨hw0, hw1⟩, _, rfl, _, rfl, _, _, rfl, rfl, ⟨hw0, hw1⟩, rfl, _, rfl, ?_⟩
        refine ite2 (fun z1 => ?_) (fun z1 => ?ee)
        case ee => exact ⟨rfl, rfl, fun q => z1 (decide_eq_true ((veq _ _).mpr q.1))⟩
        have z1' := (veq _ _).mp (of_decide_eq_true z1)
        refine ⟨_, rfl, _, rfl, _, _, rfl, rfl, _, rfl, rfl, _, rfl, ?_⟩
        refine ite2 (fun z2 => ?_) (fun z2 => ?ee)
        case ee => exact ⟨rfl, rfl, fun q => z2 (decide_eq_true ((abs_one _).mpr q.2))⟩
        have z2' := (abs_one _).mp (of_decide_eq_true z2)
        rw [if_pos ⟨z1', z2'⟩] at hQ
        refine ⟨_, rfl, _, _, rfl, rfl, _, rfl, ?_⟩
        refine ite2 (fun t1 => ?_) (fun t1 => ?_)
        · refine ⟨_, rfl, _, _, rfl, rfl, ?_⟩
          have e : tk ".-" (signAt ws r c) = true := t1
          rw [e, Bool.true_and] at hQ
          exact hQ
        · have e : tk ".-" (signAt ws r c) = false := Bool.eq_false_iff.mpr t1
          rw [e, Bool.false_and] at hQ
          exact hQ
      rintro _ _ ⟨rfl, rfl, nz⟩
      rw [if_neg nz] at hQ
      refine ⟨fun σ' H2 => σ' = [some (.ref l), some (.int i), some (.int j), some (.int (wide ws)), some (.str ⟨#[signAt ws r c]⟩), some (.str ⟨#[signAt ws r' c']⟩)] ∧ H' = H2 ∧ ¬ (i % (wide ws : Int) = j % (wide ws : Int) ∧ (i / (wide ws : Int) - j / (wide ws : Int)).natAbs = 1), ?_, ?_⟩
      · refine ⟨_, rfl, _, rfl, _, _, rfl, rfl, hw0, _, rfl, _, rfl, _, _, rfl, rfl, hw0, rfl, _, rfl, ?_⟩
        refine ite2 (fun z1 => ?_) (fun z1 => ?ee)
        case ee => exact ⟨rfl, rfl, fun q => z1 (decide_eq_true ((veq _ _).mpr q.1))⟩
        have z1' := (veq _ _).mp (of_decide_eq_true z1)
        refine ⟨_, rfl, _, rfl, _, _, rfl, rfl, ⟨hw0, hw1⟩, _, rfl, _, rfl, _, _, rfl, rfl, ⟨hw0, hw1⟩, _, _, rfl, rfl, _, rfl, rfl, _, rfl, ?_⟩
        refine ite2 (fun z2 => ?_) (fun z2 => ?ee)
        case ee => exact ⟨rfl, rfl, fun q => z2 (decide_eq_true ((abs_one _).mpr q.2))⟩
        have z2' := (abs_one _).mp (of_decide_eq_true z2)
        rw [if_pos ⟨z1', z2'⟩] at hQ
        refine ⟨_, rfl, _, _, rfl, rfl, _, rfl, ?_⟩
        refine ite2 (fun t1 => ?_) (fun t1 => ?_)
        · refine ⟨_, rfl, _, _, rfl, rfl, ?_⟩
          have e : tk ".|" (signAt ws r c) = true := t1
          rw [e, Bool.true_and] at hQ
          exact hQ
        · have e : tk ".|" (signAt ws r c) = false := Bool.eq_false_iff.mpr t1
          rw [e, Bool.false_and] at hQ
          exact hQ
      rintro _ _ ⟨rfl, rfl, nz2⟩
      rw [if_neg nz2] at hQ
      exact hQ
end
end Sf
namespace Sf
open PySem PySem.Spec PyProof.Rows L2 Gc
theorem shaped_okD {xs : List Str} (w : Wf xs) : SeqAt.shaped (.list (xs.map PyData.str)) = true := shaped_atoms fun d hd => by
  obtain ⟨a, ha, rfl⟩ := List.mem_map.mp hd
  refine ⟨?_, rfl⟩
  show a.cps.all (· < 0x110000) = true
  rw [← Array.all_toList, List.all_eq_true]
  intro c hc
  have q := w.sign a ha c hc
  unfold okSign at q
  exact decide_eq_true (by omega)
theorem ne_strsD {K : PySem.W.Frag} {H : Hp} {l1 l2 : Addr} {xs : List Str} (h : Wf xs) (h1 : SqL K H l1 (xs.map V.str)) (h2 : SqL K H l2 (xs.map V.str)) {Q : VK} (hQ : Q (.bl false) H) : rNeD K (.ref l1) (.ref l2) H Q := by
  refine ⟨_, _, .lst h1 (dp_strs xs), .lst h2 (dp_strs xs), shaped_okD h, shaped_okD h, ?_⟩
  rw [SeqAt.eqv_refl _ (SeqAt.canLay_of_shaped (shaped_okD h))]
  exact hQ
section
variable {P : Program} {w : World} {K : PySem.W.Frag} {mg : Str → Option Value} {base : Heap} {C CL Pt : Addr}
theorem sclaw : FnScope ["_law_script", "_law_rows_here", "_law_wide", "_law_floor", "_law_found", "_law_due", "_law_again", "_law_place", "_law_places", "_law_other", "_law_told"] ["_law_script"] (defScope slaw) := ⟨rfl, rfl, rfl, by decide +kernel, rfl, by decide +kernel, by decide +kernel⟩
theorem ok_law {f : Addr} {fd_ : FuncData} (F : Fun K "law" "law" slaw f fd_) (B : Bi mg) (T : FTxt K mg C) (L : LTxt K mg CL) (IF : C8.InsC K C)
    (c_law_rows : Cl P w K mg base CX0 2 "_law_rows" ["_law_script"] (spRows K)) (c_Floor : Cn P w K mg base 4 C "Floor" ["self", "rows"] (spInit K Pt C)) (c_quarter : Cl P w K mg base CX0 6 "quarter" ["floor"] (spQuarter K Pt C))
    (c_law_quarter : Cl P w K mg base CX0 1 "_law_quarter" ["_law_rows_here"] (spLQuarter K)) (c_quarter_place : Cl P w K mg base CX0 2 "quarter_place" ["floor", "place"] (spQPlace C)) (c_law_listed : Cl P w K mg base CX0 2 "_law_listed" ["_law_found", "_law_due"] (spListed K))
    (c_Floor_may : Cm P w K mg base CX0 2 C "may" ["self", "one", "other"] (spMay C)) (c_law_may : Cl P w K mg base CX0 1 "_law_may" ["_law_rows_here", "_law_one", "_law_other"] (spLMay K)) (c_law_truth : Cl P w K mg base CX0 1 "_law_truth" ["_law_found", "_law_due"] spTruth)
    (c_laid : Cl P w K mg base CX0 6 "laid" ["floor"] (spLaid C CL)) (c_Laying_bare : Cm P w K mg base CX0 2 CL "bare" ["self"] (spBare0 C CL)) :
    FnOk P w K mg base CX0 7 f fd_ ["_law_script"] (spLaw K Pt) := by
  refine F.ok sclaw (fun vs H Q E h => ?_) (fun cdv A outer s H vs Q E hr h => ?_)
  · obtain ⟨a, ns, rfl, _⟩ := h
    rfl
  · obtain ⟨a, ns, rfl, hS, hl, hT, hQ⟩ := h
    refine ⟨_, (pss_cons (ps_set (i := 1) sclaw.nd rfl (Or.inr rfl) (pe_cl c_law_rows (hr.mono (by decide)) rfl (pa_cons (pv 0) pa_nil)))
      (C8.pss_cut (ps_set (i := 2) sclaw.nd rfl (Or.inr rfl) (pe_ifExp (pt_cmpR op_gt (pe_callB call_len (by rfl) B.len PySem.boot_len (pa_cons (pv 1) pa_nil)) pe_int (nomark _)) (pe_callB call_len_str (by rfl) B.len PySem.boot_len (pa_cons (pe_ix ix_list (pv 1) pe_int (fun _ _ => rfl)) pa_nil)) pe_int))
      (pss_cons (ps_set (i := 3) sclaw.nd rfl (Or.inr rfl) (pe_cn c_Floor (hr.mono (by decide)) rfl (pa_cons (pe_callTy call_list_of (by rfl) B.list (by decide +kernel) (pa_cons (pv 1) pa_nil)) pa_nil)))
      (pss_cons (ps_set (i := 4) sclaw.nd rfl (Or.inl rfl) (pe_cl c_quarter (hr.mono (by decide)) rfl (pa_cons (pv 3) pa_nil)))
      (pss_cons (ps_set (i := 5) sclaw.nd rfl (Or.inl rfl) (pe_cl c_law_quarter (hr.mono (by decide)) rfl (pa_cons (pv 1) pa_nil)))
      (pss_cons (ps_if (PW.pt (pw_or (pt_not (pt_val (pe_callB (C8.call_isC IF) (by rfl) B.isinstance PyProof.Rows.boot_isinstance (pa_cons (pv 4) (pa_cons (pe_glob (v := .ref C) rfl T.mgC rfl) pa_nil))))) (pw_or (pt_cmpR (op_neD hr.units) (pe_fld (pv 4) rfl) (pv 5) (nomark _)) (pw_or1 (pt_cmpR (op_neD hr.units) (pe_fld (pv 3) rfl) (pv 1) (nomark _)))))) (pss_one (ps_ret pe_bl)) pss_nil)
      (pss_cons (ps_set (i := 6) sclaw.nd rfl (Or.inl rfl) (pe_cl c_quarter (hr.mono (by decide)) rfl (pa_cons (pv 4) pa_nil)))
      (pss_cons (ps_if (PW.pt (pw_or (pt_cmpR (op_neD hr.units) (pe_fld (pv 6) rfl) (pe_cl c_law_quarter (hr.mono (by decide)) rfl (pa_cons (pv 5) pa_nil)) (nomark _)) (pw_or1 (pt_cmpR (op_neD hr.units) (pe_fld (pe_cl c_quarter (hr.mono (by decide)) rfl (pa_cons (pv 6) pa_nil)) rfl) (pe_cl c_law_quarter (hr.mono (by decide)) rfl (pa_cons (pe_cl c_law_quarter (hr.mono (by decide)) rfl (pa_cons (pv 5) pa_nil)) pa_nil)) (nomark _))))) (pss_one (ps_ret pe_bl)) pss_nil)
      (pss_cons (ps_setLc (i := 8) (own := [("_law_place", 7)]) (g := gName 7) (tt := tYes) rfl sclaw.nd rfl rfl (sw_true rfl rfl rfl (by decide +kernel)) (pi_range1 rfl B.range (pa_cons (pe_op op_mul (pv 2) (pe_callB call_len (by rfl) B.len PySem.boot_len (pa_cons (pv 1) pa_nil))) pa_nil)) (blkOk_by (N := ["_law_script", "_law_rows_here", "_law_wide", "_law_floor", "_law_found", "_law_due", "_law_again", "_law_place", "_law_places", "_law_other", "_law_told"]) (sc := defScope slaw) (by decide +kernel)) (fun _ _ _ _ _ => pg_name (i := 7) sclaw.nd rfl (Or.inl rfl)) (fun _ _ _ _ _ => pts_nil) (fun _ _ _ _ _ => (pe_op op_sub (pe_op op_sub (pe_op op_add (pe_op op_mul (pe_op op_mod (pv 7) (pv 2)) (pe_callB (show CallR _ (.builtin "len") (fun xs H Q => ∃ x n, xs = [x] ∧ LenV K x H n ∧ Q (.int n) H) from call_len) (by rfl) B.len PySem.boot_len (pa_cons (pv 1) pa_nil))) (pe_callB (show CallR _ (.builtin "len") (fun xs H Q => ∃ x n, xs = [x] ∧ LenV K x H n ∧ Q (.int n) H) from call_len) (by rfl) B.len PySem.boot_len (pa_cons (pv 1) pa_nil))) pe_int) (pe_op op_fdiv (pv 7) (pv 2)))))
      (pss_cons (ps_if (pt_not (pt_val (pe_cl c_law_listed (hr.mono (by decide)) rfl (pa_cons (pe_lc (own := [("_law_place", 7)]) (g := gName 7) (tt := tYes) rfl sclaw.nd (pi_range1 rfl B.range (pa_cons (pe_op op_mul (pv 2) (pe_callB call_len (by rfl) B.len PySem.boot_len (pa_cons (pv 1) pa_nil))) pa_nil)) (blkOk_by (N := ["_law_script", "_law_rows_here", "_law_wide", "_law_floor", "_law_found", "_law_due", "_law_again", "_law_place", "_law_places", "_law_other", "_law_told"]) (sc := defScope slaw) (by decide +kernel)) (fun _ _ _ _ _ => pg_name (i := 7) sclaw.nd rfl (Or.inl rfl)) (fun _ _ _ _ _ => pts_nil) (fun _ _ _ _ _ => (pe_cl c_quarter_place (hr.mono (by decide)) rfl (pa_cons (pv 3) (pa_cons (pv 7) pa_nil))))) (pa_cons (pv 8) pa_nil))))) (pss_one (ps_ret pe_bl)) pss_nil)
      (pss_cons (ps_for PassesOwn.never rfl (pi_range1 rfl B.range (pa_cons (pe_callB call_len (by rfl) B.len PySem.boot_len (pa_cons (pv 8) pa_nil)) pa_nil)) (pg_name (i := 7) sclaw.nd rfl (Or.inl rfl)) (pss_one (ps_for PassesOwn.never rfl (pi_tup (pe_tup (pa_cons (pe_op op_add (pv 7) pe_int) (pa_cons (pe_op op_add (pv 7) (pv 2)) pa_nil)))) (pg_name (i := 9) sclaw.nd rfl (Or.inl rfl)) (pss_one (ps_if (pt_cmpR op_lt (pv 9) (pe_callB call_len (by rfl) B.len PySem.boot_len (pa_cons (pv 8) pa_nil)) (nomark _)) (pss_cons (ps_set (i := 10) sclaw.nd rfl (Or.inl rfl) (pe_cm (pv 4) T.cl c_Floor_may (hr.mono (by decide)) (pa_cons (pe_ix ix_list (pv 8) (pv 7) (fun _ _ => rfl)) (pa_cons (pe_ix ix_list (pv 8) (pv 9) (fun _ _ => rfl)) pa_nil))))
      (pss_one (ps_if (pt_not (pt_val (pe_cl c_law_truth (hr.mono (by decide)) rfl (pa_cons (pv 10) (pa_cons (pe_cl c_law_may (hr.mono (by decide)) rfl (pa_cons (pv 1) (pa_cons (pv 7) (pa_cons (pv 9) pa_nil)))) pa_nil))))) (pss_one (ps_ret pe_bl)) pss_nil))) pss_nil)))))
      (pss_one (ps_ret (pe_cl c_law_listed (hr.mono (by decide)) rfl (pa_cons (pe_lst (pa_cons (pe_callB call_len (by rfl) B.len PySem.boot_len (pa_cons (pe_cm0 (pe_cl c_laid (hr.mono (by decide)) rfl (pa_cons (pv 4) pa_nil)) L.cl c_Laying_bare (hr.mono (by decide))) pa_nil)) pa_nil)) (pa_cons (pe_lst (pa_cons (pe_callB call_len (by rfl) B.len PySem.boot_len (pa_cons (pe_cm0 (pe_cl c_laid (hr.mono (by decide)) rfl (pa_cons (pv 3) pa_nil)) L.cl c_Laying_bare (hr.mono (by decide))) pa_nil)) pa_nil)) pa_nil)))))))))))))))), ?_⟩
    refine ⟨_, rfl, a, ns, rfl, hS, hl, fun l ws H1 hw s1 hl0 hl1 => ?_⟩
    have hwd := hw.wid
    have hh := hw.high
    refine ⟨fun σ' H' => σ' = [some (.ref a), some (.ref l), some (.int (wide ws)), none, none, none, none, none, none, none, none] ∧ H1 = H', ?_, ?_⟩
    · refine ⟨_, rfl, _, _, rfl, .inl ⟨_, SqL.of hl1, rfl⟩, _, _, rfl, rfl, _, rfl, ?_⟩
      rw [List.length_map]
      cases ws with
      | nil =>
        refine iteF ?_
        have e0 : wide ([] : List Str) = 0 := empty_len
        rw [e0]
        exact ⟨rfl, rfl⟩
      | cons a r =>
        refine iteTd (by rw [List.length_cons]; omega) ?_
        have ea : wide (a :: r) = a.length := rfl
        refine ⟨_, rfl, _, _, _, _, rfl, rfl, SqL.of hl1, atI_nat (j := 0) rfl, a, rfl, Nat.le_trans (by rw [← ea]; exact hwd) (by decide), rfl, rfl⟩
    rintro _ _ ⟨rfl, rfl⟩
    have hT2 : GxR.TabG H1 Pt := (Sm.of s1 (P := Pt)).t hT
    refine ⟨_, rfl, l, _, rfl, .inl (SqL.of hl1), fun lh hlh => ?_⟩
    have s3 : Same H1 (upd H1 lh (.lst (ws.map V.str))) := same_new hlh
    have hT3 := (Sm.of s3 (P := Pt)).t hT2
    intro x dx hx ndx nex
    refine mk_floor (SqL.of upd_same) hw hT3 hx ndx nex fun df H4 m4 hT4 hdf fl => ?_
    refine ⟨rfl, ?_⟩
    have l4 : H4 l = some (.lst (ws.map V.str)) := m4.at hT3 (s3 _ _ hl1) (fun _ z => by cases z)
    clear m4 hT3 hlh hT2 hx hdf ndx nex
    have hq := qrt_wf hw
    have hqq := qrt_wf hq
    have hqqq := qrt_wf hqq
    -- turned
    refine ⟨_, rfl, x, df, ws, rfl, fl, hw, hT4, fun x2 df2 H5 m5 hT5 f2 => ?_⟩
    have l5 := m5.at hT4 l4 (fun _ z => by cases z)
    have fl5 := fl.sm m5 hT4
    refine ⟨_, rfl, l, ws, rfl, SqL.of l5, hw, fun ld H6 s6 hld h6 => ?_⟩
    have hT6 := (Sm.of s6 (P := Pt)).t hT5
    have l6 := s6 _ _ l5
    obtain ⟨dxf, lrf, gf, faf⟩ := fl5.same s6
    obtain ⟨dx2, lr2, g2, fa2⟩ := f2.same s6
    refine ⟨_, rfl, x2, dx2, _, rfl, fa2.ob, _, rfl, ?_⟩
    refine iteF ?_
    refine ⟨_, rfl, x2, C, dx2, _, _, rfl, fa2.ob, T.cl, T.nR, flds_rows _ _ _ _, _, rfl, ne_strsD hq (SqL.of fa2.rw) (SqL.of h6) ⟨_, rfl, ?_⟩⟩
    refine iteF ?_
    refine ⟨_, rfl, x, C, dxf, _, _, rfl, faf.ob, T.cl, T.nR, flds_rows _ _ _ _, _, rfl, ne_strsD hw (SqL.of faf.rw) (SqL.of l6) ⟨_, rfl, ?_⟩⟩
    refine iteF ?_
    have fx6 : FloorD C H6 x df ws := ⟨dxf, lrf, gf, faf⟩
    have fy6 : FloorD C H6 x2 df2 (qrt ws) := ⟨dx2, lr2, g2, fa2⟩
    clear faf fa2
    -- again
    refine ⟨_, rfl, x2, df2, qrt ws, rfl, fy6, hq, hT6, fun x3 df3 H7 m7 hT7 f3 => ?_⟩
    have l7 := m7.at hT6 l6 (fun _ z => by cases z)
    have d7 := m7.at hT6 h6 (fun _ z => by cases z)
    have fx7 := fx6.sm m7 hT6
    have fy7 := fy6.sm m7 hT6
    obtain ⟨dx3, lr3, g3, fa3⟩ := f3
    refine ⟨_, rfl, x3, C, dx3, _, _, rfl, fa3.ob, T.cl, T.nR, flds_rows _ _ _ _, _, rfl, ld, qrt ws, rfl, SqL.of d7, hq, fun le H8 s8 hle h8 => ?_⟩
    refine ne_strsD hqq (SqL.of (s8 _ _ fa3.rw)) (SqL.of h8) ⟨_, rfl, ?_⟩
    refine iteF ?_
    have hT8 := (Sm.of s8 (P := Pt)).t hT7
    refine ⟨_, rfl, x3, df3, qrt (qrt ws), rfl, ⟨dx3, lr3, g3, fa3.same s8⟩, hqq, hT8, fun x4 df4 H9 m9 hT9 f4 => ?_⟩
    obtain ⟨dx4, lr4, g4, fa4⟩ := f4
    have d9 := m9.at hT8 (s8 _ _ d7) (fun _ z => by cases z)
    have l9 := m9.at hT8 (s8 _ _ l7) (fun _ z => by cases z)
    have fx9 := (fx7.same s8).sm m9 hT8
    have fy9 := (fy7.same s8).sm m9 hT8
    refine ⟨x4, C, dx4, _, _, rfl, fa4.ob, T.cl, T.nR, flds_rows _ _ _ _, _, rfl, ld, qrt ws, rfl, SqL.of d9, hq, fun lf H10 s10 hlf h10 => ?_⟩
    refine ⟨lf, qrt (qrt ws), rfl, SqL.of h10, hqq, fun lg H11 s11 hlg h11 => ?_⟩
    refine ne_strsD hqqq (SqL.of (s11 _ _ (s10 _ _ fa4.rw))) (SqL.of h11) ⟨_, rfl, ?_⟩
    refine iteF ?_
    have s911 := s10.trans s11
    have l11 := s911 _ _ l9
    have fx := fx9.same s911
    have fy := fy9.same s911
    clear fa4 fa3 d9 d7 h10 h11 h8 h6 fx9 fy9 fx7 fy7 fx6 fy6 l9 l7 l6 l5 l4 fl5
    -- the places
    have m2 : ((wide ws : Nat) : Int) * ((ws.length : Nat) : Int) = ((wide ws * ws.length : Nat) : Int) := (Int.natCast_mul _ _).symm
    have area : wide ws * ws.length ≤ 12 * 12 := Nat.mul_le_mul hwd hh
    have mm : (([V.int (((wide ws : Nat) : Int) * (((ws.map V.str).length : Nat) : Int))] : List V)) = [V.int ((wide ws * ws.length : Nat) : Int)] := by rw [List.length_map, m2]
    have qints : ∀ n : Nat, (List.range n).map (fun (p : Nat) => V.int (qp ws ((p : Nat) : Int))) = ((List.range n).map fun (p : Nat) => qp ws ((p : Nat) : Int)).map V.int := fun n => by
      rw [List.map_map]
      rfl
    have wpos : ∀ {k : Nat}, k < wide ws * ws.length → 0 < wide ws := fun {k} h => by
      rcases Nat.eq_zero_or_pos (wide ws) with e | e
      · rw [e, Nat.zero_mul] at h
        omega
      · exact e
    refine ⟨_, rfl, _, rfl, _, _, rfl, .inl ⟨_, SqL.of l11, rfl⟩, _, _, rfl, rfl, .inl ⟨by omega, by omega⟩, ((wide ws * ws.length : Nat) : Int), mm, by omega, by omega, fun lp hlp => ?_⟩
    refine lc_valsR (n := wide ws * ws.length) (i := 7) (f := fun (p : Nat) => V.int (qp ws ((p : Nat) : Int))) hlp (by omega) ?_ ?_
    · intro k H12 hk s12 R hR
      have wp := wpos hk
      have k1 := Int.emod_nonneg ((k : Nat) : Int) (show ((wide ws : Nat) : Int) ≠ 0 by omega)
      have k2 := Int.emod_lt_of_pos ((k : Nat) : Int) (show (0 : Int) < ((wide ws : Nat) : Int) by omega)
      have R2 := hR H12 (Same.refl _)
      unfold qp at R2
      have el : (((ws.map V.str).length : Nat) : Int) = ((ws.length : Nat) : Int) := by rw [List.length_map]
      rw [← el] at R2
      exact ⟨_, rfl, _, rfl, _, _, rfl, rfl, (by omega), _, rfl, _, _, rfl, .inl ⟨_, SqL.of (s12 _ _ l11), rfl⟩, _, _, rfl, rfl, .inl ⟨by omega, by omega⟩, _, rfl, _, _, rfl, .inl ⟨_, SqL.of (s12 _ _ l11), rfl⟩, _, _, rfl, rfl, _, _, rfl, rfl, _, rfl, _, rfl, _, _, rfl, rfl, ⟨by omega, by omega⟩, _, _, rfl, rfl, R2⟩
    intro H12 s12 h12
    rw [qints] at h12
    have l12 := s12 _ _ l11
    have fx12 := fx.same s12
    have fy12 := fy.same s12
    -- quarter_place
    refine ⟨_, rfl, _, rfl, _, _, rfl, .inl ⟨_, SqL.of l12, rfl⟩, _, _, rfl, rfl, .inl ⟨by omega, by omega⟩, ((wide ws * ws.length : Nat) : Int), mm, by omega, by omega, fun lq hlq => ?_⟩
    refine lc_valsR (n := wide ws * ws.length) (i := 7) (f := fun (p : Nat) => V.int (qp ws ((p : Nat) : Int))) hlq (by omega) ?_ ?_
    · intro k H13 hk s13 R hR
      exact ⟨_, rfl, _, rfl, x, df, ws, _, rfl, fx12.same s13, hw, wpos hk, by omega, by omega, fun H14 s14 => hR H14 s14⟩
    intro H13 s13 h13
    rw [qints] at h13
    have p13 := s13 _ _ h12
    refine ⟨_, rfl, lq, lp, _, rfl, h13, SqL.of p13, _, rfl, ?_⟩
    refine iteF ?_
    have l13 := s13 _ _ l12
    have fx13 := fx12.same s13
    have fy13 := fy12.same s13
    obtain ⟨dx2, lr2, g2, fa2⟩ := fy13
    have nM : (flds lr2 (qrt ws) df2 (g2 (topP (qrt ws)))).lookup ("may" : Str) = none := flds_no _ _ _ _ (by decide +kernel) (by decide +kernel) (by decide +kernel) (by decide +kernel)
    have plen : (((List.range (wide ws * ws.length)).map fun (p : Nat) => qp ws ((p : Nat) : Int)).map V.int).length = wide ws * ws.length := by rw [List.length_map, List.length_map, List.length_range]
    have pat : ∀ {k : Nat}, k < wide ws * ws.length → (((List.range (wide ws * ws.length)).map fun (p : Nat) => qp ws ((p : Nat) : Int)).map V.int)[k]? = some (V.int (qp ws ((k : Nat) : Int))) := fun {k} h => by
      rw [List.getElem?_map, List.getElem?_map, List.getElem?_range h]
      rfl
    generalize ((List.range (wide ws * ws.length)).map fun (p : Nat) => qp ws ((p : Nat) : Int)).map V.int = ps at p13 plen pat
    -- each two places
    refine ⟨_, rfl, _, _, rfl, .inl ⟨_, SqL.of p13, rfl⟩, ?_⟩
    rw [plen]
    refine ⟨_, rfl, by omega, by omega, for_range (n := wide ws * ws.length) (fun i σ Hn => ∃ v7 v9 v10 : Option V, σ = [some (.ref a), some (.ref l), some (.int (wide ws)), some (.ref x), some (.ref x2), some (.ref ld), some (.ref x3), v7, some (.ref lp), v9, v10] ∧ Same H13 Hn) ⟨none, none, none, rfl, Same.refl _⟩ ?_ ?_⟩
    · rintro k σ Hn hk ⟨v7, v9, v10, rfl, sn⟩
      have z2 : (0 : Int) + ((k : Nat) : Int) = ((k : Nat) : Int) := Int.zero_add _
      refine ⟨_, rfl, _, _, rfl, rfl, _, rfl, _, rfl, _, _, rfl, rfl, (by show 2 ≤ sizeLine; decide), fun tp htp => ?_⟩
      rw [z2]
      have wp := wpos hk
      have s14 : Same Hn (upd Hn tp (.tup [.int (((k : Nat) : Int) + 1), .int (((k : Nat) : Int) + ((wide ws : Nat) : Int))])) := same_new htp
      have t14 : (upd Hn tp (.tup [.int (((k : Nat) : Int) + 1), .int (((k : Nat) : Int) + ((wide ws : Nat) : Int))])) tp = some (.tup [.int (((k : Nat) : Int) + 1), .int (((k : Nat) : Int) + ((wide ws : Nat) : Int))]) := upd_same
      generalize upd Hn tp (.tup [.int (((k : Nat) : Int) + 1), .int (((k : Nat) : Int) + ((wide ws : Nat) : Int))]) = H14 at s14 t14
      refine ⟨tp, rfl, ⟨_, SqT.of t14⟩, for_tup (K := K) (a := tp) (xs := [.int (((k : Nat) : Int) + 1), .int (((k : Nat) : Int) + ((wide ws : Nat) : Int))]) (fun i σ Hm => ∃ v9 v10 : Option V, σ = [some (.ref a), some (.ref l), some (.int (wide ws)), some (.ref x), some (.ref x2), some (.ref ld), some (.ref x3), some (.int ((k : Nat) : Int)), some (.ref lp), v9, v10] ∧ Same H14 Hm) ⟨v9, v10, rfl, Same.refl _⟩ (fun i σ Hm _ ⟨_, _, _, sm⟩ => SqT.of (sm _ _ t14)) ?_ ?_⟩
      · rintro i z σ Hm hi ⟨v9, v10, rfl, sm⟩
        obtain ⟨o, rfl⟩ : ∃ o : Nat, z = .int ((o : Nat) : Int) := by
          have m := List.mem_of_getElem? hi
          rcases List.mem_cons.mp m with q | q
          · exact ⟨k + 1, by rw [q]; congr 1⟩
          · exact ⟨k + wide ws, by rw [List.mem_singleton.mp q]; congr 1⟩
        have s0m := (sn.trans s14).trans sm
        have pm := s0m _ _ p13
        have fam := fa2.same s0m
        refine ⟨_, rfl, _, rfl, _, _, rfl, .inl ⟨_, SqL.of pm, rfl⟩, _, _, rfl, rfl, _, rfl, ?_⟩
        rw [plen]
        by_cases ho : o < wide ws * ws.length
        case neg =>
          refine iteNS2 (by omega) ?_
          exact ⟨_, _, rfl, sm⟩
        refine iteTd (by omega) ?_
        refine ⟨_, rfl, x2, dx2, _, rfl, fam.ob, nM, _, rfl, _, rfl, lp, _, _, _, rfl, rfl, SqL.of pm, atI_nat (pat hk), _, rfl, _, rfl, lp, _, _, _, rfl, rfl, SqL.of pm, atI_nat (pat ho), x2, dx2, lr2, df2, g2, qrt ws, _, _, rfl, fam, ?_⟩
        rw [may_eq, lmay_qp (by omega) (by omega) (by omega) (by omega)]
        refine ⟨_, rfl, _, rfl, _, rfl, _, rfl, l, ws, _, _, rfl, SqL.of (s0m _ _ l13), hw, _, rfl, ?_⟩
        refine ⟨_, rfl, ?_⟩
        refine iteF ?_
        exact ⟨_, _, rfl, sm⟩
      · rintro σ Hm ⟨v9, v10, rfl, sm⟩
        exact ⟨_, _, _, rfl, (sn.trans s14).trans sm⟩
    rintro σ H14 ⟨v7, v9, v10, rfl, s14⟩
    have fx14 := fx13.same s14
    have fy14 : FloorD C H14 x2 df2 (qrt ws) := ⟨dx2, lr2, g2, fa2.same s14⟩
    have nB : ∀ {x d}, (lfl x d).lookup ("bare" : Str) = none := fun {x d} => lfl_no x d (by decide +kernel) (by decide +kernel)
    refine ⟨_, rfl, x2, df2, qrt ws, rfl, fy14, hq, fun y d ov H15 s15 hy hd la v na => ?_⟩
    obtain ⟨dy, lb⟩ := la
    refine ⟨y, dy, _, rfl, lb.ob, nB, y, x2, df2, d, qrt ws, ov, rfl, ⟨dy, lb⟩, fy14.same s15, hq, fun lb2 H16 s16 hlb2 h16 => ?_⟩
    refine ⟨_, _, rfl, .inl ⟨_, SqL.of h16, rfl⟩, ?_⟩
    rw [List.length_map]
    refine ⟨(by show 1 ≤ sizeLine; decide), fun pA hpA => ?_⟩
    have s17 : Same H16 (upd H16 pA (.lst [V.int ((bareOf (qrt ws) ov).length : Int)])) := same_new hpA
    have h17 : (upd H16 pA (.lst [V.int ((bareOf (qrt ws) ov).length : Int)])) pA = some (.lst [V.int ((bareOf (qrt ws) ov).length : Int)]) := upd_same
    generalize upd H16 pA (.lst [V.int ((bareOf (qrt ws) ov).length : Int)]) = H17 at s17 h17
    have s47 := (s15.trans s16).trans s17
    refine ⟨_, rfl, x, df, ws, rfl, fx14.same s47, hw, fun y3 d3 ov3 H18 s18 hy3 hd3 la3 v3 na3 => ?_⟩
    obtain ⟨dy3, lb3⟩ := la3
    refine ⟨y3, dy3, _, rfl, lb3.ob, nB, y3, x, df, d3, ws, ov3, rfl, ⟨dy3, lb3⟩, (fx14.same s47).same s18, hw, fun lb4 H19 s19 hlb4 h19 => ?_⟩
    refine ⟨_, _, rfl, .inl ⟨_, SqL.of h19, rfl⟩, ?_⟩
    rw [List.length_map]
    refine ⟨(by show 1 ≤ sizeLine; decide), fun pB hpB => ?_⟩
    have s20 : Same H19 (upd H19 pB (.lst [V.int ((bareOf ws ov3).length : Int)])) := same_new hpB
    have h20 : (upd H19 pB (.lst [V.int ((bareOf ws ov3).length : Int)])) pB = some (.lst [V.int ((bareOf ws ov3).length : Int)]) := upd_same
    rw [bare_turn v3 na3 v na] at h17
    exact ⟨pA, pB, [((bareOf ws ov3).length : Int)], rfl, s20 _ _ (s19 _ _ (s18 _ _ h17)), SqL.of h20, hQ _⟩
end
end Sf
namespace Sf
open PySem L2
theorem tri0 : TriplesOk (#[] : Array Value).toList := by
  show TriplesOk []
  simp [TriplesOk]
theorem walk {l : PySem.W.OpenLaw} {k : Nat} {q : Program} {loose : List Str} {XP : (Str → Option Value) → Heap → Prop} {YP : World → Heap → Prop} {d : DefRec} {K : Params → PySem.W.Frag}
    (hn : l.most = some 63) (hdf : d.params.defaults = []) (hr : Room k callerA) (hrec : ((PyProof.Rows.recsOf q).any fun e => e.name == ("_refuse_wrong" : Str)) = true) (hY : ∀ (w : World) (h : Heap), YP w h → (K w.params).In h)
    (F : ∀ (w : World) (mg : Str → Option Value) (fa : Addr) (h : Heap), (K w.params).In h → h.Ns mainGlobals mg → mg d.name = some (.ref fa) →
      (∀ (fr c P : Addr) (o : Obj) (fd : FuncData) (e : Value) (dd : Option Addr) (vs : Array Value) (sl : Array (Option Value)), mg "_refuse_wrong" = some (.ref fr) → (K w.params).lookup fr = some o → o.data = .func fd → fd.code = .ref c → (K w.params).lookup c = some ⟨e, dd, .fields vs, sl⟩ → vs[11]? = some (.ref P) → h.get? P = some { cls := .none, data := .fields #[] }) →
      LamX.LawAtS l w (K w.params) CX0 k 63 "_law_script" mg fa h) :
    PySem.W.WalkO q loose XP YP l.row.toRowW d [] (fun f vs => PySem.call f vs) := by
  refine Att.attach_callB hn hdf fun w s₀ s₁ mg mb fa o pm cd doc a vs ns G Y ho hd hcd hmg hobj hints hlen hbits hg => ?_
  have KX := hY w _ Y
  have own : ∀ (fr c P : Addr) (o : Obj) (fd : FuncData) (e : Value) (dd : Option Addr) (vs : Array Value) (sl : Array (Option Value)), mg "_refuse_wrong" = some (.ref fr) → (K w.params).lookup fr = some o → o.data = .func fd → fd.code = .ref c → (K w.params).lookup c = some ⟨e, dd, .fields vs, sl⟩ → vs[11]? = some (.ref P) → s₁.heap.get? P = some { cls := .none, data := .fields #[] } := fun fr c P o1 fd1 e dd vs1 sl k0 k1 k2 k3 k4 k5 => by
    obtain ⟨dL, hm, hn1⟩ := List.any_eq_true.mp hrec
    have hn2 : dL.name = ("_refuse_wrong" : Str) := beq_iff_eq.mp hn1
    obtain ⟨a', o', fd', c', P', h1, h2, h3, h4, h5, h6⟩ := G.T.tab dL hm
    rw [hn2, k0] at h1
    cases h1
    have g1 := KX _ _ k1
    rw [g1] at h2
    cases h2
    rw [k2] at h3
    cases h3
    rw [k3] at h4
    cases h4
    obtain ⟨⟨oc, vc, e1, _, e3, e4⟩, hP⟩ := h6
    have g2 := KX _ _ k4
    rw [g2] at e1
    cases e1
    cases e3
    rw [k5] at e4
    cases e4
    exact hP
  obtain ⟨fd, cs, sp, hT, nT, C, hb, hsp, hF⟩ := F w mg fa _ KX G.T.g hmg own
  exact LamX.law_callTs KX G.T.g G.T.b G.T.builtins G.T.nolimit hg hT nT C G.T.bmain hobj hints (Nat.le_trans hlen (by decide)) hr hF hb (fun H hH hS => hsp H a ns hlen hbits hH hS) fun H e s' z => z.elim
theorem all_mk {l : PySem.W.OpenLaw} {w : World} {K : PySem.W.Frag} {h : Heap} {mg : Str → Option Value} {fa C_Floor C_Laying f0 f1 f2 f3 f4 f5 f6 f7 f8 f9 f10 f11 f12 f13 f14 f15 f16 f17 f18 f19 f20 f100 f101 f102 f103 f104 f105 f106 f107 f108 f109 f110 f111 f112 f113 t0 t1 t2 t3 t4 c_refuse Pt x_L x_R x_S x_N x_B x_C x_U x_F t9  : Addr} (X : K.In h) (G : h.Ns mainGlobals mg) (hfa : mg "law" = some (.ref fa))
    (tabs : ∀ (fr c P : Addr) (o : Obj) (fd : FuncData) (e : Value) (dd : Option Addr) (vs : Array Value) (sl : Array (Option Value)), mg "_refuse_wrong" = some (.ref fr) → K.lookup fr = some o → o.data = .func fd → fd.code = .ref c → K.lookup c = some ⟨e, dd, .fields vs, sl⟩ → vs[11]? = some (.ref P) → h.get? P = some { cls := .none, data := .fields #[] })
    {od0 an0 od1 an1 od2 an2 od3 an3 od4 an4 od5 an5 od6 an6 od7 an7 od8 an8 od9 an9 od10 an10 od11 an11 od12 an12 od13 an13 od14 an14 od15 an15 od16 an16 od17 an17 od18 an18 od19 an19 od20 an20 od100 an100 od101 an101 od102 an102 od103 an103 od104 an104 od105 an105 od106 an106 od107 an107 od108 an108 od109 an109 od110 an110 od111 an111 od112 an112 od113 an113 ot0 ot1 ot2 ot3 ot4 dcr : Option Addr} {sl0 sl1 sl2 sl3 sl4 sl5 sl6 sl7 sl8 sl9 sl10 sl11 sl12 sl13 sl14 sl15 sl16 sl17 sl18 sl19 sl20 sl100 sl101 sl102 sl103 sl104 sl105 sl106 sl107 sl108 sl109 sl110 sl111 sl112 sl113 st0 st1 st2 st3 st4 scr : Array (Option Value)} {oc0 kV0 dc0 pm0 ct0 oc1 kV1 dc1 pm1 ct1 cd1 oc2 kV2 dc2 pm2 ct2 cd2 oc3 kV3 dc3 pm3 ct3 cd3 oc4 kV4 dc4 pm4 ct4 cd4 oc5 kV5 dc5 pm5 ct5 cd5 oc6 kV6 dc6 pm6 ct6 cd6 oc7 kV7 dc7 pm7 ct7 cd7 oc8 kV8 dc8 pm8 ct8 cd8 oc9 kV9 dc9 pm9 ct9 cd9 oc10 kV10 dc10 pm10 ct10 cd10 oc11 kV11 dc11 pm11 ct11 cd11 oc12 kV12 dc12 pm12 ct12 cd12 oc13 kV13 dc13 pm13 ct13 cd13 oc14 kV14 dc14 pm14 ct14 cd14 oc15 kV15 dc15 pm15 ct15 cd15 oc16 kV16 dc16 pm16 ct16 cd16 oc17 kV17 dc17 pm17 ct17 cd17 oc18 kV18 dc18 pm18 ct18 cd18 oc19 kV19 dc19 pm19 ct19 cd19 oc20 kV20 dc20 pm20 ct20 cd20 oc100 kV100 dc100 pm100 ct100 cd100 oc101 kV101 dc101 pm101 ct101 cd101 oc102 kV102 dc102 pm102 ct102 cd102 oc103 kV103 dc103 pm103 ct103 cd103 oc104 kV104 dc104 pm104 ct104 cd104 oc105 kV105 dc105 pm105 ct105 cd105 oc106 kV106 dc106 pm106 ct106 cd106 oc107 kV107 dc107 pm107 ct107 cd107 oc108 kV108 dc108 pm108 ct108 cd108 oc109 kV109 dc109 pm109 ct109 cd109 oc110 kV110 dc110 pm110 ct110 cd110 oc111 kV111 dc111 pm111 ct111 cd111 oc112 kV112 dc112 pm112 ct112 cd112 oc113 kV113 dc113 pm113 ct113 cd113 ecr : Value} {vcr : Array Value} {nt0 nt1 nt2 nt3 nt4 : Nat} {ua1 ub1 uc1 ua2 ub2 uc2 ua3 ub3 uc3 ua4 ub4 uc4 u_MOST u_PILLAR u_SIGNS : Tok} {f_nm f_q : Str} {f_N : Addr} {f_bs f_sub : List Value} {f_hd f_ab : Bool} {f_sn : List Str} {f_col : Option Bool} {f_dd : Option Addr} {f_m0 f_m1 f_m2 f_m3 f_m5 : Option Value} {f_nw : String} {l_nm l_q : Str} {l_N : Addr} {l_bs l_sub : List Value} {l_hd l_ab : Bool} {l_sn : List Str} {l_col : Option Bool} {l_dd : Option Addr} {l_m0 l_m1 l_m2 l_m3 l_m5 : Option Value} {l_nw : String} {u90 u91 u92 u93 : Tok} 
    (aC_Floor : PySem.W.nsIn K mainGlobals "Floor" = some (some (.ref C_Floor)))
    (aC_Laying : PySem.W.nsIn K mainGlobals "Laying" = some (some (.ref C_Laying)))
    (a0 : PySem.W.nsIn K mainGlobals "_refuse_wrong" = some (some (.ref f0)))
    (l0 : K.lookup f0 = some ⟨oc0, od0, .func (PySem.W.fnOf "_refuse_wrong" "_refuse_wrong" (defArgs s_refuse_wrong) (defBody s_refuse_wrong) (defScope s_refuse_wrong) .none kV0 dc0 pm0 an0 (.ref c_refuse) ct0), sl0⟩)
    (c0 : PySem.W.codeIn K (.ref c_refuse) "_refuse_wrong" = true)
    (k0 : PySem.W.keepIn K (.ref f0) = true)
    (a1 : PySem.W.nsIn K mainGlobals "_sign_at" = some (some (.ref f1)))
    (l1 : K.lookup f1 = some ⟨oc1, od1, .func (PySem.W.fnOf "_sign_at" "_sign_at" (defArgs s_sign_at) (defBody s_sign_at) (defScope s_sign_at) .none kV1 dc1 pm1 an1 cd1 ct1), sl1⟩)
    (c1 : PySem.W.codeIn K cd1 "_sign_at" = true)
    (k1 : PySem.W.keepIn K (.ref f1) = true)
    (a2 : PySem.W.nsIn K mainGlobals "_neighbours" = some (some (.ref f2)))
    (l2 : K.lookup f2 = some ⟨oc2, od2, .func (PySem.W.fnOf "_neighbours" "_neighbours" (defArgs s_neighbours) (defBody s_neighbours) (defScope s_neighbours) .none kV2 dc2 pm2 an2 cd2 ct2), sl2⟩)
    (c2 : PySem.W.codeIn K cd2 "_neighbours" = true)
    (k2 : PySem.W.keepIn K (.ref f2) = true)
    (a3 : PySem.W.nsIn K mainGlobals "_neighbours_of_cells" = some (some (.ref f3)))
    (l3 : K.lookup f3 = some ⟨oc3, od3, .func (PySem.W.fnOf "_neighbours_of_cells" "_neighbours_of_cells" (defArgs s_neighbours_of_cells) (defBody s_neighbours_of_cells) (defScope s_neighbours_of_cells) .none kV3 dc3 pm3 an3 cd3 ct3), sl3⟩)
    (c3 : PySem.W.codeIn K cd3 "_neighbours_of_cells" = true)
    (k3 : PySem.W.keepIn K (.ref f3) = true)
    (a4 : PySem.W.nsIn K mainGlobals "refuse_no_cell" = some (some (.ref f4)))
    (l4 : K.lookup f4 = some ⟨oc4, od4, .func (PySem.W.fnOf "refuse_no_cell" "refuse_no_cell" (defArgs srefuse_no_cell) (defBody srefuse_no_cell) (defScope srefuse_no_cell) .none kV4 dc4 pm4 an4 cd4 ct4), sl4⟩)
    (c4 : PySem.W.codeIn K cd4 "refuse_no_cell" = true)
    (k4 : PySem.W.keepIn K (.ref f4) = true)
    (a5 : PySem.W.nsIn K mainGlobals "quarter" = some (some (.ref f5)))
    (l5 : K.lookup f5 = some ⟨oc5, od5, .func (PySem.W.fnOf "quarter" "quarter" (defArgs squarter) (defBody squarter) (defScope squarter) .none kV5 dc5 pm5 an5 cd5 ct5), sl5⟩)
    (c5 : PySem.W.codeIn K cd5 "quarter" = true)
    (k5 : PySem.W.keepIn K (.ref f5) = true)
    (a6 : PySem.W.nsIn K mainGlobals "quarter_place" = some (some (.ref f6)))
    (l6 : K.lookup f6 = some ⟨oc6, od6, .func (PySem.W.fnOf "quarter_place" "quarter_place" (defArgs squarter_place) (defBody squarter_place) (defScope squarter_place) .none kV6 dc6 pm6 an6 cd6 ct6), sl6⟩)
    (c6 : PySem.W.codeIn K cd6 "quarter_place" = true)
    (k6 : PySem.W.keepIn K (.ref f6) = true)
    (a7 : PySem.W.nsIn K mainGlobals "reached" = some (some (.ref f7)))
    (l7 : K.lookup f7 = some ⟨oc7, od7, .func (PySem.W.fnOf "reached" "reached" (defArgs sreached) (defBody sreached) (defScope sreached) .none kV7 dc7 pm7 an7 cd7 ct7), sl7⟩)
    (c7 : PySem.W.codeIn K cd7 "reached" = true)
    (k7 : PySem.W.keepIn K (.ref f7) = true)
    (a8 : PySem.W.nsIn K mainGlobals "way_to" = some (some (.ref f8)))
    (l8 : K.lookup f8 = some ⟨oc8, od8, .func (PySem.W.fnOf "way_to" "way_to" (defArgs sway_to) (defBody sway_to) (defScope sway_to) .none kV8 dc8 pm8 an8 cd8 ct8), sl8⟩)
    (c8 : PySem.W.codeIn K cd8 "way_to" = true)
    (k8 : PySem.W.keepIn K (.ref f8) = true)
    (a9 : PySem.W.nsIn K mainGlobals "turned" = some (some (.ref f9)))
    (l9 : K.lookup f9 = some ⟨oc9, od9, .func (PySem.W.fnOf "turned" "turned" (defArgs sturned) (defBody sturned) (defScope sturned) .none kV9 dc9 pm9 an9 cd9 ct9), sl9⟩)
    (c9 : PySem.W.codeIn K cd9 "turned" = true)
    (k9 : PySem.W.keepIn K (.ref f9) = true)
    (a10 : PySem.W.nsIn K mainGlobals "better" = some (some (.ref f10)))
    (l10 : K.lookup f10 = some ⟨oc10, od10, .func (PySem.W.fnOf "better" "better" (defArgs sbetter) (defBody sbetter) (defScope sbetter) .none kV10 dc10 pm10 an10 cd10 ct10), sl10⟩)
    (c10 : PySem.W.codeIn K cd10 "better" = true)
    (k10 : PySem.W.keepIn K (.ref f10) = true)
    (a11 : PySem.W.nsIn K mainGlobals "laid" = some (some (.ref f11)))
    (l11 : K.lookup f11 = some ⟨oc11, od11, .func (PySem.W.fnOf "laid" "laid" (defArgs slaid) (defBody slaid) (defScope slaid) .none kV11 dc11 pm11 an11 cd11 ct11), sl11⟩)
    (c11 : PySem.W.codeIn K cd11 "laid" = true)
    (k11 : PySem.W.keepIn K (.ref f11) = true)
    (a12 : PySem.W.nsIn K mainGlobals "_law_cell_at" = some (some (.ref f12)))
    (l12 : K.lookup f12 = some ⟨oc12, od12, .func (PySem.W.fnOf "_law_cell_at" "_law_cell_at" (defArgs s_law_cell_at) (defBody s_law_cell_at) (defScope s_law_cell_at) .none kV12 dc12 pm12 an12 cd12 ct12), sl12⟩)
    (c12 : PySem.W.codeIn K cd12 "_law_cell_at" = true)
    (k12 : PySem.W.keepIn K (.ref f12) = true)
    (a13 : PySem.W.nsIn K mainGlobals "_law_number" = some (some (.ref f13)))
    (l13 : K.lookup f13 = some ⟨oc13, od13, .func (PySem.W.fnOf "_law_number" "_law_number" (defArgs s_law_number) (defBody s_law_number) (defScope s_law_number) .none kV13 dc13 pm13 an13 cd13 ct13), sl13⟩)
    (c13 : PySem.W.codeIn K cd13 "_law_number" = true)
    (k13 : PySem.W.keepIn K (.ref f13) = true)
    (a14 : PySem.W.nsIn K mainGlobals "_law_rows" = some (some (.ref f14)))
    (l14 : K.lookup f14 = some ⟨oc14, od14, .func (PySem.W.fnOf "_law_rows" "_law_rows" (defArgs s_law_rows) (defBody s_law_rows) (defScope s_law_rows) .none kV14 dc14 pm14 an14 cd14 ct14), sl14⟩)
    (c14 : PySem.W.codeIn K cd14 "_law_rows" = true)
    (k14 : PySem.W.keepIn K (.ref f14) = true)
    (a15 : PySem.W.nsIn K mainGlobals "_law_may" = some (some (.ref f15)))
    (l15 : K.lookup f15 = some ⟨oc15, od15, .func (PySem.W.fnOf "_law_may" "_law_may" (defArgs s_law_may) (defBody s_law_may) (defScope s_law_may) .none kV15 dc15 pm15 an15 cd15 ct15), sl15⟩)
    (c15 : PySem.W.codeIn K cd15 "_law_may" = true)
    (k15 : PySem.W.keepIn K (.ref f15) = true)
    (a16 : PySem.W.nsIn K mainGlobals "_law_whole" = some (some (.ref f16)))
    (l16 : K.lookup f16 = some ⟨oc16, od16, .func (PySem.W.fnOf "_law_whole" "_law_whole" (defArgs s_law_whole) (defBody s_law_whole) (defScope s_law_whole) .none kV16 dc16 pm16 an16 cd16 ct16), sl16⟩)
    (c16 : PySem.W.codeIn K cd16 "_law_whole" = true)
    (k16 : PySem.W.keepIn K (.ref f16) = true)
    (a17 : PySem.W.nsIn K mainGlobals "_law_listed" = some (some (.ref f17)))
    (l17 : K.lookup f17 = some ⟨oc17, od17, .func (PySem.W.fnOf "_law_listed" "_law_listed" (defArgs s_law_listed) (defBody s_law_listed) (defScope s_law_listed) .none kV17 dc17 pm17 an17 cd17 ct17), sl17⟩)
    (c17 : PySem.W.codeIn K cd17 "_law_listed" = true)
    (k17 : PySem.W.keepIn K (.ref f17) = true)
    (a18 : PySem.W.nsIn K mainGlobals "_law_truth" = some (some (.ref f18)))
    (l18 : K.lookup f18 = some ⟨oc18, od18, .func (PySem.W.fnOf "_law_truth" "_law_truth" (defArgs s_law_truth) (defBody s_law_truth) (defScope s_law_truth) .none kV18 dc18 pm18 an18 cd18 ct18), sl18⟩)
    (c18 : PySem.W.codeIn K cd18 "_law_truth" = true)
    (k18 : PySem.W.keepIn K (.ref f18) = true)
    (a19 : PySem.W.nsIn K mainGlobals "_law_quarter" = some (some (.ref f19)))
    (l19 : K.lookup f19 = some ⟨oc19, od19, .func (PySem.W.fnOf "_law_quarter" "_law_quarter" (defArgs s_law_quarter) (defBody s_law_quarter) (defScope s_law_quarter) .none kV19 dc19 pm19 an19 cd19 ct19), sl19⟩)
    (c19 : PySem.W.codeIn K cd19 "_law_quarter" = true)
    (k19 : PySem.W.keepIn K (.ref f19) = true)
    (a20 : PySem.W.nsIn K mainGlobals "law" = some (some (.ref f20)))
    (l20 : K.lookup f20 = some ⟨oc20, od20, .func (PySem.W.fnOf "law" "law" (defArgs slaw) (defBody slaw) (defScope slaw) .none kV20 dc20 pm20 an20 cd20 ct20), sl20⟩)
    (c20 : PySem.W.codeIn K cd20 "law" = true)
    (k20 : PySem.W.keepIn K (.ref f20) = true)
    (a100 : PySem.W.findIn K (.ref C_Floor) "__init__" = some (some (.ref f100)))
    (i100 : PySem.W.isFn K (.ref f100) = true)
    (l100 : K.lookup f100 = some ⟨oc100, od100, .func (PySem.W.fnOf "__init__" "Floor.__init__" (defArgs sFloor___init__) (defBody sFloor___init__) (defScope sFloor___init__) .none kV100 dc100 pm100 an100 cd100 ct100), sl100⟩)
    (c100 : PySem.W.codeIn K cd100 "Floor.__init__" = true)
    (k100 : PySem.W.keepIn K (.ref f100) = true)
    (a101 : PySem.W.findIn K (.ref C_Floor) "cells" = some (some (.ref f101)))
    (i101 : PySem.W.isFn K (.ref f101) = true)
    (l101 : K.lookup f101 = some ⟨oc101, od101, .func (PySem.W.fnOf "cells" "Floor.cells" (defArgs sFloor_cells) (defBody sFloor_cells) (defScope sFloor_cells) .none kV101 dc101 pm101 an101 cd101 ct101), sl101⟩)
    (c101 : PySem.W.codeIn K cd101 "Floor.cells" = true)
    (k101 : PySem.W.keepIn K (.ref f101) = true)
    (a102 : PySem.W.findIn K (.ref C_Floor) "has" = some (some (.ref f102)))
    (i102 : PySem.W.isFn K (.ref f102) = true)
    (l102 : K.lookup f102 = some ⟨oc102, od102, .func (PySem.W.fnOf "has" "Floor.has" (defArgs sFloor_has) (defBody sFloor_has) (defScope sFloor_has) .none kV102 dc102 pm102 an102 cd102 ct102), sl102⟩)
    (c102 : PySem.W.codeIn K cd102 "Floor.has" = true)
    (k102 : PySem.W.keepIn K (.ref f102) = true)
    (a103 : PySem.W.findIn K (.ref C_Floor) "row_and_column" = some (some (.ref f103)))
    (i103 : PySem.W.isFn K (.ref f103) = true)
    (l103 : K.lookup f103 = some ⟨oc103, od103, .func (PySem.W.fnOf "row_and_column" "Floor.row_and_column" (defArgs sFloor_row_and_column) (defBody sFloor_row_and_column) (defScope sFloor_row_and_column) .none kV103 dc103 pm103 an103 cd103 ct103), sl103⟩)
    (c103 : PySem.W.codeIn K cd103 "Floor.row_and_column" = true)
    (k103 : PySem.W.keepIn K (.ref f103) = true)
    (a104 : PySem.W.findIn K (.ref C_Floor) "sign" = some (some (.ref f104)))
    (i104 : PySem.W.isFn K (.ref f104) = true)
    (l104 : K.lookup f104 = some ⟨oc104, od104, .func (PySem.W.fnOf "sign" "Floor.sign" (defArgs sFloor_sign) (defBody sFloor_sign) (defScope sFloor_sign) .none kV104 dc104 pm104 an104 cd104 ct104), sl104⟩)
    (c104 : PySem.W.codeIn K cd104 "Floor.sign" = true)
    (k104 : PySem.W.keepIn K (.ref f104) = true)
    (a105 : PySem.W.findIn K (.ref C_Floor) "shade" = some (some (.ref f105)))
    (i105 : PySem.W.isFn K (.ref f105) = true)
    (l105 : K.lookup f105 = some ⟨oc105, od105, .func (PySem.W.fnOf "shade" "Floor.shade" (defArgs sFloor_shade) (defBody sFloor_shade) (defScope sFloor_shade) .none kV105 dc105 pm105 an105 cd105 ct105), sl105⟩)
    (c105 : PySem.W.codeIn K cd105 "Floor.shade" = true)
    (k105 : PySem.W.keepIn K (.ref f105) = true)
    (a106 : PySem.W.findIn K (.ref C_Floor) "may" = some (some (.ref f106)))
    (i106 : PySem.W.isFn K (.ref f106) = true)
    (l106 : K.lookup f106 = some ⟨oc106, od106, .func (PySem.W.fnOf "may" "Floor.may" (defArgs sFloor_may) (defBody sFloor_may) (defScope sFloor_may) .none kV106 dc106 pm106 an106 cd106 ct106), sl106⟩)
    (c106 : PySem.W.codeIn K cd106 "Floor.may" = true)
    (k106 : PySem.W.keepIn K (.ref f106) = true)
    (a107 : PySem.W.findIn K (.ref C_Floor) "beside" = some (some (.ref f107)))
    (i107 : PySem.W.isFn K (.ref f107) = true)
    (l107 : K.lookup f107 = some ⟨oc107, od107, .func (PySem.W.fnOf "beside" "Floor.beside" (defArgs sFloor_beside) (defBody sFloor_beside) (defScope sFloor_beside) .none kV107 dc107 pm107 an107 cd107 ct107), sl107⟩)
    (c107 : PySem.W.codeIn K cd107 "Floor.beside" = true)
    (k107 : PySem.W.keepIn K (.ref f107) = true)
    (a108 : PySem.W.findIn K (.ref C_Laying) "__init__" = some (some (.ref f108)))
    (i108 : PySem.W.isFn K (.ref f108) = true)
    (l108 : K.lookup f108 = some ⟨oc108, od108, .func (PySem.W.fnOf "__init__" "Laying.__init__" (defArgs sLaying___init__) (defBody sLaying___init__) (defScope sLaying___init__) .none kV108 dc108 pm108 an108 cd108 ct108), sl108⟩)
    (c108 : PySem.W.codeIn K cd108 "Laying.__init__" = true)
    (k108 : PySem.W.keepIn K (.ref f108) = true)
    (a109 : PySem.W.findIn K (.ref C_Laying) "put" = some (some (.ref f109)))
    (i109 : PySem.W.isFn K (.ref f109) = true)
    (l109 : K.lookup f109 = some ⟨oc109, od109, .func (PySem.W.fnOf "put" "Laying.put" (defArgs sLaying_put) (defBody sLaying_put) (defScope sLaying_put) .none kV109 dc109 pm109 an109 cd109 ct109), sl109⟩)
    (c109 : PySem.W.codeIn K cd109 "Laying.put" = true)
    (k109 : PySem.W.keepIn K (.ref f109) = true)
    (a110 : PySem.W.findIn K (.ref C_Laying) "lift" = some (some (.ref f110)))
    (i110 : PySem.W.isFn K (.ref f110) = true)
    (l110 : K.lookup f110 = some ⟨oc110, od110, .func (PySem.W.fnOf "lift" "Laying.lift" (defArgs sLaying_lift) (defBody sLaying_lift) (defScope sLaying_lift) .none kV110 dc110 pm110 an110 cd110 ct110), sl110⟩)
    (c110 : PySem.W.codeIn K cd110 "Laying.lift" = true)
    (k110 : PySem.W.keepIn K (.ref f110) = true)
    (a111 : PySem.W.findIn K (.ref C_Laying) "bare" = some (some (.ref f111)))
    (i111 : PySem.W.isFn K (.ref f111) = true)
    (l111 : K.lookup f111 = some ⟨oc111, od111, .func (PySem.W.fnOf "bare" "Laying.bare" (defArgs sLaying_bare) (defBody sLaying_bare) (defScope sLaying_bare) .none kV111 dc111 pm111 an111 cd111 ct111), sl111⟩)
    (c111 : PySem.W.codeIn K cd111 "Laying.bare" = true)
    (k111 : PySem.W.keepIn K (.ref f111) = true)
    (a112 : PySem.W.findIn K (.ref C_Laying) "slabs" = some (some (.ref f112)))
    (i112 : PySem.W.isFn K (.ref f112) = true)
    (l112 : K.lookup f112 = some ⟨oc112, od112, .func (PySem.W.fnOf "slabs" "Laying.slabs" (defArgs sLaying_slabs) (defBody sLaying_slabs) (defScope sLaying_slabs) .none kV112 dc112 pm112 an112 cd112 ct112), sl112⟩)
    (c112 : PySem.W.codeIn K cd112 "Laying.slabs" = true)
    (k112 : PySem.W.keepIn K (.ref f112) = true)
    (a113 : PySem.W.findIn K (.ref C_Laying) "copied" = some (some (.ref f113)))
    (i113 : PySem.W.isFn K (.ref f113) = true)
    (l113 : K.lookup f113 = some ⟨oc113, od113, .func (PySem.W.fnOf "copied" "Laying.copied" (defArgs sLaying_copied) (defBody sLaying_copied) (defScope sLaying_copied) .none kV113 dc113 pm113 an113 cd113 ct113), sl113⟩)
    (c113 : PySem.W.codeIn K cd113 "Laying.copied" = true)
    (k113 : PySem.W.keepIn K (.ref f113) = true)
    (pg_Floor : PySem.W.plainGet K C_Floor Str.empty = true)
    (hd_Floor : PySem.W.hasDictIn K C_Floor = true)
    (po_Floor : PySem.W.plainOver K C_Floor = true)
    (sa_Floor : PySem.W.findIn K (.ref C_Floor) "__setattr__" = some (some (.builtin "object.__setattr__")))
    (mk_Floor : PySem.W.makesIn K C_Floor = true)
    (kc_Floor : PySem.W.keepIn K (.ref C_Floor) = true)
    (pg_Laying : PySem.W.plainGet K C_Laying Str.empty = true)
    (hd_Laying : PySem.W.hasDictIn K C_Laying = true)
    (po_Laying : PySem.W.plainOver K C_Laying = true)
    (sa_Laying : PySem.W.findIn K (.ref C_Laying) "__setattr__" = some (some (.builtin "object.__setattr__")))
    (mk_Laying : PySem.W.makesIn K C_Laying = true)
    (kc_Laying : PySem.W.keepIn K (.ref C_Laying) = true)
    (n_Floor_rows : PySem.W.findIn K (.ref C_Floor) "rows" = some none)
    (n_Floor_high : PySem.W.findIn K (.ref C_Floor) "high" = some none)
    (n_Floor_wide : PySem.W.findIn K (.ref C_Floor) "wide" = some none)
    (n_Floor_neighbours : PySem.W.findIn K (.ref C_Floor) "_neighbours" = some none)
    (n_Floor_signs : PySem.W.findIn K (.ref C_Floor) "_signs" = some none)
    (n_Laying_floor : PySem.W.findIn K (.ref C_Laying) "floor" = some none)
    (n_Laying_over : PySem.W.findIn K (.ref C_Laying) "over" = some none)
    (z_len : PySem.W.nsIn K mainGlobals "len" = some none)
    (z_any : PySem.W.nsIn K mainGlobals "any" = some none)
    (z_range : PySem.W.nsIn K mainGlobals "range" = some none)
    (z_list : PySem.W.nsIn K mainGlobals "list" = some none)
    (z_tuple : PySem.W.nsIn K mainGlobals "tuple" = some none)
    (z_dict : PySem.W.nsIn K mainGlobals "dict" = some none)
    (z_set : PySem.W.nsIn K mainGlobals "set" = some none)
    (z_abs : PySem.W.nsIn K mainGlobals "abs" = some none)
    (z_isinstance : PySem.W.nsIn K mainGlobals "isinstance" = some none)
    (z_int : PySem.W.nsIn K mainGlobals "int" = some none)
    (z_bool : PySem.W.nsIn K mainGlobals "bool" = some none)
    (z_min : PySem.W.nsIn K mainGlobals "min" = some none)
    (z_max : PySem.W.nsIn K mainGlobals "max" = some none)
    (z_divmod : PySem.W.nsIn K mainGlobals "divmod" = some none)
    (z_sorted : PySem.W.nsIn K mainGlobals "sorted" = some none)
    (z_reversed : PySem.W.nsIn K mainGlobals "reversed" = some none)
    (z_ValueError : PySem.W.nsIn K mainGlobals "ValueError" = some none)
    (q_MOST : PySem.W.nsIn K mainGlobals "MOST" = some (some (.int 12 u_MOST)))
    (q_PILLAR : PySem.W.nsIn K mainGlobals "PILLAR" = some (some (.str "#" u_PILLAR)))
    (q_SIGNS : PySem.W.nsIn K mainGlobals "SIGNS" = some (some (.str ".-|#" u_SIGNS)))
    (q_STEPS : PySem.W.nsIn K mainGlobals "STEPS" = some (some (.ref t0)))
    (lt0 : K.lookup t0 = some ⟨.type "tuple", ot0, .seq #[.ref t1, .ref t2, .ref t3, .ref t4] nt0, st0⟩)
    (lt1 : K.lookup t1 = some ⟨.type "tuple", ot1, .seq #[.int (-1) ua1, .int (0) ub1, .str ".|" uc1] nt1, st1⟩)
    (lt2 : K.lookup t2 = some ⟨.type "tuple", ot2, .seq #[.int (0) ua2, .int (-1) ub2, .str ".-" uc2] nt2, st2⟩)
    (lt3 : K.lookup t3 = some ⟨.type "tuple", ot3, .seq #[.int (0) ua3, .int (1) ub3, .str ".-" uc3] nt3, st3⟩)
    (lt4 : K.lookup t4 = some ⟨.type "tuple", ot4, .seq #[.int (1) ua4, .int (0) ub4, .str ".|" uc4] nt4, st4⟩)
    (lcr : K.lookup c_refuse = some ⟨ecr, dcr, .fields vcr, scr⟩)
    (v11 : vcr[11]? = some (.ref Pt))
    (nPt : K.lookup Pt = none)
    (hdc : PySem.W.codeHdIn K c_refuse Pt = true)
    (ax_L : PySem.W.nsIn K mainGlobals "TooLarge" = some (some (.ref x_L)))
    (ax_R : PySem.W.nsIn K mainGlobals "Ragged" = some (some (.ref x_R)))
    (ax_S : PySem.W.nsIn K mainGlobals "StrangeSign" = some (some (.ref x_S)))
    (ax_N : PySem.W.nsIn K mainGlobals "NoCell" = some (some (.ref x_N)))
    (ax_B : PySem.W.nsIn K mainGlobals "NotBeside" = some (some (.ref x_B)))
    (ax_C : PySem.W.nsIn K mainGlobals "Covered" = some (some (.ref x_C)))
    (ax_U : PySem.W.nsIn K mainGlobals "Uncovered" = some (some (.ref x_U)))
    (ax_F : PySem.W.nsIn K mainGlobals "FloorError" = some (some (.ref x_F)))
    (xi_N : PySem.W.excIn K x_N [.type "ValueError", .type "Exception", .type "BaseException", .type "object"] "ValueError.__new__" = true)
    (xk_N : PySem.W.keepIn K (.ref x_N) = true)
    (xs_N : PySem.W.subIn K (.ref x_N) (.type "BaseException") = some true)
    (xt_N : PySem.W.typeIn K (.ref x_N) = some (.type "type"))
    (xq_N : PySem.W.subIn K (.ref x_N) (.ref x_N) = some true)
    (xh_N : PySem.W.hasDictIn K x_N = true)
    (xg_N : PySem.W.findIn K (.ref x_N) "__getattribute__" = some (some (.builtin "BaseException.__getattribute__")))
    (xa_N : PySem.W.findIn K (.ref x_N) "__getattr__" = some none)
    (xc_N : PySem.W.findIn K (.ref x_N) "__class__" = some (some (.builtin "object.__class__")))
    (xm_N : PySem.W.mroIn K x_N (.type "object") = some true)
    (k_N_L : PySem.W.kitOne K (.ref x_N) (.ref x_L) = some false)
    (k_N_R : PySem.W.kitOne K (.ref x_N) (.ref x_R) = some false)
    (k_N_S : PySem.W.kitOne K (.ref x_N) (.ref x_S) = some false)
    (k_N_N : PySem.W.kitOne K (.ref x_N) (.ref x_N) = some true)
    (k_N_B : PySem.W.kitOne K (.ref x_N) (.ref x_B) = some false)
    (k_N_C : PySem.W.kitOne K (.ref x_N) (.ref x_C) = some false)
    (k_N_U : PySem.W.kitOne K (.ref x_N) (.ref x_U) = some false)
    (k_N_F : PySem.W.kitOne K (.ref x_N) (.ref x_F) = some true)
    (k_N_V : PySem.W.subIn K (.ref x_N) (.type "ValueError") = some true)
    (xi_B : PySem.W.excIn K x_B [.type "ValueError", .type "Exception", .type "BaseException", .type "object"] "ValueError.__new__" = true)
    (xk_B : PySem.W.keepIn K (.ref x_B) = true)
    (xs_B : PySem.W.subIn K (.ref x_B) (.type "BaseException") = some true)
    (xt_B : PySem.W.typeIn K (.ref x_B) = some (.type "type"))
    (xq_B : PySem.W.subIn K (.ref x_B) (.ref x_B) = some true)
    (xh_B : PySem.W.hasDictIn K x_B = true)
    (xg_B : PySem.W.findIn K (.ref x_B) "__getattribute__" = some (some (.builtin "BaseException.__getattribute__")))
    (xa_B : PySem.W.findIn K (.ref x_B) "__getattr__" = some none)
    (xc_B : PySem.W.findIn K (.ref x_B) "__class__" = some (some (.builtin "object.__class__")))
    (xm_B : PySem.W.mroIn K x_B (.type "object") = some true)
    (k_B_L : PySem.W.kitOne K (.ref x_B) (.ref x_L) = some false)
    (k_B_R : PySem.W.kitOne K (.ref x_B) (.ref x_R) = some false)
    (k_B_S : PySem.W.kitOne K (.ref x_B) (.ref x_S) = some false)
    (k_B_N : PySem.W.kitOne K (.ref x_B) (.ref x_N) = some false)
    (k_B_B : PySem.W.kitOne K (.ref x_B) (.ref x_B) = some true)
    (k_B_C : PySem.W.kitOne K (.ref x_B) (.ref x_C) = some false)
    (k_B_U : PySem.W.kitOne K (.ref x_B) (.ref x_U) = some false)
    (k_B_F : PySem.W.kitOne K (.ref x_B) (.ref x_F) = some true)
    (k_B_V : PySem.W.subIn K (.ref x_B) (.type "ValueError") = some true)
    (xi_C : PySem.W.excIn K x_C [.type "ValueError", .type "Exception", .type "BaseException", .type "object"] "ValueError.__new__" = true)
    (xk_C : PySem.W.keepIn K (.ref x_C) = true)
    (xs_C : PySem.W.subIn K (.ref x_C) (.type "BaseException") = some true)
    (xt_C : PySem.W.typeIn K (.ref x_C) = some (.type "type"))
    (xq_C : PySem.W.subIn K (.ref x_C) (.ref x_C) = some true)
    (xh_C : PySem.W.hasDictIn K x_C = true)
    (xg_C : PySem.W.findIn K (.ref x_C) "__getattribute__" = some (some (.builtin "BaseException.__getattribute__")))
    (xa_C : PySem.W.findIn K (.ref x_C) "__getattr__" = some none)
    (xc_C : PySem.W.findIn K (.ref x_C) "__class__" = some (some (.builtin "object.__class__")))
    (xm_C : PySem.W.mroIn K x_C (.type "object") = some true)
    (k_C_L : PySem.W.kitOne K (.ref x_C) (.ref x_L) = some false)
    (k_C_R : PySem.W.kitOne K (.ref x_C) (.ref x_R) = some false)
    (k_C_S : PySem.W.kitOne K (.ref x_C) (.ref x_S) = some false)
    (k_C_N : PySem.W.kitOne K (.ref x_C) (.ref x_N) = some false)
    (k_C_B : PySem.W.kitOne K (.ref x_C) (.ref x_B) = some false)
    (k_C_C : PySem.W.kitOne K (.ref x_C) (.ref x_C) = some true)
    (k_C_U : PySem.W.kitOne K (.ref x_C) (.ref x_U) = some false)
    (k_C_F : PySem.W.kitOne K (.ref x_C) (.ref x_F) = some true)
    (k_C_V : PySem.W.subIn K (.ref x_C) (.type "ValueError") = some true)
    (xi_U : PySem.W.excIn K x_U [.type "ValueError", .type "Exception", .type "BaseException", .type "object"] "ValueError.__new__" = true)
    (xk_U : PySem.W.keepIn K (.ref x_U) = true)
    (xs_U : PySem.W.subIn K (.ref x_U) (.type "BaseException") = some true)
    (xt_U : PySem.W.typeIn K (.ref x_U) = some (.type "type"))
    (xq_U : PySem.W.subIn K (.ref x_U) (.ref x_U) = some true)
    (xh_U : PySem.W.hasDictIn K x_U = true)
    (xg_U : PySem.W.findIn K (.ref x_U) "__getattribute__" = some (some (.builtin "BaseException.__getattribute__")))
    (xa_U : PySem.W.findIn K (.ref x_U) "__getattr__" = some none)
    (xc_U : PySem.W.findIn K (.ref x_U) "__class__" = some (some (.builtin "object.__class__")))
    (xm_U : PySem.W.mroIn K x_U (.type "object") = some true)
    (k_U_L : PySem.W.kitOne K (.ref x_U) (.ref x_L) = some false)
    (k_U_R : PySem.W.kitOne K (.ref x_U) (.ref x_R) = some false)
    (k_U_S : PySem.W.kitOne K (.ref x_U) (.ref x_S) = some false)
    (k_U_N : PySem.W.kitOne K (.ref x_U) (.ref x_N) = some false)
    (k_U_B : PySem.W.kitOne K (.ref x_U) (.ref x_B) = some false)
    (k_U_C : PySem.W.kitOne K (.ref x_U) (.ref x_C) = some false)
    (k_U_U : PySem.W.kitOne K (.ref x_U) (.ref x_U) = some true)
    (k_U_F : PySem.W.kitOne K (.ref x_U) (.ref x_F) = some true)
    (k_U_V : PySem.W.subIn K (.ref x_U) (.type "ValueError") = some true)
    (xn : PySem.W.specialIn K (.builtin "object.__class__") "__get__" = some (some (.builtin "getset_descriptor.__get__")))
    (xo : PySem.W.takesIn K (.builtin "object.__class__") = some true)
    (sf1 : K.lookup C_Floor = some (excClassObj f_nm f_q C_Floor f_N f_bs [.type "object"] f_hd f_sn f_sub f_ab f_col f_dd f_m0 f_m1 f_m2 f_m3 f_m5 f_nw))
    (sf2 : PySem.W.nsOkIn K f_N = true)
    (sf3 : PySem.W.nsIn K f_N "__eq__" = some none)
    (sf4 : PySem.W.nsIn K f_N "__ne__" = some none)
    (ic_f : PySem.W.findIn K (.ref C_Floor) "__class__" = some (some (.builtin "object.__class__")))
    (im_f : PySem.W.mroIn K C_Floor (.type "object") = some true)
    (ik_f : PySem.W.kitOne K (.ref C_Floor) (.ref C_Floor) = some true)
    (sl1 : K.lookup C_Laying = some (excClassObj l_nm l_q C_Laying l_N l_bs [.type "object"] l_hd l_sn l_sub l_ab l_col l_dd l_m0 l_m1 l_m2 l_m3 l_m5 l_nw))
    (sl2 : PySem.W.nsOkIn K l_N = true)
    (sl3 : PySem.W.nsIn K l_N "__eq__" = some none)
    (sl4 : PySem.W.nsIn K l_N "__ne__" = some none)
    (ic_l : PySem.W.findIn K (.ref C_Laying) "__class__" = some (some (.builtin "object.__class__")))
    (im_l : PySem.W.mroIn K C_Laying (.type "object") = some true)
    (ik_l : PySem.W.kitOne K (.ref C_Laying) (.ref C_Laying) = some true)
    (q_TURNED : PySem.W.nsIn K mainGlobals "TURNED" = some (some (.ref t9)))
    (dW9 : He.dicW K t9 = some (He.keysIn w.params [".", "-", "|", "#"]))
    (tn0 : PySem.W.nsIn K t9 "." = some (some (.str "." u90)))
    (tn1 : PySem.W.nsIn K t9 "-" = some (some (.str "|" u91)))
    (tn2 : PySem.W.nsIn K t9 "|" = some (some (.str "-" u92)))
    (tn3 : PySem.W.nsIn K t9 "#" = some (some (.str "#" u93))) :
    LamX.LawAtS l w K CX0 7 63 "_law_script" mg fa h := by
  have e := hfa.symm.trans (PySem.W.mg_of X G a20)
  cases e
  have F0 : FunC K "_refuse_wrong" "_refuse_wrong" s_refuse_wrong f0 _ c_refuse := ⟨⟨_, _, _, _, _, _, _, _, rfl, l0, c0⟩, k0⟩
  have b0 := (fun_mk (st := s_refuse_wrong) l0 c0 k0).binds (ps := ["rows"]) fun _ _ _ _ _ _ us hl => match us, hl with | [_], _ => rfl
  have g0 : mg "_refuse_wrong" = some (.ref f0) := PySem.W.mg_of X G a0
  have F1 := fun_mk (st := s_sign_at) l1 c1 k1
  have b1 := F1.binds (ps := ["rows", "row", "column"]) fun _ _ _ _ _ _ us hl => match us, hl with | [_, _, _], _ => rfl
  have g1 : mg "_sign_at" = some (.ref f1) := PySem.W.mg_of X G a1
  have F2 := fun_mk (st := s_neighbours) l2 c2 k2
  have b2 := F2.binds (ps := ["rows", "row", "column"]) fun _ _ _ _ _ _ us hl => match us, hl with | [_, _, _], _ => rfl
  have g2 : mg "_neighbours" = some (.ref f2) := PySem.W.mg_of X G a2
  have F3 := fun_mk (st := s_neighbours_of_cells) l3 c3 k3
  have b3 := F3.binds (ps := ["rows", "wide"]) fun _ _ _ _ _ _ us hl => match us, hl with | [_, _], _ => rfl
  have g3 : mg "_neighbours_of_cells" = some (.ref f3) := PySem.W.mg_of X G a3
  have F4 := fun_mk (st := srefuse_no_cell) l4 c4 k4
  have b4 := F4.binds (ps := ["floor", "number"]) fun _ _ _ _ _ _ us hl => match us, hl with | [_, _], _ => rfl
  have g4 : mg "refuse_no_cell" = some (.ref f4) := PySem.W.mg_of X G a4
  have F5 := fun_mk (st := squarter) l5 c5 k5
  have b5 := F5.binds (ps := ["floor"]) fun _ _ _ _ _ _ us hl => match us, hl with | [_], _ => rfl
  have g5 : mg "quarter" = some (.ref f5) := PySem.W.mg_of X G a5
  have F6 := fun_mk (st := squarter_place) l6 c6 k6
  have b6 := F6.binds (ps := ["floor", "place"]) fun _ _ _ _ _ _ us hl => match us, hl with | [_, _], _ => rfl
  have g6 : mg "quarter_place" = some (.ref f6) := PySem.W.mg_of X G a6
  have F7 := fun_mk (st := sreached) l7 c7 k7
  have b7 := F7.binds (ps := ["laying", "shade"]) fun _ _ _ _ _ _ us hl => match us, hl with | [_, _], _ => rfl
  have g7 : mg "reached" = some (.ref f7) := PySem.W.mg_of X G a7
  have F8 := fun_mk (st := sway_to) l8 c8 k8
  have b8 := F8.binds (ps := ["found", "cell"]) fun _ _ _ _ _ _ us hl => match us, hl with | [_, _], _ => rfl
  have g8 : mg "way_to" = some (.ref f8) := PySem.W.mg_of X G a8
  have F9 := fun_mk (st := sturned) l9 c9 k9
  have b9 := F9.binds (ps := ["laying", "way"]) fun _ _ _ _ _ _ us hl => match us, hl with | [_, _], _ => rfl
  have g9 : mg "turned" = some (.ref f9) := PySem.W.mg_of X G a9
  have F10 := fun_mk (st := sbetter) l10 c10 k10
  have b10 := F10.binds (ps := ["laying"]) fun _ _ _ _ _ _ us hl => match us, hl with | [_], _ => rfl
  have g10 : mg "better" = some (.ref f10) := PySem.W.mg_of X G a10
  have F11 := fun_mk (st := slaid) l11 c11 k11
  have b11 := F11.binds (ps := ["floor"]) fun _ _ _ _ _ _ us hl => match us, hl with | [_], _ => rfl
  have g11 : mg "laid" = some (.ref f11) := PySem.W.mg_of X G a11
  have F12 := fun_mk (st := s_law_cell_at) l12 c12 k12
  have b12 := F12.binds (ps := ["_law_script", "_law_k"]) fun _ _ _ _ _ _ us hl => match us, hl with | [_, _], _ => rfl
  have g12 : mg "_law_cell_at" = some (.ref f12) := PySem.W.mg_of X G a12
  have F13 := fun_mk (st := s_law_number) l13 c13 k13
  have b13 := F13.binds (ps := ["_law_script", "_law_k"]) fun _ _ _ _ _ _ us hl => match us, hl with | [_, _], _ => rfl
  have g13 : mg "_law_number" = some (.ref f13) := PySem.W.mg_of X G a13
  have F14 := fun_mk (st := s_law_rows) l14 c14 k14
  have b14 := F14.binds (ps := ["_law_script"]) fun _ _ _ _ _ _ us hl => match us, hl with | [_], _ => rfl
  have g14 : mg "_law_rows" = some (.ref f14) := PySem.W.mg_of X G a14
  have F15 := fun_mk (st := s_law_may) l15 c15 k15
  have b15 := F15.binds (ps := ["_law_rows_here", "_law_one", "_law_other"]) fun _ _ _ _ _ _ us hl => match us, hl with | [_, _, _], _ => rfl
  have g15 : mg "_law_may" = some (.ref f15) := PySem.W.mg_of X G a15
  have F16 := fun_mk (st := s_law_whole) l16 c16 k16
  have b16 := F16.binds (ps := ["_law_found"]) fun _ _ _ _ _ _ us hl => match us, hl with | [_], _ => rfl
  have g16 : mg "_law_whole" = some (.ref f16) := PySem.W.mg_of X G a16
  have F17 := fun_mk (st := s_law_listed) l17 c17 k17
  have b17 := F17.binds (ps := ["_law_found", "_law_due"]) fun _ _ _ _ _ _ us hl => match us, hl with | [_, _], _ => rfl
  have g17 : mg "_law_listed" = some (.ref f17) := PySem.W.mg_of X G a17
  have F18 := fun_mk (st := s_law_truth) l18 c18 k18
  have b18 := F18.binds (ps := ["_law_found", "_law_due"]) fun _ _ _ _ _ _ us hl => match us, hl with | [_, _], _ => rfl
  have g18 : mg "_law_truth" = some (.ref f18) := PySem.W.mg_of X G a18
  have F19 := fun_mk (st := s_law_quarter) l19 c19 k19
  have b19 := F19.binds (ps := ["_law_rows_here"]) fun _ _ _ _ _ _ us hl => match us, hl with | [_], _ => rfl
  have g19 : mg "_law_quarter" = some (.ref f19) := PySem.W.mg_of X G a19
  have F20 := fun_mk (st := slaw) l20 c20 k20
  have F100 := fun_mk (st := sFloor___init__) l100 c100 k100
  have b100 := F100.binds (ps := ["self", "rows"]) fun _ _ _ _ _ _ us hl => match us, hl with | [_, _], _ => rfl
  have M100 : Meth K C_Floor "__init__" f100 := ⟨a100, i100, k100⟩
  have F101 := fun_mk (st := sFloor_cells) l101 c101 k101
  have b101 := F101.binds (ps := ["self"]) fun _ _ _ _ _ _ us hl => match us, hl with | [_], _ => rfl
  have M101 : Meth K C_Floor "cells" f101 := ⟨a101, i101, k101⟩
  have F102 := fun_mk (st := sFloor_has) l102 c102 k102
  have b102 := F102.binds (ps := ["self", "place"]) fun _ _ _ _ _ _ us hl => match us, hl with | [_, _], _ => rfl
  have M102 : Meth K C_Floor "has" f102 := ⟨a102, i102, k102⟩
  have F103 := fun_mk (st := sFloor_row_and_column) l103 c103 k103
  have b103 := F103.binds (ps := ["self", "place"]) fun _ _ _ _ _ _ us hl => match us, hl with | [_, _], _ => rfl
  have M103 : Meth K C_Floor "row_and_column" f103 := ⟨a103, i103, k103⟩
  have F104 := fun_mk (st := sFloor_sign) l104 c104 k104
  have b104 := F104.binds (ps := ["self", "row", "column"]) fun _ _ _ _ _ _ us hl => match us, hl with | [_, _, _], _ => rfl
  have M104 : Meth K C_Floor "sign" f104 := ⟨a104, i104, k104⟩
  have F105 := fun_mk (st := sFloor_shade) l105 c105 k105
  have b105 := F105.binds (ps := ["self", "place"]) fun _ _ _ _ _ _ us hl => match us, hl with | [_, _], _ => rfl
  have M105 : Meth K C_Floor "shade" f105 := ⟨a105, i105, k105⟩
  have F106 := fun_mk (st := sFloor_may) l106 c106 k106
  have b106 := F106.binds (ps := ["self", "one", "other"]) fun _ _ _ _ _ _ us hl => match us, hl with | [_, _, _], _ => rfl
  have M106 : Meth K C_Floor "may" f106 := ⟨a106, i106, k106⟩
  have F107 := fun_mk (st := sFloor_beside) l107 c107 k107
  have b107 := F107.binds (ps := ["self", "cell"]) fun _ _ _ _ _ _ us hl => match us, hl with | [_, _], _ => rfl
  have M107 : Meth K C_Floor "beside" f107 := ⟨a107, i107, k107⟩
  have F108 := fun_mk (st := sLaying___init__) l108 c108 k108
  have b108 := F108.binds (ps := ["self", "floor"]) fun _ _ _ _ _ _ us hl => match us, hl with | [_, _], _ => rfl
  have M108 : Meth K C_Laying "__init__" f108 := ⟨a108, i108, k108⟩
  have F109 := fun_mk (st := sLaying_put) l109 c109 k109
  have b109 := F109.binds (ps := ["self", "one", "other"]) fun _ _ _ _ _ _ us hl => match us, hl with | [_, _, _], _ => rfl
  have M109 : Meth K C_Laying "put" f109 := ⟨a109, i109, k109⟩
  have F110 := fun_mk (st := sLaying_lift) l110 c110 k110
  have b110 := F110.binds (ps := ["self", "cell"]) fun _ _ _ _ _ _ us hl => match us, hl with | [_, _], _ => rfl
  have M110 : Meth K C_Laying "lift" f110 := ⟨a110, i110, k110⟩
  have F111 := fun_mk (st := sLaying_bare) l111 c111 k111
  have b111 := F111.binds (ps := ["self"]) fun _ _ _ _ _ _ us hl => match us, hl with | [_], _ => rfl
  have M111 : Meth K C_Laying "bare" f111 := ⟨a111, i111, k111⟩
  have F112 := fun_mk (st := sLaying_slabs) l112 c112 k112
  have b112 := F112.binds (ps := ["self"]) fun _ _ _ _ _ _ us hl => match us, hl with | [_], _ => rfl
  have M112 : Meth K C_Laying "slabs" f112 := ⟨a112, i112, k112⟩
  have F113 := fun_mk (st := sLaying_copied) l113 c113 k113
  have b113 := F113.binds (ps := ["self"]) fun _ _ _ _ _ _ us hl => match us, hl with | [_], _ => rfl
  have M113 : Meth K C_Laying "copied" f113 := ⟨a113, i113, k113⟩
  have zlen : mg "len" = none := PySem.W.mg_none_of X G z_len
  have zany : mg "any" = none := PySem.W.mg_none_of X G z_any
  have zrange : mg "range" = none := PySem.W.mg_none_of X G z_range
  have zlist : mg "list" = none := PySem.W.mg_none_of X G z_list
  have ztuple : mg "tuple" = none := PySem.W.mg_none_of X G z_tuple
  have zdict : mg "dict" = none := PySem.W.mg_none_of X G z_dict
  have zset : mg "set" = none := PySem.W.mg_none_of X G z_set
  have zabs : mg "abs" = none := PySem.W.mg_none_of X G z_abs
  have zisinstance : mg "isinstance" = none := PySem.W.mg_none_of X G z_isinstance
  have zint : mg "int" = none := PySem.W.mg_none_of X G z_int
  have zbool : mg "bool" = none := PySem.W.mg_none_of X G z_bool
  have zmin : mg "min" = none := PySem.W.mg_none_of X G z_min
  have zmax : mg "max" = none := PySem.W.mg_none_of X G z_max
  have zdivmod : mg "divmod" = none := PySem.W.mg_none_of X G z_divmod
  have zsorted : mg "sorted" = none := PySem.W.mg_none_of X G z_sorted
  have zreversed : mg "reversed" = none := PySem.W.mg_none_of X G z_reversed
  have zValueError : mg "ValueError" = none := PySem.W.mg_none_of X G z_ValueError
  have mMOST : mg "MOST" = some (.int 12 u_MOST) := PySem.W.mg_of X G q_MOST
  have mPILLAR : mg "PILLAR" = some (.str "#" u_PILLAR) := PySem.W.mg_of X G q_PILLAR
  have mSIGNS : mg "SIGNS" = some (.str ".-|#" u_SIGNS) := PySem.W.mg_of X G q_SIGNS
  have mSTEPS : mg "STEPS" = some (.ref t0) := PySem.W.mg_of X G q_STEPS
  have hsz : ∀ n : Nat, n ≤ 4 → n ≤ sizeLine := fun n h => Nat.le_trans h (by decide)
  have TS : StepsAt K t0 := by
    refine ⟨[t1, t2, t3, t4], rfl, fun H => .inr ⟨_, _, _, lt0, rfl, rfl, hsz 4 (by decide), .cons rfl (.cons rfl (.cons rfl (.cons rfl .nil)))⟩, fun i t p ht hp H => ?_⟩
    match i, ht, hp with
    | 0, ht, hp =>
      cases ht
      cases hp
      exact .inr ⟨_, _, _, lt1, rfl, rfl, hsz 3 (by decide), .cons ⟨_, rfl⟩ (.cons ⟨_, rfl⟩ (.cons ⟨_, rfl⟩ .nil))⟩
    | 1, ht, hp =>
      cases ht
      cases hp
      exact .inr ⟨_, _, _, lt2, rfl, rfl, hsz 3 (by decide), .cons ⟨_, rfl⟩ (.cons ⟨_, rfl⟩ (.cons ⟨_, rfl⟩ .nil))⟩
    | 2, ht, hp =>
      cases ht
      cases hp
      exact .inr ⟨_, _, _, lt3, rfl, rfl, hsz 3 (by decide), .cons ⟨_, rfl⟩ (.cons ⟨_, rfl⟩ (.cons ⟨_, rfl⟩ .nil))⟩
    | 3, ht, hp =>
      cases ht
      cases hp
      exact .inr ⟨_, _, _, lt4, rfl, rfl, hsz 3 (by decide), .cons ⟨_, rfl⟩ (.cons ⟨_, rfl⟩ (.cons ⟨_, rfl⟩ .nil))⟩
    | i + 4, ht, hp => simp at ht
  refine ⟨PySem.W.fnOf "law" "law" (defArgs slaw) (defBody slaw) (defScope slaw) .none kV20 dc20 pm20 an20 cd20 ct20, [(c_refuse, Pt)], spLaw K Pt, fun p hp => ?_, fun p hp => ?_, fun p hp => ?_, fun s v => .of_eq rfl, fun H a ns hl _ hT hS => ⟨a, ns, rfl, hS, hl, ⟨#[], hT _ List.mem_cons_self, tri0⟩, fun _ => rfl⟩, fun base _ _ TBs => ?_⟩
  · rw [List.mem_singleton.mp hp]
    exact tabs f0 c_refuse Pt _ _ _ _ _ _ g0 l0 rfl rfl lcr v11
  · rw [List.mem_singleton.mp hp]
    exact nPt
  · rw [List.mem_singleton.mp hp]
    exact PySem.W.codeHd_of_K X hdc
  · have TB : GxR.TabB base mg c_refuse Pt := by
      have q := TBs (c_refuse, Pt) List.mem_cons_self
      exact ⟨q.code, q.bm, q.gP⟩
    have T : FTxt K mg C_Floor := ⟨⟨pg_Floor, hd_Floor, po_Floor, sa_Floor⟩, n_Floor_rows, n_Floor_high, n_Floor_wide, n_Floor_neighbours, n_Floor_signs, PySem.W.mg_of X G aC_Floor⟩
    have LT : LTxt K mg C_Laying := ⟨⟨pg_Laying, hd_Laying, po_Laying, sa_Laying⟩, n_Laying_floor, n_Laying_over, PySem.W.mg_of X G aC_Laying⟩
    have MkF : Mk K C_Floor f100 := ⟨mk_Floor, a100, i100, kc_Floor⟩
    have MkL : Mk K C_Laying f108 := ⟨mk_Laying, a108, i108, kc_Laying⟩
    have SC : Go.SelfC K C_Floor := ⟨_, _, _, _, _, _, _, _, _, _, _, _, _, _, _, _, sf1, sf2, sf3, sf4⟩
    have SL : Go.SelfC K C_Laying := ⟨_, _, _, _, _, _, _, _, _, _, _, _, _, _, _, _, sl1, sl2, sl3, sl4⟩
    have IL : C8.InsC K C_Laying := ⟨LT.cl, ic_l, xn, xo, im_l, ik_l⟩
    have IF : C8.InsC K C_Floor := ⟨T.cl, ic_f, xn, xo, im_f, ik_f⟩
    have Bu : Gc.Bi mg := ⟨zlen, zany, zrange, zlist, ztuple, zdict, zset, zabs, zisinstance, zint, zbool, zmin, zmax, zdivmod, zsorted, zreversed, zValueError⟩
    have RN : Rz K mg "NoCell" x_N := ⟨PySem.W.mg_of X G ax_N, xi_N, xk_N, xs_N, xt_N⟩
    have xm_is_N : PySem.W.exmOne K (.ref x_N) (.ref x_N) = some true := PySem.W.exm_ref xs_N xh_N xt_N xq_N
    have RB : Rz K mg "NotBeside" x_B := ⟨PySem.W.mg_of X G ax_B, xi_B, xk_B, xs_B, xt_B⟩
    have xm_is_B : PySem.W.exmOne K (.ref x_B) (.ref x_B) = some true := PySem.W.exm_ref xs_B xh_B xt_B xq_B
    have RC : Rz K mg "Covered" x_C := ⟨PySem.W.mg_of X G ax_C, xi_C, xk_C, xs_C, xt_C⟩
    have xm_is_C : PySem.W.exmOne K (.ref x_C) (.ref x_C) = some true := PySem.W.exm_ref xs_C xh_C xt_C xq_C
    have RU : Rz K mg "Uncovered" x_U := ⟨PySem.W.mg_of X G ax_U, xi_U, xk_U, xs_U, xt_U⟩
    have xm_is_U : PySem.W.exmOne K (.ref x_U) (.ref x_U) = some true := PySem.W.exm_ref xs_U xh_U xt_U xq_U
    have G_ref := ok_refuse (P := l.prog) (w := w) F0 TB zlen zany mMOST mSIGNS
    have G_sig := ok_signAt (P := l.prog) (w := w) (base := base) F1 zlen mPILLAR
    have G_nbs := ok_nbs F2 G_sig g1 k1 b1 zlen mSTEPS TS
    have G_tab := ok_table F3 G_nbs g2 k2 b2 zlen zrange mPILLAR
    have G_ini := ok_init F100 T G_ref g0 k0 b0 G_tab g3 k3 b3 zlen zlist ztuple
    have G_cel := ok_cells (P := l.prog) (w := w) (base := base) F101 T zlist
    have G_has := ok_has (P := l.prog) (w := w) (base := base) F102 T
    have G_may := ok_may F106 T G_has M102 b102
    have G_rnc := ok_ref F4 T G_has M102 b102 RN
    have G_li := ok_linit (P := l.prog) (w := w) (base := base) F108 LT
    have G_put := ok_put (cU := x_U) F109 T LT G_rnc g4 k4 b4 G_may M106 b106 RB RC
    have G_lif := ok_lift (cB := x_B) (cC := x_C) F110 LT G_rnc g4 k4 b4 RU
    have G_bar := ok_bare F111 T LT G_cel M101 b101
    have G_sla := ok_slabs (P := l.prog) (w := w) (base := base) F112 LT zsorted
    have G_cop := ok_copied F113 LT MkL G_li b108 zdict
    have c_put : Gc.Cm l.prog w K mg base (L2.CX l.prog w) 3 C_Laying "put" _ _ := ⟨_, _, G_put, M109, b109⟩
    have c_lift : Gc.Cm l.prog w K mg base (L2.CX l.prog w) 3 C_Laying "lift" _ _ := ⟨_, _, G_lif, M110, b110⟩
    have c_Laying_put := put0 c_put
    have c_Laying_lift := lift0 c_lift
    have c_bar : Gc.Cm l.prog w K mg base CX0 2 C_Laying "bare" _ _ := ⟨_, _, G_bar, M111, b111⟩
    have c_Laying_bare := bare0 c_bar
    have c_sla : Gc.Cm l.prog w K mg base CX0 1 C_Laying "slabs" _ _ := ⟨_, _, G_sla, M112, b112⟩
    have c_Laying_slabs := slabs0 c_sla
    have c_cop : Gc.Cm l.prog w K mg base CX0 3 C_Laying "copied" _ _ := ⟨_, _, G_cop, M113, b113⟩
    have c_Laying_copied := copied0 c_cop
    have c_Laying : Gc.Cn l.prog w K mg base 1 C_Laying "Laying" _ _ := ⟨_, _, G_li, MkL, LT.mgC, b108⟩
    have c_Floor : Gc.Cn l.prog w K mg base 4 C_Floor "Floor" _ _ := ⟨_, _, G_ini, MkF, T.mgC, b100⟩
    have G_cat := ok_cell (P := l.prog) (w := w) (base := base) F12 zlen
    have c_law_cell_at : Gc.Cl l.prog w K mg base CX0 1 "_law_cell_at" _ _ := ⟨_, _, G_cat, g12, k12, b12⟩
    have G_num := ok_number (P := l.prog) (w := w) (base := base) F13 zlen
    have c_law_number : Gc.Cl l.prog w K mg base CX0 1 "_law_number" _ _ := ⟨_, _, G_num, g13, k13, b13⟩
    have G_row := ok_rows F14 G_cat g12 k12 b12 G_num g13 k13 b13 zlen zrange
    have c_law_rows : Gc.Cl l.prog w K mg base CX0 2 "_law_rows" _ _ := ⟨_, _, G_row, g14, k14, b14⟩
    have G_lma := ok_lmay (P := l.prog) (w := w) (base := base) F15 zlen zabs
    have c_law_may : Gc.Cl l.prog w K mg base CX0 1 "_law_may" _ _ := ⟨_, _, G_lma, g15, k15, b15⟩
    have G_who := ok_whole (P := l.prog) (w := w) (mg := mg) (base := base) F16 zisinstance zint zbool
    have c_law_whole : Gc.Cl l.prog w K mg base CX0 1 "_law_whole" _ _ := ⟨_, _, G_who, g16, k16, b16⟩
    have G_lis := ok_listed F17 G_who g16 k16 b16 zisinstance zlist zlen
    have c_law_listed : Gc.Cl l.prog w K mg base CX0 2 "_law_listed" _ _ := ⟨_, _, G_lis, g17, k17, b17⟩
    have G_rc := ok_rc (P := l.prog) (w := w) (base := base) F103 T zdivmod zmax
    have c_rc : Gc.Cm l.prog w K mg base CX0 1 C_Floor "row_and_column" _ _ := ⟨_, _, G_rc, M103, b103⟩
    have G_bes := ok_beside F107 T G_rnc g4 k4 b4 zlist
    have c_bes : Gc.Cm l.prog w K mg base (L2.CX l.prog w) 3 C_Floor "beside" _ _ := ⟨_, _, G_bes, M107, b107⟩
    have c_Floor_beside := beside0 c_bes
    have G_sha := ok_shade F105 T G_rc M103 b103
    have c_sha : Gc.Cm l.prog w K mg base CX0 2 C_Floor "shade" _ _ := ⟨_, _, G_sha, M105, b105⟩
    have c_Floor_shade := shade0 c_sha
    have c_sign_at : Gc.Cl l.prog w K mg base CX0 1 "_sign_at" _ _ := ⟨_, _, G_sig, g1, k1, b1⟩
    have G_truth := ok_truth (P := l.prog) (w := w) (base := base) (mg := mg) (K := K) F18
    have c_law_truth : Gc.Cl l.prog w K mg base CX0 1 "_law_truth" _ _ := ⟨_, _, G_truth, g18, k18, b18⟩
    have c_Floor_may : Gc.Cm l.prog w K mg base CX0 2 C_Floor "may" _ _ := ⟨_, _, G_may, M106, b106⟩
    have mTURNED := (PySem.W.mg_of X G q_TURNED : mg "TURNED" = some (.ref t9))
    have TN := trn_of (He.dicW_ok dW9) tn0 tn1 tn2 tn3
    have c_turned := ok_turned (⟨_, _, F9, g9, k9, b9⟩ : Gc.Df K mg "turned" _ _) Bu LT c_Laying_copied c_Laying_put c_Laying_lift
    have c_reached := ok_reached (⟨_, _, F7, g7, k7, b7⟩ : Gc.Df K mg "reached" _ _) Bu T LT c_Laying_bare c_Floor_shade c_Floor_beside
    have c_way_to := ok_wayto (w := w) (P := l.prog) (base := base) (⟨_, _, F8, g8, k8, b8⟩ : Gc.Df K mg "way_to" _ _)
    have c_better := ok_better (⟨_, _, F10, g10, k10, b10⟩ : Gc.Df K mg "better" _ _) Bu T LT c_Laying_bare c_Floor_shade c_reached c_way_to c_turned
    have c_laid := ok_laid (⟨_, _, F11, g11, k11, b11⟩ : Gc.Df K mg "laid" _ _) LT c_Laying c_better
    have c_Floor_sign := ok_sign (w := w) (P := l.prog) (base := base) (⟨_, _, F104, M104, b104⟩ : Gc.Dm K C_Floor "sign" "Floor.sign" _ _) T c_sign_at
    have c_quarter_place := ok_qplace (⟨_, _, F6, g6, k6, b6⟩ : Gc.Df K mg "quarter_place" _ _) T c_rc
    have c_quarter := ok_quarter (⟨_, _, F5, g5, k5, b5⟩ : Gc.Df K mg "quarter" _ _) Bu T mTURNED TN c_Floor_sign c_Floor
    have c_law_quarter := ok_lquarter (w := w) (P := l.prog) (base := base) (⟨_, _, F19, g19, k19, b19⟩ : Gc.Df K mg "_law_quarter" _ _) Bu
    exact ok_law F20 Bu T LT IF c_law_rows c_Floor c_quarter c_law_quarter c_quarter_place c_law_listed c_Floor_may c_law_may c_law_truth c_laid c_Laying_bare
end Sf
open PySem PySem.W PyProof.Rows
set_option maxRecDepth 100000 in
set_option maxHeartbeats 0 in
theorem PySem.Challenge.cw_slabfloor_k13_whole_floors_turned_holds : PySem.Challenge.rw_slabfloor_k13_whole_floors_turned.Holds := by
  w_on; o_law; k_head; (case hw => w_witness2)
  k_fill
  refine Sf.walk (l := PySem.Challenge.rw_slabfloor_k13_whole_floors_turned) (k := 7) rfl rfl ⟨rfl, by decide, by decide⟩ ?R (fun w h Y => PySem.W.kIn_of Y) ?F
  case R => kernel_rfl
  case F =>
    intro w mg fa h KX G hmg tabs
    refine' Sf.all_mk KX G hmg tabs ?aC_Floor ?aC_Laying ?a0 ?l0 ?c0 ?k0 ?a1 ?l1 ?c1 ?k1 ?a2 ?l2 ?c2 ?k2 ?a3 ?l3 ?c3 ?k3 ?a4 ?l4 ?c4 ?k4 ?a5 ?l5 ?c5 ?k5 ?a6 ?l6 ?c6 ?k6 ?a7 ?l7 ?c7 ?k7 ?a8 ?l8 ?c8 ?k8 ?a9 ?l9 ?c9 ?k9 ?a10 ?l10 ?c10 ?k10 ?a11 ?l11 ?c11 ?k11 ?a12 ?l12 ?c12 ?k12 ?a13 ?l13 ?c13 ?k13 ?a14 ?l14 ?c14 ?k14 ?a15 ?l15 ?c15 ?k15 ?a16 ?l16 ?c16 ?k16 ?a17 ?l17 ?c17 ?k17 ?a18 ?l18 ?c18 ?k18 ?a19 ?l19 ?c19 ?k19 ?a20 ?l20 ?c20 ?k20 ?a100 ?i100 ?l100 ?c100 ?k100 ?a101 ?i101 ?l101 ?c101 ?k101 ?a102 ?i102 ?l102 ?c102 ?k102 ?a103 ?i103 ?l103 ?c103 ?k103 ?a104 ?i104 ?l104 ?c104 ?k104 ?a105 ?i105 ?l105 ?c105 ?k105 ?a106 ?i106 ?l106 ?c106 ?k106 ?a107 ?i107 ?l107 ?c107 ?k107 ?a108 ?i108 ?l108 ?c108 ?k108 ?a109 ?i109 ?l109 ?c109 ?k109 ?a110 ?i110 ?l110 ?c110 ?k110 ?a111 ?i111 ?l111 ?c111 ?k111 ?a112 ?i112 ?l112 ?c112 ?k112 ?a113 ?i113 ?l113 ?c113 ?k113 ?pg_Floor ?hd_Floor ?po_Floor ?sa_Floor ?mk_Floor ?kc_Floor ?pg_Laying ?hd_Laying ?po_Laying ?sa_Laying ?mk_Laying ?kc_Laying ?n_Floor_rows ?n_Floor_high ?n_Floor_wide ?n_Floor_neighbours ?n_Floor_signs ?n_Laying_floor ?n_Laying_over ?z_len ?z_any ?z_range ?z_list ?z_tuple ?z_dict ?z_set ?z_abs ?z_isinstance ?z_int ?z_bool ?z_min ?z_max ?z_divmod ?z_sorted ?z_reversed ?z_ValueError ?q_MOST ?q_PILLAR ?q_SIGNS ?q_STEPS ?lt0 ?lt1 ?lt2 ?lt3 ?lt4 ?lcr ?v11 ?nPt ?hdc ?ax_L ?ax_R ?ax_S ?ax_N ?ax_B ?ax_C ?ax_U ?ax_F ?xi_N ?xk_N ?xs_N ?xt_N ?xq_N ?xh_N ?xg_N ?xa_N ?xc_N ?xm_N ?k_N_L ?k_N_R ?k_N_S ?k_N_N ?k_N_B ?k_N_C ?k_N_U ?k_N_F ?k_N_V ?xi_B ?xk_B ?xs_B ?xt_B ?xq_B ?xh_B ?xg_B ?xa_B ?xc_B ?xm_B ?k_B_L ?k_B_R ?k_B_S ?k_B_N ?k_B_B ?k_B_C ?k_B_U ?k_B_F ?k_B_V ?xi_C ?xk_C ?xs_C ?xt_C ?xq_C ?xh_C ?xg_C ?xa_C ?xc_C ?xm_C ?k_C_L ?k_C_R ?k_C_S ?k_C_N ?k_C_B ?k_C_C ?k_C_U ?k_C_F ?k_C_V ?xi_U ?xk_U ?xs_U ?xt_U ?xq_U ?xh_U ?xg_U ?xa_U ?xc_U ?xm_U ?k_U_L ?k_U_R ?k_U_S ?k_U_N ?k_U_B ?k_U_C ?k_U_U ?k_U_F ?k_U_V ?xn ?xo ?sf1 ?sf2 ?sf3 ?sf4 ?ic_f ?im_f ?ik_f ?sl1 ?sl2 ?sl3 ?sl4 ?ic_l ?im_l ?ik_l ?q_TURNED ?dW9 ?tn0 ?tn1 ?tn2 ?tn3
    (case aC_Floor => k_is)
    (case aC_Laying => k_is)
    (case a0 => k_is)
    (case l0 => k_is)
    (case c0 => k_is)
    (case k0 => k_is)
    (case a1 => k_is)
    (case l1 => k_is)
    (case c1 => k_is)
    (case k1 => k_is)
    (case a2 => k_is)
    (case l2 => k_is)
    (case c2 => k_is)
    (case k2 => k_is)
    (case a3 => k_is)
    (case l3 => k_is)
    (case c3 => k_is)
    (case k3 => k_is)
    (case a4 => k_is)
    (case l4 => k_is)
    (case c4 => k_is)
    (case k4 => k_is)
    (case a5 => k_is)
    (case l5 => k_is)
    (case c5 => k_is)
    (case k5 => k_is)
    (case a6 => k_is)
    (case l6 => k_is)
    (case c6 => k_is)
    (case k6 => k_is)
    (case a7 => k_is)
    (case l7 => k_is)
    (case c7 => k_is)
    (case k7 => k_is)
    (case a8 => k_is)
    (case l8 => k_is)
    (case c8 => k_is)
    (case k8 => k_is)
    (case a9 => k_is)
    (case l9 => k_is)
    (case c9 => k_is)
    (case k9 => k_is)
    (case a10 => k_is)
    (case l10 => k_is)
    (case c10 => k_is)
    (case k10 => k_is)
    (case a11 => k_is)
    (case l11 => k_is)
    (case c11 => k_is)
    (case k11 => k_is)
    (case a12 => k_is)
    (case l12 => k_is)
    (case c12 => k_is)
    (case k12 => k_is)
    (case a13 => k_is)
    (case l13 => k_is)
    (case c13 => k_is)
    (case k13 => k_is)
    (case a14 => k_is)
    (case l14 => k_is)
    (case c14 => k_is)
    (case k14 => k_is)
    (case a15 => k_is)
    (case l15 => k_is)
    (case c15 => k_is)
    (case k15 => k_is)
    (case a16 => k_is)
    (case l16 => k_is)
    (case c16 => k_is)
    (case k16 => k_is)
    (case a17 => k_is)
    (case l17 => k_is)
    (case c17 => k_is)
    (case k17 => k_is)
    (case a18 => k_is)
    (case l18 => k_is)
    (case c18 => k_is)
    (case k18 => k_is)
    (case a19 => k_is)
    (case l19 => k_is)
    (case c19 => k_is)
    (case k19 => k_is)
    (case a20 => k_is)
    (case l20 => k_is)
    (case c20 => k_is)
    (case k20 => k_is)
    (case a100 => k_is)
    (case i100 => k_is)
    (case l100 => k_is)
    (case c100 => k_is)
    (case k100 => k_is)
    (case a101 => k_is)
    (case i101 => k_is)
    (case l101 => k_is)
    (case c101 => k_is)
    (case k101 => k_is)
    (case a102 => k_is)
    (case i102 => k_is)
    (case l102 => k_is)
    (case c102 => k_is)
    (case k102 => k_is)
    (case a103 => k_is)
    (case i103 => k_is)
    (case l103 => k_is)
    (case c103 => k_is)
    (case k103 => k_is)
    (case a104 => k_is)
    (case i104 => k_is)
    (case l104 => k_is)
    (case c104 => k_is)
    (case k104 => k_is)
    (case a105 => k_is)
    (case i105 => k_is)
    (case l105 => k_is)
    (case c105 => k_is)
    (case k105 => k_is)
    (case a106 => k_is)
    (case i106 => k_is)
    (case l106 => k_is)
    (case c106 => k_is)
    (case k106 => k_is)
    (case a107 => k_is)
    (case i107 => k_is)
    (case l107 => k_is)
    (case c107 => k_is)
    (case k107 => k_is)
    (case a108 => k_is)
    (case i108 => k_is)
    (case l108 => k_is)
    (case c108 => k_is)
    (case k108 => k_is)
    (case a109 => k_is)
    (case i109 => k_is)
    (case l109 => k_is)
    (case c109 => k_is)
    (case k109 => k_is)
    (case a110 => k_is)
    (case i110 => k_is)
    (case l110 => k_is)
    (case c110 => k_is)
    (case k110 => k_is)
    (case a111 => k_is)
    (case i111 => k_is)
    (case l111 => k_is)
    (case c111 => k_is)
    (case k111 => k_is)
    (case a112 => k_is)
    (case i112 => k_is)
    (case l112 => k_is)
    (case c112 => k_is)
    (case k112 => k_is)
    (case a113 => k_is)
    (case i113 => k_is)
    (case l113 => k_is)
    (case c113 => k_is)
    (case k113 => k_is)
    (case pg_Floor => k_is)
    (case hd_Floor => k_is)
    (case po_Floor => k_is)
    (case sa_Floor => k_is)
    (case mk_Floor => k_is)
    (case kc_Floor => k_is)
    (case pg_Laying => k_is)
    (case hd_Laying => k_is)
    (case po_Laying => k_is)
    (case sa_Laying => k_is)
    (case mk_Laying => k_is)
    (case kc_Laying => k_is)
    (case n_Floor_rows => k_is)
    (case n_Floor_high => k_is)
    (case n_Floor_wide => k_is)
    (case n_Floor_neighbours => k_is)
    (case n_Floor_signs => k_is)
    (case n_Laying_floor => k_is)
    (case n_Laying_over => k_is)
    (case z_len => k_is)
    (case z_any => k_is)
    (case z_range => k_is)
    (case z_list => k_is)
    (case z_tuple => k_is)
    (case z_dict => k_is)
    (case z_set => k_is)
    (case z_abs => k_is)
    (case z_isinstance => k_is)
    (case z_int => k_is)
    (case z_bool => k_is)
    (case z_min => k_is)
    (case z_max => k_is)
    (case z_divmod => k_is)
    (case z_sorted => k_is)
    (case z_reversed => k_is)
    (case z_ValueError => k_is)
    (case q_MOST => k_is)
    (case q_PILLAR => k_is)
    (case q_SIGNS => k_is)
    (case q_STEPS => k_is)
    (case lt0 => k_is)
    (case lt1 => k_is)
    (case lt2 => k_is)
    (case lt3 => k_is)
    (case lt4 => k_is)
    (case lcr => k_is)
    (case v11 => rfl)
    (case nPt => first | kernel_rfl | with_unfolding_all rfl)
    (case hdc => first | kernel_rfl | with_unfolding_all rfl)
    (case ax_L => k_is)
    (case ax_R => k_is)
    (case ax_S => k_is)
    (case ax_N => k_is)
    (case ax_B => k_is)
    (case ax_C => k_is)
    (case ax_U => k_is)
    (case ax_F => k_is)
    (case xi_N => k_exc)
    (case xk_N => k_is)
    (case xs_N => k_is)
    (case xt_N => k_is)
    (case xq_N => first | rfl | k_is)
    (case xh_N => k_is)
    (case xg_N => k_is)
    (case xa_N => k_is)
    (case xc_N => k_is)
    (case xm_N => k_is)
    (case k_N_L => first | k_is | rfl)
    (case k_N_R => first | k_is | rfl)
    (case k_N_S => first | k_is | rfl)
    (case k_N_N => first | k_is | rfl)
    (case k_N_B => first | k_is | rfl)
    (case k_N_C => first | k_is | rfl)
    (case k_N_U => first | k_is | rfl)
    (case k_N_F => first | k_is | rfl)
    (case k_N_V => k_is)
    (case xi_B => k_exc)
    (case xk_B => k_is)
    (case xs_B => k_is)
    (case xt_B => k_is)
    (case xq_B => first | rfl | k_is)
    (case xh_B => k_is)
    (case xg_B => k_is)
    (case xa_B => k_is)
    (case xc_B => k_is)
    (case xm_B => k_is)
    (case k_B_L => first | k_is | rfl)
    (case k_B_R => first | k_is | rfl)
    (case k_B_S => first | k_is | rfl)
    (case k_B_N => first | k_is | rfl)
    (case k_B_B => first | k_is | rfl)
    (case k_B_C => first | k_is | rfl)
    (case k_B_U => first | k_is | rfl)
    (case k_B_F => first | k_is | rfl)
    (case k_B_V => k_is)
    (case xi_C => k_exc)
    (case xk_C => k_is)
    (case xs_C => k_is)
    (case xt_C => k_is)
    (case xq_C => first | rfl | k_is)
    (case xh_C => k_is)
    (case xg_C => k_is)
    (case xa_C => k_is)
    (case xc_C => k_is)
    (case xm_C => k_is)
    (case k_C_L => first | k_is | rfl)
    (case k_C_R => first | k_is | rfl)
    (case k_C_S => first | k_is | rfl)
    (case k_C_N => first | k_is | rfl)
    (case k_C_B => first | k_is | rfl)
    (case k_C_C => first | k_is | rfl)
    (case k_C_U => first | k_is | rfl)
    (case k_C_F => first | k_is | rfl)
    (case k_C_V => k_is)
    (case xi_U => k_exc)
    (case xk_U => k_is)
    (case xs_U => k_is)
    (case xt_U => k_is)
    (case xq_U => first | rfl | k_is)
    (case xh_U => k_is)
    (case xg_U => k_is)
    (case xa_U => k_is)
    (case xc_U => k_is)
    (case xm_U => k_is)
    (case k_U_L => first | k_is | rfl)
    (case k_U_R => first | k_is | rfl)
    (case k_U_S => first | k_is | rfl)
    (case k_U_N => first | k_is | rfl)
    (case k_U_B => first | k_is | rfl)
    (case k_U_C => first | k_is | rfl)
    (case k_U_U => first | k_is | rfl)
    (case k_U_F => first | k_is | rfl)
    (case k_U_V => k_is)
    (case xn => k_is)
    (case xo => k_is)
    (case sf1 => k_is)
    (case sf2 => first | k_is | kernel_rfl | with_unfolding_all rfl)
    (case sf3 => k_is)
    (case sf4 => k_is)
    (case ic_f => k_is)
    (case im_f => k_is)
    (case ik_f => first | k_is | rfl)
    (case sl1 => k_is)
    (case sl2 => first | k_is | kernel_rfl | with_unfolding_all rfl)
    (case sl3 => k_is)
    (case sl4 => k_is)
    (case ic_l => k_is)
    (case im_l => k_is)
    (case ik_l => first | k_is | rfl)
    (case q_TURNED => k_is)
    (case dW9 => first | rfl | kernel_rfl | with_unfolding_all rfl)
    (case tn0 => k_is)
    (case tn1 => k_is)
    (case tn2 => k_is)
    (case tn3 => k_is)
#print axioms PySem.Challenge.cw_slabfloor_k13_whole_floors_turned_holds
