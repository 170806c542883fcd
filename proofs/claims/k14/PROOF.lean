import PyProof.Rows.All
import Wide.All
import OpenK.AllK
import Wide.FinOn
import PySem.Challenge.RW_bidclear_k14_whole_rings
import HandS.ForMost
import HandS.AnyAll
import HandS.IsInst
import HandS.EndTab
import KE.KNest
import KE.KNestM
import PyProof.TypeEq
import PyProof.InstEq
import HandS.ForExc
import HandS.ExcIs
import HandS.HotCalls
import HandS.RaiseMore
import HandS.FStr
import HandS.More
import KE.IntBitsLaws
import HandS.WideBits
import HandS.Walk
import HandS.SortRule
import HandS.SuiteRaise
import PyProof.EqAt
import PyProof.EqKinds
import PyProof.TupleCall
import PyProof.Rows.SortShell
import KE.KSortTup
import HandS.Base
import HandS.Call
import HandS.Dict
import HandS.Sort
import HandS.SortOrd
import HandS.ListItems
set_option Elab.async false
set_option linter.all false
set_option maxRecDepth 100000
set_option maxHeartbeats 2000000
/-! a generator expression with any target over a list, inside sum -/
namespace G3
open PySem PySem.Spec PyProof.Rows L2
open Sem (wp)
section
variable {prog : Program} {w : World} {A : Around}
/-- what a target, the tests and the element do, item by item; Lc i m: the names as they stand behind the i-th store -/
structure Body (prog : Program) (w : World) (cenv : Env) (tg : Expr) (ifs : List Expr) (elt : Expr) (fp wr : List Addr) (P : Nat → Value → Prop) (pz : Nat → Bool) (F : Nat → Value → Prop) (Lc : Nat → (Str → Option Value) → Prop) (h0 : Heap) : Prop where
  put : ∀ (A' : Around) E' i v (s : Shared) m (Q : Unit → Shared → Prop), A'.handled = none → P i v → s.heap.Ns cenv.locals m → (∀ b ∈ fp, b ∉ wr → ∀ o, h0.get? b = some o → s.heap.get? b = some o) →
    (∀ h' m' tk, h'.Ns cenv.locals m' → Lc i m' → (∀ b o, b ≠ cenv.locals → s.heap.get? b = some o → h'.get? b = some o) → Q () { s with heap := h', toks := tk }) → wpAny (model prog w) A' (assign tg cenv v) Q E' s
  test : ∀ (A' : Around) E' i (s : Shared) m, A'.handled = none → s.heap.Ns cenv.locals m → Lc i m → (∀ b ∈ fp, b ∉ wr → ∀ o, h0.get? b = some o → s.heap.get? b = some o) →
    wpAny (model prog w) A' (forIn ifs true fun c r => if r = true then do let ok ← isTrue c cenv (eval c cenv); pure (ForInStep.yield ok) else pure (ForInStep.yield r)) (fun ok s' => ok = pz i ∧ Keeps s s') E' s
  val : ∀ (A' : Around) E' i (s : Shared) m, A'.handled = none → pz i = true → s.heap.Ns cenv.locals m → Lc i m → (∀ b ∈ fp, b ∉ wr → ∀ o, h0.get? b = some o → s.heap.get? b = some o) →
    wpAny (model prog w) A' (eval elt cenv) (fun y s' => F i y ∧ Keeps s s') E' s

/-- the iterator's own step ahead of the store does nothing -/
def Still (prog : Program) (w : World) (tg : Expr) (I : Addr) (St : Nat → Heap → Prop) : Prop :=
  ∀ (A : Around) (i : Nat) (v : Value) (s : Shared) (Q : Unit → Shared → Prop) (E : Value → Shared → Prop), St i s.heap → Q () s → wpAny (model prog w) A (letOwnedTupleGo tg (.ref I) v) Q E s

theorem turns {elt iter tg : Expr} {ifs : List Expr} {scope : Scope} {pos : Pos} {I : Addr} {fp wr : List Addr} {n : Nat} {P : Nat → Value → Prop} {St : Nat → Heap → Prop} {cenv : Env} {pz : Nat → Bool} {F : Nat → Value → Prop} {Lc : Nat → (Str → Option Value) → Prop} {h0 : Heap}
    (hh : A.handled = none) (W : ∀ A' : Around, A'.handled = none → Walks prog w A' I fp wr n P St) (hgo : Still prog w tg I St)
    (hco : cenv.scope.isCoroutine = false) (hC : cenv.locals ∉ fp) (B : Body prog w cenv tg ifs elt fp wr P pz F Lc h0) :
    ∀ (k i : Nat) (s0 s : Shared) (m : Str → Option Value), n - i = k → i ≤ n → St i s.heap → s.heap.Ns cenv.locals m → GenSince cenv.locals wr s0 s →
      (∀ b ∈ fp, b ∉ wr → ∀ o, h0.get? b = some o → s.heap.get? b = some o) →
      Seg (model prog w) A (fun n s₀ r s₁ => r = .ok .next ∧ (n = 0 ∧ GenSince cenv.locals wr s₀ s₁)) (genProto cenv.locals fp wr pz n F) (passing pz n i).length s0
        (.compLoop (.GeneratorExp elt [⟨tg, iter, ifs, 0⟩] scope pos) 0 (.ref I) .none cenv)
        ((model prog w).den (.compLoop (.GeneratorExp elt [⟨tg, iter, ifs, 0⟩] scope pos) 0 (.ref I) .none cenv)) [] s := by
  have hh2 : (A.over (.compLoop (.GeneratorExp elt [⟨tg, iter, ifs, 0⟩] scope pos) 0 (.ref I) .none cenv) []).handled = none := hh
  have hCw : cenv.locals ∉ wr := fun q => hC ((W A hh).sub _ q)
  have neC : ∀ {b : Addr}, b ∈ fp → b ≠ cenv.locals := fun hb e => hC (e ▸ hb)
  intro k
  induction k with
  | zero =>
    intro i s0 s m hk hi hst hn hsn hkp
    obtain rfl : i = n := by omega
    show Seg _ A _ _ _ s0 _ ((compTurn (.GeneratorExp elt [⟨tg, iter, ifs, 0⟩] scope pos) 0 (.ref I) .none cenv).onRaise (leaving cenv)) [] s
    rw [compTurn_gen, Sem.onRaise_eq_wrap]
    refine seg_bind_wrap (wpAny_standAt (seg_bind_wrap ((W _ hh2).done s _ _ hst fun h' tk kp => ?_)))
    exact seg_end (.ok .next) ⟨rfl, by rw [passing_end] <;> rfl, hsn.step fun b o _ hw e => kp b o hw e⟩
  | succ k ih =>
    intro i s0 s m hk hi hst hn hsn hkp
    have hlt : i < n := by omega
    show Seg _ A _ _ _ s0 _ ((compTurn (.GeneratorExp elt [⟨tg, iter, ifs, 0⟩] scope pos) 0 (.ref I) .none cenv).onRaise (leaving cenv)) [] s
    rw [compTurn_gen, Sem.onRaise_eq_wrap]
    refine seg_bind_wrap (wpAny_standAt (seg_bind_wrap ((W _ hh2).item i s _ _ hlt hst fun v h1 tk1 hP st1 k1 => ?_)))
    refine seg_bind_wrap (hgo _ _ _ _ _ _ st1 ?_)
    have kp1 : ∀ b ∈ fp, b ∉ wr → ∀ o, h0.get? b = some o → h1.get? b = some o := fun b hb hw o e => k1 b o hw (hkp b hb hw o e)
    refine seg_bind_wrap (B.put _ _ i v _ m _ hh2 hP (hn.at' fun o e => k1 _ o hCw e) kp1 fun h2 m2 tk2 hn2 lc2 k2 => ?_)
    have kp2 : ∀ b ∈ fp, b ∉ wr → ∀ o, h0.get? b = some o → h2.get? b = some o := fun b hb hw o e => k2 b o (neC hb) (kp1 b hb hw o e)
    have st2 : St (i + 1) h2 := (W A hh).frame _ _ _ st1 fun b hb o e => k2 b o (neC hb) e
    refine seg_bind_wrap (wpAny_mono (B.test _ _ i _ m2 hh2 hn2 lc2 kp2) (fun ok s3 q3 => ?_) fun _ _ e => e)
    obtain ⟨rfl, h3, tk3, rfl, k3⟩ := q3
    have st3 : St (i + 1) h3 := (W A hh).frame _ _ _ st2 fun b _ o e => k3 b o e
    have hn3 := hn2.keeps k3
    have kp3 : ∀ b ∈ fp, b ∉ wr → ∀ o, h0.get? b = some o → h3.get? b = some o := fun b hb hw o e => k3 b o (kp2 b hb hw o e)
    have hsn3 : GenSince cenv.locals wr s0 { s with heap := h3, toks := tk3 } := hsn.step fun b o hbC hw e => k3 b o (k2 b o hbC (k1 b o hw e))
    cases hz : pz i with
    | false =>
      rw [passing_false hlt hz]
      simp only [Bool.false_eq_true, if_false]
      exact seg_again rfl (ih (i + 1) s0 _ m2 (by omega) hlt st3 hn3 hsn3 kp3)
    | true =>
      rw [passing_true hlt hz, List.length_cons]
      simp only [if_true]
      have hy : ∀ u, yieldOut cenv u = yieldValue u := fun u => by simp only [yieldOut, hco, Bool.false_eq_true, if_false]
      simp only [hy]
      rw [Sem.bind_eq_wrap', Sem.bind_eq_wrap', Sem.wrap_wrap, Sem.wrap_wrap]
      refine seg_wrap (wpAny_mono (B.val _ _ i _ m2 hh2 hz hn3 lc2 kp3) (fun y s4 q4 => ?_) fun _ _ e => e)
      obtain ⟨hF, h4, tk4, rfl, k4⟩ := q4
      refine seg_at (seg_yield rfl rfl rfl ⟨⟨i, passing_here hlt hz, hF⟩, hsn3.step fun b o _ _ e => k4 b o e, fun s5 al => ?_⟩)
      refine seg_again rfl (ih (i + 1) s5 s5 m2 (by omega) hlt ?_ ?_ (GenSince.refl _ _ _) ?_)
      · exact (W A hh).frame _ _ _ st3 fun b hb o e => al b (List.mem_cons_of_mem _ hb) o (k4 b o e)
      · exact (hn3.keeps k4).at' fun o e => al _ List.mem_cons_self o e
      · exact fun b hb hw o e => al b (List.mem_cons_of_mem _ hb) o (k4 b o (kp3 b hb hw o e))

theorem begins {elt iter tg : Expr} {ifs : List Expr} {scope : Scope} {pos : Pos} {I : Addr} {fp wr : List Addr} {n : Nat} {P : Nat → Value → Prop} {St : Nat → Heap → Prop} {cenv : Env} {pz : Nat → Bool} {F : Nat → Value → Prop} {Lc : Nat → (Str → Option Value) → Prop} {h0 : Heap}
    (hh : A.handled = none) (W : ∀ A' : Around, A'.handled = none → Walks prog w A' I fp wr n P St) (hgo : Still prog w tg I St)
    (hco : cenv.scope.isCoroutine = false) (hC : cenv.locals ∉ fp) (B : Body prog w cenv tg ifs elt fp wr P pz F Lc h0)
    (s0 s : Shared) (m : Str → Option Value) (hst : St 0 s.heap) (hn : s.heap.Ns cenv.locals m) (hsn : GenSince cenv.locals wr s0 s)
    (hkp : ∀ b ∈ fp, b ∉ wr → ∀ o, h0.get? b = some o → s.heap.get? b = some o) :
    Seg (model prog w) A (fun n s₀ r s₁ => r = .ok .next ∧ (n = 0 ∧ GenSince cenv.locals wr s₀ s₁)) (genProto cenv.locals fp wr pz n F) (passing pz n 0).length s0
      (.compStart (.GeneratorExp elt [⟨tg, iter, ifs, 0⟩] scope pos) 0 (.ref I) .none cenv)
      ((model prog w).den (.compStart (.GeneratorExp elt [⟨tg, iter, ifs, 0⟩] scope pos) 0 (.ref I) .none cenv)) [] s := by
  have hh2 : (A.over (.compStart (.GeneratorExp elt [⟨tg, iter, ifs, 0⟩] scope pos) 0 (.ref I) .none cenv) []).handled = none := hh
  have loop := turns (iter := iter) (scope := scope) (pos := pos) hh W hgo hco hC B n 0 s0 s m (Nat.sub_zero _) (Nat.zero_le _) hst hn hsn hkp
  show Seg _ A _ _ _ s0 _ ((compStart (.GeneratorExp elt [⟨tg, iter, ifs, 0⟩] scope pos) 0 (.ref I) .none cenv).onRaise (leaving cenv)) [] s
  unfold compStart
  rw [Sem.onRaise_eq_wrap]
  show Seg _ A _ _ _ s0 _ ((ask >>= _).wrap _ _ _ _) [] s
  refine seg_bind_wrap (wpAny_askSetting ?_)
  split
  · exact seg_again rfl loop
  · first
      | exact seg_bind_wrap (wpAny_rule (seg_bind_wrap (wpAny_standAt (seg_bind_wrap ((W _ hh2).self 0 s _ _ hst (seg_again rfl loop))))))
      | (refine seg_bind_wrap (wpAny_rule ?_)
         show Seg _ A _ _ _ s0 _ ((standAt iter.pos >>= _).wrap _ _ _ _) [] s
         exact seg_bind_wrap (wpAny_standAt (seg_bind_wrap ((W _ hh2).self 0 s _ _ hst (seg_again rfl loop)))))

theorem fresh_at {elt iter tg : Expr} {ifs : List Expr} {scope : Scope} {pos : Pos} {I a : Addr} {g : Nat} {fp wr : List Addr} {n : Nat} {P : Nat → Value → Prop} {St : Nat → Heap → Prop} {cenv : Env} {pz : Nat → Bool} {F : Nat → Value → Prop} {Lc : Nat → (Str → Option Value) → Prop}
    (hh : A.handled = none) (W : ∀ A' : Around, A'.handled = none → Walks prog w A' I fp wr n P St) (hgo : Still prog w tg I St)
    (hco : cenv.scope.isCoroutine = false) (hC : cenv.locals ∉ fp) {s : Shared} {m : Str → Option Value} (B : Body prog w cenv tg ifs elt fp wr P pz F Lc s.heap)
    (hg : s.heap.IsGen a g) (hgs : s.gens[g]? = some (.fresh (.compStart (.GeneratorExp elt [⟨tg, iter, ifs, 0⟩] scope pos) 0 (.ref I) .none cenv)))
    (hst : St 0 s.heap) (hn : s.heap.Ns cenv.locals m) (hl : s.heap.NoLimit) : GenAt prog w A a g cenv.locals fp wr pz n F 0 s := by
  refine ⟨hg, hl, _, hgs, fun s2 al => ⟨rfl, begins (A := A.in1) hh W hgo hco hC B s2 s2 m ?_ ?_ (GenSince.refl _ _ _) ?_⟩⟩
  · exact (W A hh).frame _ _ _ hst fun b hb o e => al b (List.mem_cons_of_mem _ hb) o e
  · exact hn.at' fun o e => al _ List.mem_cons_self o e
  · exact fun b hb _ o e => al b (List.mem_cons_of_mem _ hb) o e
end

section
variable {prog : Program} {w : World} {A : Around} {E : Value → Shared → Prop} {s : Shared}
theorem made {env : Env} {elt iter tg : Expr} {ifs : List Expr} {scope : Scope} {cl : List (Str × Addr)} {pos : Pos} {Q : Value → Shared → Prop}
    (hh : A.handled = none) (hco : scope.isCoroutine = false) (hclos : closureFor scope env = pure cl) (hcell : ∀ y ∈ scope.names, y.2 ≠ .cell) (h0 : scope.names.lookup (".0" : Str) = some NameKind.local)
    (hkind : scope.kind = .function) (hroom : A.depth < recursionLimit)
    (h : wpAny (model prog w) A (eval iter env) (fun xv s1 => wpAny (model prog w) A (pyIter xv) (fun it s2 => s2.heap.NoLimit ∧
      wpAny (model prog w) A (genexprCode env pos (env.qual ++ "<genexpr>") scope) (fun code s3 => wpAny (model prog w) A (builtinsFor env.globals env.builtins) (fun bi s4 =>
        ∃ I fp wr n P St pz F Lc, it = .ref I ∧ (∀ A' : Around, A'.handled = none → Walks prog w A' I fp wr n P St) ∧ Still prog w tg I St ∧ St 0 s4.heap ∧ (∀ b ∈ fp, b < s4.heap.objs.size) ∧ s4.heap.NoLimit ∧ cStatics ∉ wr ∧
          (∀ hr : Heap, (∀ b o, s4.heap.get? b = some o → hr.get? b = some o) →
            Body prog w (genEnv scope cl s4.heap.objs.size code bi env) tg ifs elt (List.range s4.heap.objs.size) wr P pz F Lc hr) ∧
          (∀ a h5 tk gs, gs.bare = true → s4.heap.objs.size < a → h5.objs.size = a + 1 → (∀ b o, s4.heap.get? b = some o → h5.get? b = some o) →
            WalksS prog w A.in4 a (a :: s4.heap.objs.size :: List.range s4.heap.objs.size) (s4.heap.objs.size :: wr) (GenOnlyQ s4.gens.size) (passing pz n 0).length
              (fun j y => ∃ i, (passing pz n 0)[j]? = some i ∧ F i y) (GenAt prog w A.in4 a s4.gens.size s4.heap.objs.size (List.range s4.heap.objs.size) wr pz n F) →
            GenAt prog w A.in4 a s4.gens.size s4.heap.objs.size (List.range s4.heap.objs.size) wr pz n F 0 { s4 with gens := s4.gens.push gs, toks := tk, heap := h5 } →
            Q (.ref a) { s4 with gens := s4.gens.push gs, toks := tk, heap := h5 })) E s3) E s2) E s1) E s)
    (hs : ∀ x, genFold iter env x = pure x) :
    wpAny (model prog w) A (eval (.GeneratorExp elt [⟨tg, iter, ifs, 0⟩] scope pos) env) Q E s := by
  refine wpAny_GeneratorExp_make hco hclos hcell h0 hkind hroom (wpAny_mono h (fun xv s1 q1 => wpAny_mono q1 (fun it s2 q2 => ⟨q2.1, wpAny_mono q2.2 (fun code s3 q3 => wpAny_mono q3 (fun bi s4 q4 => ?_)
    fun _ _ e => e) fun _ _ e => e⟩) fun _ _ e => e) fun _ _ e => e) hs
  obtain ⟨I, fp, wr, n, P, St, pz, F, Lc, rfl, W, hgo, hst, hfp, hl4, hcw, hq, hQ⟩ := q4
  have hclt : cStatics < s4.heap.objs.size := let ⟨_, z, _⟩ := hl4; z.lt
  intro h2 hn2 hs2
  have hsz : h2.objs.size = s4.heap.objs.size + 1 := by rw [hs2.1, Heap.size_push]
  have keep2 : ∀ b o, s4.heap.get? b = some o → h2.get? b = some o := fun b o e => hs2.extBut b o (Nat.ne_of_lt (Heap.lt_size e)) (Heap.get?_push_of_some _ e)
  have hsub : ∀ b ∈ wr, b ∈ List.range s4.heap.objs.size := fun b hb => List.mem_range.mpr (hfp b ((W A hh).sub b hb))
  have haC : h2.objs.size ≠ s4.heap.objs.size := by rw [hsz]; exact Nat.succ_ne_self _
  have haf : h2.objs.size ∉ List.range s4.heap.objs.size := fun z => by have := List.mem_range.mp z; omega
  refine hQ _ _ _ _ rfl (by omega) (by rw [Heap.size_push]) (fun b o e => Heap.get?_push_of_some _ (keep2 b o e)) (WalksS.genexpQ (A := A.in4) hh _ _ _ _ wr pz n F haC haf hsub hroom (List.mem_range.mpr hclt) (Nat.ne_of_lt hclt) hcw) ?_
  refine fresh_at (A := A.in4) (cenv := genEnv scope cl s4.heap.objs.size code bi env) (m := fun y => if y = ".0" then some (.ref I) else none) hh (fun A2 hA => (W A2 hA).mono_fp fun b hb => List.mem_range.mpr (hfp b hb)) hgo hco (fun z => Nat.lt_irrefl _ (List.mem_range.mp z))
    (hq _ fun b o e => Heap.get?_push_of_some _ (keep2 b o e)) ⟨_, _, _, Heap.get?_push_size _ rfl, rfl, rfl, rfl⟩ (Array.getElem?_push_size ..) ((W A hh).frame _ _ _ hst fun b _ o e => Heap.get?_push_of_some _ (keep2 b o e)) (hn2.push _) (hl4.keeps fun b o e => Heap.get?_push_of_some _ (keep2 b o e))
end
end G3

set_option Elab.async false
set_option linter.all false
set_option maxRecDepth 100000
set_option maxHeartbeats 2000000
namespace G3
open PySem PySem.Spec PyProof.Rows L2
open GxR (TabB TabG Tabbed)
/-! ### plain expressions over the names lo (locals) and ce (captured) -/
abbrev Nm := List (Str × V)
def LoOk (m : Str → Option Value) (lo : Nm) : Prop := ∀ p ∈ lo, ∃ u, RelV p.2 u ∧ m p.1 = some u
def CeOk (cells : List (Str × Addr)) (h : Heap) (ce : Nm) : Prop := ∀ p ∈ ce, ∃ c u, cells.lookup p.1 = some c ∧ h.IsCell c (some u) ∧ RelV p.2 u
theorem CeOk.tok {cells : List (Str × Addr)} {h : Heap} {ce : Nm} (x : CeOk cells h ce) : CeOk cells h ce := x
/-- e gives v -/
def GV (prog : Program) (w : World) (scope : Scope) (lo ce : Nm) (e : Expr) (v : V) : Prop :=
  ∀ (cenv : Env) (A : Around) (E : Value → Shared → Prop) (s : Shared) (m : Str → Option Value) (Q : Value → Shared → Prop), cenv.scope = scope → s.heap.Ns cenv.locals m → LoOk m lo → CeOk cenv.cells s.heap ce →
    (∀ u k, RelV v u → Q u { s with toks := k }) → wpAny (model prog w) A (eval e cenv) Q E s
/-- the test e gives b -/
def GT (prog : Program) (w : World) (scope : Scope) (lo ce : Nm) (e : Expr) (b : Bool) : Prop :=
  ∀ (whole : Sem Value) (cenv : Env) (A : Around) (E : Value → Shared → Prop) (s : Shared) (m : Str → Option Value) (Q : Bool → Shared → Prop), cenv.scope = scope → s.heap.Ns cenv.locals m → LoOk m lo → CeOk cenv.cells s.heap ce →
    (∀ k, Q b { s with toks := k }) → wpAny (model prog w) A (isTrue e cenv whole) Q E s
/-- the same where e's own value is what is tested -/
def GT0 (prog : Program) (w : World) (scope : Scope) (lo ce : Nm) (e : Expr) (b : Bool) : Prop :=
  ∀ (cenv : Env) (A : Around) (E : Value → Shared → Prop) (s : Shared) (m : Str → Option Value) (Q : Bool → Shared → Prop), cenv.scope = scope → s.heap.Ns cenv.locals m → LoOk m lo → CeOk cenv.cells s.heap ce →
    (∀ k, Q b { s with toks := k }) → wpAny (model prog w) A (isTrue e cenv (eval e cenv)) Q E s
section
variable {prog : Program} {w : World} {scope : Scope} {lo ce : Nm} {a b : Expr} {pos : Pos}
theorem GT.plain {e : Expr} {c : Bool} (h : GT prog w scope lo ce e c) : GT0 prog w scope lo ce e c := fun cenv => h _ cenv
theorem gv_loc {x : Str} {v : V} (hk : scope.kind = .function) (hl : scope.names.lookup x = some .local) (hm : (x, v) ∈ lo) (hd : (x == ("__debug__" : Str)) = false := by decide) : GV prog w scope lo ce (.Name x pos) v := by
  intro cenv A E s m Q hs hn h1 h2 hQ
  obtain ⟨u, r, e⟩ := h1 _ hm
  have q : Q u s := hQ u s.toks r
  exact wpAny_Name (wpAny_loadName_local (by rw [hs]; exact hk) (show cenv.scope.names.lookup x = some .local by rw [hs]; exact hl) hn e q) hd
theorem gv_free {x : Str} {v : V} (hk : scope.kind = .function) (hl : scope.names.lookup x = some .free) (hm : (x, v) ∈ ce) (hd : (x == ("__debug__" : Str)) = false := by decide) (hcd : (x == ("__classdict__" : Str)) = false := by decide) :
    GV prog w scope lo ce (.Name x pos) v := by
  intro cenv A E s m Q hs hn h1 h2 hQ
  obtain ⟨c, u, e1, e2, r⟩ := h2 _ hm
  have q : Q u s := hQ u s.toks r
  exact wpAny_Name (wpAny_loadName_free (by rw [hs]; exact hk) (show cenv.scope.names.lookup x = some .free by rw [hs]; exact hl) e1 e2 q hcd) hd
theorem gv_str {x : Str} {j : Nat} : GV prog w scope lo ce (.Constant (.str x) j pos) (.str x) := fun cenv A E s m Q hs hn h1 h2 hQ => Calls.Constant_str (hQ _ _ ⟨_, rfl⟩)
theorem gv_int {x : Int} {j : Nat} : GV prog w scope lo ce (.Constant (.int x) j pos) (.int x) := fun cenv A E s m Q hs hn h1 h2 hQ => wpAny_Constant_int (hQ _ _ ⟨_, rfl⟩)
theorem gt_cmp {op : CmpOp} {x y : V} {c : Bool} (ha : GV prog w scope lo ce a x) (hb : GV prog w scope lo ce b y) (h1 : behindInMarks op b = false)
    (rule : ∀ (A : Around) (E : Value → Shared → Prop) (u v : Value) (s : Shared) (Q : Value → Shared → Prop), RelV x u → RelV y v → Q (.bool c) s → wpAny (model prog w) A (compareOp op u v) Q E s) : GT prog w scope lo ce (.Compare a [op] [b] pos) c := by
  intro whole cenv A E s m Q hs hn l1 l2 hQ
  refine wpAny_isTrue_Compare1 (ha cenv A E s m _ hs hn l1 l2 fun u k ru => hb cenv A E _ m _ hs hn l1 l2 fun v k2 rv => ?_) h1
  exact rule A E u v _ _ ru rv (wpAny_truthy_bool (hQ k2))
theorem gt_eqS {x y : Str} (ha : GV prog w scope lo ce a (.str x)) (hb : GV prog w scope lo ce b (.str y)) : GT prog w scope lo ce (.Compare a [.Eq] [b] pos) (decide (x = y)) :=
  gt_cmp ha hb (nobehind _ (by decide) (by decide)) fun A E u v s Q ru rv q => by
    obtain ⟨t, rfl⟩ := ru
    obtain ⟨t2, rfl⟩ := rv
    refine PySem.P.eq_str ?_
    have e : (x.cps.toList == y.cps.toList) = decide (x = y) := by
      by_cases h : x = y
      · subst h
        simp
      · rw [decide_eq_false h, beq_eq_false_iff_ne]
        exact fun z => h (by cases x; cases y; simp only [Str.mk.injEq]; exact Array.toList_inj.mp z)
    rw [e]
    exact q
theorem gt_ge {x y : Int} (ha : GV prog w scope lo ce a (.int x)) (hb : GV prog w scope lo ce b (.int y)) : GT prog w scope lo ce (.Compare a [.GtE] [b] pos) (decide (y ≤ x)) :=
  gt_cmp ha hb (nobehind _ (by decide) (by decide)) fun A E u v s Q ru rv q => by
    obtain ⟨t, rfl⟩ := ru
    obtain ⟨t2, rfl⟩ := rv
    exact PyProof.Rows.ge_int q
theorem gt_le {x y : Int} (ha : GV prog w scope lo ce a (.int x)) (hb : GV prog w scope lo ce b (.int y)) : GT prog w scope lo ce (.Compare a [.LtE] [b] pos) (decide (x ≤ y)) :=
  gt_cmp ha hb (nobehind _ (by decide) (by decide)) fun A E u v s Q ru rv q => by
    obtain ⟨t, rfl⟩ := ru
    obtain ⟨t2, rfl⟩ := rv
    exact PyProof.Rows.le_int q
theorem gt_and2 {c d : Bool} (ha : GT prog w scope lo ce a c) (hb : GT prog w scope lo ce b d) : GT prog w scope lo ce (.BoolOp .And [a, b] pos) (c && d) := by
  intro whole cenv A E s m Q hs hn l1 l2 hQ
  refine isTrue_and (ha.plain cenv A E s m _ hs hn l1 l2 fun k => ?_)
  cases c with
  | false => exact hQ k
  | true =>
    refine isTrue_and (hb.plain cenv A E _ m _ hs hn l1 l2 fun k2 => ?_)
    cases d with
    | false => exact hQ k2
    | true => exact isTrue_and_nil (hQ k2)
end
/-! ### the rows that are walked -/
/-- xs: the addresses of tuples that hold the rows -/
def Rows (K : PySem.W.Frag) (H : Hp) (xs : List V) (rows : List (List V)) : Prop := Paired (fun x r => ∃ t, x = .ref t ∧ SqT K H t r) xs rows
theorem Rows.get {K : PySem.W.Frag} {H : Hp} : ∀ {xs : List V} {rows : List (List V)} {i : Nat} {x : V}, Rows K H xs rows → xs[i]? = some x → ∃ t r, x = .ref t ∧ rows[i]? = some r ∧ SqT K H t r
  | _, _, _, _, .nil, e => by simp at e
  | _, _, 0, _, .cons r _, e => by
    have e2 := Option.some.inj e
    subst e2
    obtain ⟨t, h1, h2⟩ := r
    exact ⟨t, _, h1, rfl, h2⟩
  | _, _, i + 1, x, .cons _ t, e => by
    obtain ⟨t2, r, h1, h2, h3⟩ := Rows.get (i := i) (x := x) t (by simpa using e)
    exact ⟨t2, r, h1, by simpa using h2, h3⟩
theorem Rows.length {K : PySem.W.Frag} {H : Hp} {xs : List V} {rows : List (List V)} (h : Rows K H xs rows) : xs.length = rows.length := Paired.length h
/-! ### sums -/
theorem preSum_of {α : Type} (l : List α) (g : α → Int) (f : Nat → Int) (hf : ∀ j a, l[j]? = some a → f j = g a) : ∀ k, k ≤ l.length → preSum f k = ((l.take k).map g).sum
  | 0, _ => by simp [preSum]
  | k + 1, h => by
    have hk : k < l.length := h
    rw [preSum, preSum_of l g f hf k (Nat.le_of_lt hk), hf k _ (List.getElem?_eq_getElem hk), List.take_add_one, List.getElem?_eq_getElem hk, Option.toList_some, List.map_append, List.sum_append]
    simp
theorem preSum_all {α : Type} (l : List α) (g : α → Int) (f : Nat → Int) (hf : ∀ j a, l[j]? = some a → f j = g a) : preSum f l.length = (l.map g).sum := by
  rw [preSum_of l g f hf _ (Nat.le_refl _), List.take_length]
theorem range_rows {α : Type} (l : List α) (d : α) : l = (List.range l.length).map fun i => l.getD i d := by
  refine List.ext_getElem? fun i => ?_
  rw [List.getElem?_map]
  by_cases h : i < l.length
  · rw [List.getElem?_range h, List.getElem?_eq_getElem h]
    simp [List.getD, h]
  · rw [List.getElem?_eq_none (by omega), List.getElem?_eq_none (by simp; omega)]
    rfl
theorem passing_rows {α : Type} (l : List α) (d : α) (p : α → Bool) : (passing (fun i => p (l.getD i d)) l.length 0).map (fun i => l.getD i d) = l.filter p := by
  unfold passing
  rw [List.drop_zero]
  conv => rhs; rw [range_rows l d, List.filter_map]
  rfl
end G3

set_option Elab.async false
set_option linter.all false
set_option maxRecDepth 100000
set_option maxHeartbeats 400000
namespace G3
open PySem PySem.Spec PyProof.Rows L2
open GxR (TabB TabG Tabbed)
/-- the generator expression's own scope -/
structure GS (env : Env) (scope : Scope) : Prop where
  kind : scope.kind = .function
  co : scope.isCoroutine = false
  cell : ∀ y ∈ scope.names, y.2 ≠ .cell
  dot : scope.names.lookup (".0" : Str) = some NameKind.local
  free : (scope.names.all fun y => (y.2 != .free) || (env.kindOf y.1 == some .cell)) = true
/-- the captured names with their slots, as they stand -/
def Caught (X : Cx) (scope : Scope) (ces : List (Str × Nat)) : Prop :=
  ∀ p ∈ ces, X.N[p.2]? = some p.1 ∧ X.env.kindOf p.1 = some .cell ∧ (cloFrom X.env.cells scope.names []).lookup p.1 = some ((X.env.cells.lookup p.1).getD 0)
def slots (σ : L2.St) (ces : List (Str × Nat)) (cvs : List V) : Prop := ces.map (fun p => σ[p.2]?) = cvs.map fun v => some (some v)
def nmOf (ces : List (Str × Nat)) (cvs : List V) : Nm := (ces.map (·.1)).zip cvs
section
variable {X : Cx} {pins : List (Addr × Obj)} {σ : L2.St} {H : Hp} {s : Shared}
theorem caught_ok {scope : Scope} : ∀ {ces : List (Str × Nat)} {cvs : List V}, Caught X scope ces → slots σ ces cvs → Inv X pins σ H s → CeOk (cloFrom X.env.cells scope.names []) s.heap (nmOf ces cvs)
  | [], _, _, _, _ => fun p hp => by simp [nmOf] at hp
  | c :: ces, [], _, hs, _ => by simp [slots] at hs
  | c :: ces, v :: cvs, hc, hs, I => fun p hp => by
    simp only [slots, List.map_cons, List.cons.injEq] at hs
    rcases List.mem_cons.mp (show p ∈ (c.1, v) :: nmOf ces cvs from hp) with e | e
    · subst e
      obtain ⟨h1, h2, h3⟩ := hc c List.mem_cons_self
      obtain ⟨m, _, hl⟩ := I.loc
      obtain ⟨u, r, l⟩ := hl c.2 c.1 v h1 hs.1 (.inr (.inl h2))
      rcases l with ⟨k, _⟩ | ⟨_, a, e1, e2⟩
      · rw [h2] at k
        cases k
      · exact ⟨a, u, by rw [h3, e1] <;> rfl, e2, r⟩
    · exact caught_ok (fun q hq => hc q (List.mem_cons_of_mem _ hq)) hs.2 I p e

/-- the generator g over the rows, ready to be walked -/
def Ready (X : Cx) (pins : List (Addr × Obj)) (σ : L2.St) (H1 : Hp) (P : Addr) (vals : List V) (g : Addr) (s5 : Shared) : Prop :=
  ∃ (fp wr : List Addr) (G : Array GenState → Array GenState → Prop) (F : Nat → Value → Prop) (St : Nat → Shared → Prop),
    WalksS X.prog X.w X.A.in1 g fp wr G vals.length F St ∧ St 0 s5 ∧ (∀ b ∈ fp, b < s5.heap.objs.size) ∧
    (∀ j u, F j u → ∃ v, vals[j]? = some v ∧ RelV v u) ∧
    ∀ s', Moved wr G s5 s' → ∃ H2, Tabbed P H1 H2 ∧ Inv X pins σ H2 s'

theorem put3 {prog : Program} {w : World} {A : Around} {E : Value → Shared → Prop} {s : Shared} {cenv : Env} {xa xb xc : Str} {pa pb pc pt : Pos} {kt : Nat} {T : Addr} {va vb vc : Value} {m : Str → Option Value} {Q : Unit → Shared → Prop}
    (hh : A.handled = none) (hT : s.heap.IsTuple T #[va, vb, vc]) (ha : cenv.kindOf xa = some .local) (hb : cenv.kindOf xb = some .local) (hc : cenv.kindOf xc = some .local) (hab : xa ≠ xb) (hac : xa ≠ xc) (hbc : xb ≠ xc)
    (hp : (cenv.scope.kind == .class || (cenv.scope.kind == .module && cenv.locals != cenv.globals)) = false) (hn : s.heap.Ns cenv.locals m)
    (h : ∀ h' m' tk, h'.Ns cenv.locals m' → (m' xa = some va ∧ m' xb = some vb ∧ m' xc = some vc) → (∀ b o, b ≠ cenv.locals → s.heap.get? b = some o → h'.get? b = some o) → Q () { s with heap := h', toks := tk }) :
    wpAny (model prog w) A (assign (.Tuple [.Name xa pa, .Name xb pb, .Name xc pc] kt pt) cenv (.ref T)) Q E s := by
  refine wpAny_assign_Tuple hh hT rfl rfl fun h1 hx => ?_
  have old : ∀ b o, s.heap.get? b = some o → h1.get? b = some o := fun b o e => hx b o (Nat.ne_of_lt (Heap.lt_size e)) e
  show wpAny _ _ (do holding [vb, vc] (assign (.Name xa pa) cenv va); do holding [vc] (assign (.Name xb pb) cenv vb); do holding [] (assign (.Name xc pc) cenv vc); pure ()) _ _ _
  refine wpAny_bind (wpAny_holding (wpAny_assign_Name (wpAny_storeName_local ha (hn.keeps old) (fun h2 n2 b2 => ?_) hp)))
  refine wpAny_bind (wpAny_holding (wpAny_assign_Name (wpAny_storeName_local hb n2 (fun h3 n3 b3 => ?_) hp)))
  refine wpAny_bind (wpAny_holding (wpAny_assign_Name (wpAny_storeName_local hc n3 (fun h4 n4 b4 => ?_) hp)))
  refine wpAny_pure (h h4 _ _ n4 ⟨by simp [hab, hac], by simp [hbc], by simp⟩ fun b o hb e => ?_)
  exact b4.extBut b o hb (b3.extBut b o hb (b2.extBut b o hb (old b o e)))

theorem vals3 {r : List V} {vs : List Value} (h : Vals r vs) (h3 : r.length = 3) : ∃ ra rb rc va vb vc, r = [ra, rb, rc] ∧ vs = [va, vb, vc] ∧ RelV ra va ∧ RelV rb vb ∧ RelV rc vc := by
  cases h with
  | nil => cases h3
  | cons r1 h =>
    cases h with
    | nil => cases h3
    | cons r2 h =>
      cases h with
      | nil => cases h3
      | cons r3 h =>
        cases h with
        | nil => exact ⟨_, _, _, _, _, _, rfl, rfl, r1, r2, r3⟩
        | cons r4 h => simp at h3
theorem loOk3 {m : Str → Option Value} {xa xb xc : Str} {ra rb rc : V} {va vb vc : Value} (r1 : RelV ra va) (r2 : RelV rb vb) (r3 : RelV rc vc) (l1 : m xa = some va) (l2 : m xb = some vb) (l3 : m xc = some vc) : LoOk m ([xa, xb, xc].zip [ra, rb, rc]) := by
  show LoOk m [(xa, ra), (xb, rb), (xc, rc)]
  intro p hp
  rcases List.mem_cons.mp hp with z | hp
  · rw [z]
    exact ⟨va, r1, l1⟩
  rcases List.mem_cons.mp hp with z | hp
  · rw [z]
    exact ⟨vb, r2, l2⟩
  rcases List.mem_cons.mp hp with z | hp
  · rw [z]
    exact ⟨vc, r3, l3⟩
  · cases hp
theorem tup3 {h : Heap} {t : Addr} {r : List V} {vs : List Value} (hT : h.IsTuple t vs.toArray) (hv : Vals r vs) (h3 : r.length = 3) :
    ∃ va vb vc, h.IsTuple t #[va, vb, vc] ∧ ∀ (m : Str → Option Value) (xa xb xc : Str), m xa = some va → m xb = some vb → m xc = some vc → LoOk m ([xa, xb, xc].zip r) := by
  obtain ⟨ra, rb, rc, va, vb, vc, e1, e2, r1, r2, r3⟩ := vals3 hv h3
  rw [e2] at hT
  refine ⟨va, vb, vc, hT, fun m xa xb xc l1 l2 l3 => ?_⟩
  rw [e1]
  exact loOk3 r1 r2 r3 l1 l2 l3
theorem gen3 {c P : Addr} {elt iter : Expr} {xa xb xc : Str} {pa pb pc pt : Pos} {kt : Nat} {ifs : List Expr} {gpos : Pos} {scope : Scope} {ces : List (Str × Nat)} {Good : List V → List V → Prop} {pz : List V → List V → Bool} {val : List V → List V → V} {te : TE} {k : Nat}
    {Q' : Value → Shared → Prop} {R : List V → List (List V) → Hp → Prop}
    (hr : Room k X.A) (TB : TabB X.base X.mg c P) (hcode : X.env.code = .ref c) (S : GS X.env scope) (hi : PE X iter te) (hce : Caught X scope ces)
    (ha : scope.names.lookup xa = some .local) (hb : scope.names.lookup xb = some .local) (hc : scope.names.lookup xc = some .local) (hab : xa ≠ xb) (hac : xa ≠ xc) (hbc : xb ≠ xc)
    (h3 : ∀ cvs r, Good cvs r → r.length = 3)
    (ht : ∀ cvs r (cenv : Env) (A : Around) (E : Value → Shared → Prop) (s : Shared) (m : Str → Option Value) (Q : Bool → Shared → Prop), Good cvs r → cenv.scope = scope → s.heap.Ns cenv.locals m → LoOk m ([xa, xb, xc].zip r) → CeOk cenv.cells s.heap (nmOf ces cvs) →
      (∀ k, Q (pz cvs r) { s with toks := k }) → wpAny (model X.prog X.w) A (forIn ifs true fun c r => if r = true then do let ok ← isTrue c cenv (eval c cenv); pure (ForInStep.yield ok) else pure (ForInStep.yield r)) Q E s)
    (hv : ∀ cvs r, Good cvs r → pz cvs r = true → GV X.prog X.w scope ([xa, xb, xc].zip r) (nmOf ces cvs) elt (val cvs r))
    (hs : ∀ v, genFold iter X.env v = pure v) (I : Inv X pins σ H s)
    (h : te σ H fun v H1 => ∃ (yl : Addr) (xs : List V) (rows : List (List V)) (cvs : List V), v = .ref yl ∧ SqL X.K H1 yl xs ∧ Rows X.K H1 xs rows ∧ slots σ ces cvs ∧ (∀ r ∈ rows, Good cvs r) ∧ TabG H1 P ∧ R cvs rows H1)
    (hQ : ∀ cvs rows H1 g s5, R cvs rows H1 → Ready X pins σ H1 P ((rows.filter (pz cvs)).map (val cvs)) g s5 → Q' (.ref g) s5) :
    wpAny (model X.prog X.w) X.A (eval (.GeneratorExp elt [⟨.Tuple [.Name xa pa, .Name xb pb, .Name xc pc] kt pt, iter, ifs, 0⟩] scope gpos) X.env) Q' X.xe s := by
  have hfree : ∀ y ∈ scope.names, y.2 = .free → ∃ c, X.env.cells.lookup y.1 = some c := fun y hy e => by
    have h1 := List.all_eq_true.mp S.free y hy
    rw [e] at h1
    exact I.ok.has _ (.inl (by simpa using h1))
  refine made hr.hd S.co (closure_ok hfree) S.cell S.dot S.kind (by have := hr.dp; omega) ?_ hs
  refine thn (hi.run pins s σ H _ I h) fun xv s1 q => ?_
  obtain ⟨v, H1, I1, r1, yl, xs, rows, cvs, rfl, hyl, hrw, hsl, hgood, ⟨ps, hP, htr⟩, q1⟩ := q
  obtain rfl : xv = Value.ref yl := r1
  obtain ⟨its, rv, hl, hz⟩ := I1.list hyl
  have hIL := hl.isList
  have hlen : its.length = rows.length := by rw [← rv.length, hrw.length]
  have hlen2 : its.toArray.size = rows.length := by rw [List.size_toArray, hlen]
  have ce1 := caught_ok hce hsl I1
  have hat : ∀ (i : Nat) (v : Value), its.toArray[i]? = some v → ∃ t r, v = .ref t ∧ rows[i]? = some r ∧ SqT X.K H1 t r := fun i v hv => by
    have hv2 : its[i]? = some v := by simpa using hv
    have hi2 : i < its.length := (List.getElem?_eq_some_iff.mp hv2).1
    have hi3 : i < xs.length := by rw [rv.length]; exact hi2
    obtain ⟨u, hu, ru⟩ := rv.get (List.getElem?_eq_getElem hi3)
    obtain ⟨t, r, e1, e2, e3⟩ := hrw.get (List.getElem?_eq_getElem hi3)
    rw [hv2] at hu
    cases hu
    rw [e1] at ru
    exact ⟨t, r, ru, e2, e3⟩
  refine wpAny_pyIter_list hIL ?_
  generalize ho : ({ cls := .type "list_iterator", data := .fields #[.ref yl, .int 0 0] } : Obj) = o
  have hitr : (s1.heap.push o).IsListIter s1.heap.objs.size yl 0 := by
    subst ho
    exact ⟨_, Heap.get?_push_size _ rfl, rfl, rfl⟩
  have hylt : yl < s1.heap.objs.size := let ⟨_, e, _⟩ := _root_.id hIL; Heap.lt_size e
  have hPs : s1.heap.get? P = some { cls := .none, data := .fields ps } := I1.hok P _ hP
  have hPlt : P < s1.heap.objs.size := Heap.lt_size hPs
  have hP2 : (s1.heap.push o).get? P = some { cls := .none, data := .fields ps } := Heap.get?_push_of_some _ hPs
  have cd : PySem.W.CodeHd (s1.heap.push o) c P := TB.code.keeps fun b u e => Heap.get?_push_of_some _ (I1.bk b u e)
  have lim2 : (s1.heap.push o).NoLimit := I1.nolimit.push o
  have sz2 : (s1.heap.push o).objs.size = s1.heap.objs.size + 1 := Heap.size_push ..
  refine ⟨lim2, ?_⟩
  have hcP : cStatics ≠ P := fun e => by
    obtain ⟨_, hns, _⟩ := I1.nolimit
    obtain ⟨o', es, ep, ho, hd, _⟩ := hns
    rw [e, hPs] at ho
    cases ho
    cases hd
  have hcl : cStatics < s1.heap.objs.size := let ⟨_, hns, _⟩ := I1.nolimit; hns.lt
  have hylP : yl ≠ P := fun z => by
    obtain ⟨_, e, hc1, _, hd1⟩ := _root_.id hIL
    rw [z, hPs] at e
    cases e
    cases hd1
  -- what the code's coming leaves: h3, the table's entries ps'
  suffices cont : ∀ (code : Value) (h3 : Heap) (tk : Nat) (ps' : Array Value), Heap.ExtBut P (s1.heap.push o) h3 → (s1.heap.push o).objs.size ≤ h3.objs.size → h3.get? P = some { cls := .none, data := .fields ps' } → (∃ more, ps' = ps ++ more) → TriplesOk ps'.toList →
      wpAny (model X.prog X.w) X.A (builtinsFor X.env.globals X.env.builtins) (fun bi s4 => ∃ Ia fp wr n Pq St pq F Lc, Value.ref s1.heap.objs.size = .ref Ia ∧ (∀ A' : Around, A'.handled = none → Walks X.prog X.w A' Ia fp wr n Pq St) ∧ Still X.prog X.w (.Tuple [.Name xa pa, .Name xb pb, .Name xc pc] kt pt) Ia St ∧ St 0 s4.heap ∧ (∀ b ∈ fp, b < s4.heap.objs.size) ∧ s4.heap.NoLimit ∧ cStatics ∉ wr ∧
          (∀ href : Heap, (∀ b o, s4.heap.get? b = some o → href.get? b = some o) →
            Body X.prog X.w (genEnv scope (cloFrom X.env.cells scope.names []) s4.heap.objs.size code bi X.env) (.Tuple [.Name xa pa, .Name xb pb, .Name xc pc] kt pt) ifs elt (List.range s4.heap.objs.size) wr Pq pq F Lc href) ∧
          (∀ a h5 tk gs, gs.bare = true → s4.heap.objs.size < a → h5.objs.size = a + 1 → (∀ b o, s4.heap.get? b = some o → h5.get? b = some o) →
            WalksS X.prog X.w X.A.in4 a (a :: s4.heap.objs.size :: List.range s4.heap.objs.size) (s4.heap.objs.size :: wr) (GenOnlyQ s4.gens.size) (passing pq n 0).length
              (fun j y => ∃ i, (passing pq n 0)[j]? = some i ∧ F i y) (GenAt X.prog X.w X.A.in4 a s4.gens.size s4.heap.objs.size (List.range s4.heap.objs.size) wr pq n F) →
            GenAt X.prog X.w X.A.in4 a s4.gens.size s4.heap.objs.size (List.range s4.heap.objs.size) wr pq n F 0 { s4 with gens := s4.gens.push gs, toks := tk, heap := h5 } →
            Q' (.ref a) { s4 with gens := s4.gens.push gs, toks := tk, heap := h5 })) X.xe { s1 with heap := h3, toks := tk } by
    cases hf : codeAmong gpos ps.toList with
    | none =>
      refine wpAny_genexprCodeX hcode (cd.code hP2 htr) (cd.tab hP2) hf fun c' h' tk hx hge hlt hco' _ htab' _ => ?_
      obtain ⟨o1, vs, f1, tf, fl, tg, inF, tx, tt, op, _, _, _, _, _, _, _, _, _, htr2, _⟩ := hco'
      exact cont _ h' tk _ hx (Nat.le_trans hge (Nat.le_of_lt hlt)) htab'.2 ⟨_, rfl⟩ htr2
    | some cv =>
      refine wpAny_genexprCode_hit hcode (cd.code hP2 htr) hf ?_
      exact cont cv (s1.heap.push o) s1.toks ps (Heap.ExtBut.refl _ _) (Nat.le_refl _) hP2 ⟨#[], by simp⟩ htr
  intro code h3' tk ps' hx hsz hP3 hmore ht3
  obtain ⟨bm, ob, e1, e2, e3, e4, e5, e6, e7, e8⟩ := TB.bm
  have keep3 : ∀ b u, b ≠ P → s1.heap.get? b = some u → h3'.get? b = some u := fun b u hb e => hx b u hb (Heap.get?_push_of_some _ e)
  refine wpAny_builtinsFor (m := X.mg) (by rw [I1.ok.glob]; exact ((I1.mod.glob.keeps I1.bk).push o).extBut hx TB.gP) e1 e2 (keep3 _ _ e4 (I1.bk _ _ e5)) e6 e7 e8 ?_
  have hIL3 : h3'.IsList yl its.toArray := by
    obtain ⟨ob, e, r⟩ := _root_.id hIL
    exact ⟨ob, keep3 _ _ hylP e, r⟩
  have hItr3 : h3'.IsListIter s1.heap.objs.size yl 0 := hitr.at fun u e => hx _ u (Nat.ne_of_gt hPlt) e
  have tupP : ∀ {t : Addr} {r : List V}, SqT X.K H1 t r → ∃ vs : List Value, Vals r vs ∧ t < s1.heap.objs.size ∧ h3'.IsTuple t vs.toArray := fun {t r} q => by
    obtain ⟨vs, rvs, ht1, _⟩ := I1.tuple q
    obtain ⟨ob, g1, g2, g3⟩ := _root_.id ht1
    refine ⟨vs, rvs, Heap.lt_size g1, ob, keep3 _ _ (fun z => ?_) g1, g2, g3⟩
    rw [z, hPs] at g1
    cases g1
    cases g2
  have cellP : CeOk (cloFrom X.env.cells scope.names []) h3' (nmOf ces cvs) := fun p hp => by
    obtain ⟨a, u, f1, ⟨ob, f2, f3⟩, f4⟩ := ce1 p hp
    refine ⟨a, u, f1, ⟨ob, keep3 _ _ (fun z => ?_) f2, f3⟩, f4⟩
    rw [z, hPs] at f2
    cases f2
    cases f3
  refine ⟨s1.heap.objs.size, [s1.heap.objs.size, yl], [s1.heap.objs.size], its.toArray.size, (fun i v => its.toArray[i]? = some v), (fun i h => h.IsListIter s1.heap.objs.size yl i ∧ h.IsList yl its.toArray), (fun i => pz cvs (rows.getD i [])),
    (fun i y => ∃ r, rows[i]? = some r ∧ RelV (val cvs r) y), (fun i m => ∃ r, rows[i]? = some r ∧ LoOk m ([xa, xb, xc].zip r)), rfl, (fun A' hA => Walks.list hA _ _ (Nat.ne_of_lt hylt) _), ?_, ⟨hItr3, hIL3⟩, ?_, lim2.extBut hx hcP, ?_, ?_, ?_⟩
  · intro A' i v s Q E st hQ
    obtain ⟨⟨oi, g1, g2, g3⟩, _⟩ := st
    exact go_of g1 g2 g3 (by decide) hQ
  · intro b hb
    have e9 : s1.heap.objs.size + 1 ≤ h3'.objs.size := by rw [← sz2]; exact hsz
    have hb2 : b ≤ s1.heap.objs.size := by
      rcases List.mem_cons.mp hb with z | z
      · exact Nat.le_of_eq z
      · rcases List.mem_cons.mp z with z | z
        · rw [z]
          exact Nat.le_of_lt hylt
        · cases z
    exact Nat.lt_of_lt_of_le (Nat.lt_succ_of_le hb2) e9
  · intro z
    rcases List.mem_cons.mp z with z | z
    · exact Nat.ne_of_lt hcl z
    · cases z
  · intro href hhref
    have keepR : ∀ {s₂ : Shared} {b : Addr} {u : Obj}, (∀ b ∈ List.range h3'.objs.size, b ∉ [s1.heap.objs.size] → ∀ o, href.get? b = some o → s₂.heap.get? b = some o) → b < s1.heap.objs.size → h3'.get? b = some u → s₂.heap.get? b = some u := fun {s₂ b u} hk hb e =>
      hk b (List.mem_range.mpr (Heap.lt_size e)) (fun z => by rw [List.mem_singleton.mp z] at hb; exact Nat.lt_irrefl _ hb) u (hhref b u e)
    have gk : (genEnv scope (cloFrom X.env.cells scope.names []) h3'.objs.size code builtinsNs X.env).scope = scope := rfl
    have ceK : ∀ {s₂ : Shared}, (∀ b ∈ List.range h3'.objs.size, b ∉ [s1.heap.objs.size] → ∀ o, href.get? b = some o → s₂.heap.get? b = some o) → CeOk (cloFrom X.env.cells scope.names []) s₂.heap (nmOf ces cvs) := fun {s₂} hk p hp => by
      obtain ⟨a, u, f1, ⟨ob, f2, f3⟩, f4⟩ := ce1 p hp
      obtain ⟨a', u', f1', ⟨ob', f2', f3'⟩, f4'⟩ := cellP p hp
      rw [f1] at f1'
      cases f1'
      exact ⟨a, u', f1, ⟨ob', keepR hk (Heap.lt_size f2) f2', f3'⟩, f4'⟩
    refine ⟨fun A' E' i v s₂ m₂ Q hA hPv hn hk hQ => ?_, fun A' E' i s₂ m₂ hA hn hL hk => ?_, fun A' E' i s₂ m₂ hA hp hn hL hk => ?_⟩
    · obtain ⟨t, r, rfl, hri, hT⟩ := hat i v hPv
      obtain ⟨vs, rvs, htl, hTu⟩ := tupP hT
      have hl3 : r.length = 3 := h3 cvs r (hgood r (List.mem_of_getElem? hri))
      obtain ⟨va, vb, vc, ⟨ob, g1, g2⟩, hlo⟩ := tup3 hTu rvs hl3
      exact put3 hA ⟨ob, keepR hk htl g1, g2⟩ ha hb hc hab hac hbc (by rw [gk, S.kind] <;> rfl) hn fun h' m' tk n' lm kk => hQ h' m' tk n' ⟨r, hri, hlo m' _ _ _ lm.1 lm.2.1 lm.2.2⟩ kk
    · obtain ⟨r, hri, lo⟩ := hL
      have er : rows.getD i [] = r := by rw [List.getD_eq_getElem?_getD, hri] <;> rfl
      refine ht cvs r _ A' E' s₂ m₂ _ (hgood r (List.mem_of_getElem? hri)) gk hn lo (ceK hk) fun k' => ⟨by rw [er], GxR.keeps_tok _ _⟩
    · obtain ⟨r, hri, lo⟩ := hL
      have er : rows.getD i [] = r := by rw [List.getD_eq_getElem?_getD, hri] <;> rfl
      have hp2 : pz cvs r = true := by
        have hp' : pz cvs (rows.getD i []) = true := hp
        rw [er] at hp'
        exact hp'
      exact hv cvs r (hgood r (List.mem_of_getElem? hri)) hp2 _ A' E' s₂ m₂ _ gk hn lo (ceK hk) fun u k' ru => ⟨⟨r, hri, ru⟩, GxR.keeps_tok _ _⟩
  · intro g h5 tk5 gs hgb hag hsz5 hk5 W5 hgat
    have hn5 : its.toArray.size = rows.length := hlen2
    rw [hn5] at W5 hgat
    have hpl : (passing (fun i => pz cvs (rows.getD i [])) rows.length 0).map (fun i => rows.getD i []) = rows.filter (pz cvs) := passing_rows rows [] (pz cvs)
    have hpn : (passing (fun i => pz cvs (rows.getD i [])) rows.length 0).length = ((rows.filter (pz cvs)).map (val cvs)).length := by rw [List.length_map, ← hpl, List.length_map]
    rw [hpn] at W5
    refine hQ cvs rows H1 g _ q1 ⟨_, _, _, _, _, W5.in4_1, hgat, ?_, ?_, fun s' hm => ?_⟩
    · intro b hb
      show b < h5.objs.size
      have e5 : h5.objs.size = g + 1 := hsz5
      have h8 : h3'.objs.size < g := hag
      rw [e5]
      rcases List.mem_cons.mp hb with z | z
      · rw [z]
        exact Nat.lt_succ_self g
      · rcases List.mem_cons.mp z with z | z
        · rw [z]
          exact Nat.lt_succ_of_lt h8
        · exact Nat.lt_succ_of_lt (Nat.lt_trans (List.mem_range.mp z) h8)
    · intro j u hu
      obtain ⟨i, hij, r, hri, ru⟩ := hu
      refine ⟨val cvs r, ?_, ru⟩
      have e : ((passing (fun i => pz cvs (rows.getD i [])) rows.length 0).map (fun i => rows.getD i []))[j]? = some r := by
        rw [List.getElem?_map, hij]
        show some (rows.getD i []) = some r
        rw [List.getD_eq_getElem?_getD, hri] <;> rfl
      rw [hpl] at e
      rw [List.getElem?_map, e] <;> rfl
    · obtain ⟨more, em⟩ := hmore
      have nwr : ∀ b u, s1.heap.get? b = some u → b ∉ h3'.objs.size :: [s1.heap.objs.size] := fun b u e hb => by
        have hl := Heap.lt_size e
        rcases List.mem_cons.mp hb with z | z
        · rw [z] at hl
          have h9 : (h3'.objs.size : Nat) < s1.heap.objs.size := hl
          omega
        · rcases List.mem_cons.mp z with z | z
          · rw [z] at hl
            exact Nat.lt_irrefl _ hl
          · cases z
      have J := GxR.inv_tab (more := more) (h' := s'.heap) (g' := s'.gens) (d' := s'.drawn) (t' := s'.toks) I1 hP (fun b u hb e => hm.heap b u (nwr b u e) (hk5 b u (keep3 b u hb e)))
        (by rw [← em]; exact hm.heap P _ (nwr P _ hPs) (hk5 P _ hP3)) (AllBare.movedS (I1.bare.push hgb) hm)
      rw [GxR.sh_eta s1 s' hm.os] at J
      exact ⟨upd H1 P (.tbl (ps ++ more)), ⟨⟨ps ++ more, upd_same, by rw [← em]; exact ht3⟩, fun b hb => upd_ne hb⟩, J⟩
/-- sum(elt for xa, xb, xc in te if ..) -/
def tSumG (K : PySem.W.Frag) (P : Addr) (ces : List (Str × Nat)) (Good : List V → List V → Prop) (pz : List V → List V → Bool) (val : List V → List V → Int) (te : TE) : TE := fun σ H Q => te σ H fun v H1 =>
  ∃ (yl : Addr) (xs : List V) (rows : List (List V)) (cvs : List V), v = .ref yl ∧ SqL K H1 yl xs ∧ Rows K H1 xs rows ∧ slots σ ces cvs ∧ (∀ r ∈ rows, Good cvs r) ∧ TabG H1 P ∧
    ∀ H2, Tabbed P H1 H2 → Q (.int ((rows.filter (pz cvs)).map (val cvs)).sum) H2
theorem pe_sumG {c P : Addr} {elt iter : Expr} {xa xb xc : Str} {pa pb pc pt : Pos} {kt : Nat} {ifs : List Expr} {p pos gpos : Pos} {scope : Scope} {ces : List (Str × Nat)} {Good : List V → List V → Prop} {pz : List V → List V → Bool} {val : List V → List V → Int} {te : TE} {k : Nat}
    (hr : Room k X.A) (hg : Gl X "sum") (hm : X.mg "sum" = none) (TB : TabB X.base X.mg c P) (hcode : X.env.code = .ref c) (S : GS X.env scope) (hi : PE X iter te) (hce : Caught X scope ces)
    (ha : scope.names.lookup xa = some .local) (hb : scope.names.lookup xb = some .local) (hc : scope.names.lookup xc = some .local) (hab : xa ≠ xb) (hac : xa ≠ xc) (hbc : xb ≠ xc)
    (h3 : ∀ cvs r, Good cvs r → r.length = 3)
    (ht : ∀ cvs r (cenv : Env) (A : Around) (E : Value → Shared → Prop) (s : Shared) (m : Str → Option Value) (Q : Bool → Shared → Prop), Good cvs r → cenv.scope = scope → s.heap.Ns cenv.locals m → LoOk m ([xa, xb, xc].zip r) → CeOk cenv.cells s.heap (nmOf ces cvs) →
      (∀ k, Q (pz cvs r) { s with toks := k }) → wpAny (model X.prog X.w) A (forIn ifs true fun c r => if r = true then do let ok ← isTrue c cenv (eval c cenv); pure (ForInStep.yield ok) else pure (ForInStep.yield r)) Q E s)
    (hv : ∀ cvs r, Good cvs r → pz cvs r = true → GV X.prog X.w scope ([xa, xb, xc].zip r) (nmOf ces cvs) elt (.int (val cvs r)))
    (hs : ∀ v, genFold iter X.env v = pure v)
    (he : starEach [.GeneratorExp elt [⟨.Tuple [.Name xa pa, .Name xb pb, .Name xc pc] kt pt, iter, ifs, 0⟩] scope gpos] X.env = (false, eval (.GeneratorExp elt [⟨.Tuple [.Name xa pa, .Name xb pb, .Name xc pc] kt pt, iter, ifs, 0⟩] scope gpos) X.env) :: starEach [] X.env := by rfl) :
    PE X (.Call (.Name "sum" p) [.GeneratorExp elt [⟨.Tuple [.Name xa pa, .Name xb pb, .Name xc pc] kt pt, iter, ifs, 0⟩] scope gpos] [] pos) (tSumG X.K P ces Good pz val te) := by
  refine ⟨fun pins s σ H Q I h => ?_⟩
  refine wpAny_Call_Name_kw (ld_blt I hg hm boot_sum ?_)
  refine PyProof.Rows.callWith_builtin1 ?_ he (by rfl)
  rw [he]
  show wpAny _ _ (spliced ((false, eval (.GeneratorExp elt [⟨.Tuple [.Name xa pa, .Name xb pb, .Name xc pc] kt pt, iter, ifs, 0⟩] scope gpos) X.env) :: backTo pos (starEach [] X.env))) _ _ s
  refine Calls.spliced_cons (gen3 (val := fun cvs r => .int (val cvs r)) (R := fun cvs rows H1 => ∀ H2, Tabbed P H1 H2 → Q (.int ((rows.filter (pz cvs)).map (val cvs)).sum) H2) hr TB hcode S hi hce ha hb hc hab hac hbc h3 ht hv hs I h fun cvs rows H1 g s5 hR hG => ?_)
  obtain ⟨fp, wr, G, F, St, W, hst, hfp, hF, hI⟩ := hG
  refine Calls.spliced_nil ?_
  refine call_sum_walkAnyS (W.self 0 _ _ _ hst ⟨g, fp, wr, G, _, F, St, (fun j => ((rows.filter (pz cvs)).map (val cvs)).getD j 0), rfl, W, hst, hfp, fun j u hu => ?_, fun s' t' hmv => ?_⟩)
  · obtain ⟨v, e, r⟩ := hF j u hu
    rw [List.getElem?_map] at e
    obtain ⟨row, e1, e2⟩ := Option.map_eq_some_iff.mp e
    subst e2
    obtain ⟨t, rfl⟩ := r
    refine ⟨t, ?_⟩
    show Value.int _ _ = Value.int (((rows.filter (pz cvs)).map (val cvs)).getD j 0) t
    rw [List.getD_eq_getElem?_getD, List.getElem?_map, e1] <;> rfl
  · obtain ⟨H2, hT, J⟩ := hI s' hmv
    have es : preSum (fun j => ((rows.filter (pz cvs)).map (val cvs)).getD j 0) ((rows.filter (pz cvs)).map fun r => V.int (val cvs r)).length = ((rows.filter (pz cvs)).map (val cvs)).sum := by
      have e := preSum_all ((rows.filter (pz cvs)).map (val cvs)) (fun z => z) (fun j => ((rows.filter (pz cvs)).map (val cvs)).getD j 0) fun j a h => by
        show List.getD _ j 0 = a
        rw [List.getD_eq_getElem?_getD, h] <;> rfl
      rw [List.length_map] at e
      rw [List.length_map, e, List.map_id']
    rw [es]
    exact ⟨.int _, H2, J, ⟨t', rfl⟩, hR H2 hT⟩
end
end G3

set_option Elab.async false
set_option linter.all false
set_option maxRecDepth 100000
set_option maxHeartbeats 400000
namespace My
open PySem PySem.Spec PyProof.Rows L2
open GxR (TabB TabG Tabbed)
/-! ### heaps: all that is tracked stays, but tables may grow -/
def Sm (H H' : Hp) : Prop := ∀ b o, H b = some o → H' b = some o ∨ ∃ ps ps' : Array Value, o = .tbl ps ∧ H' b = some (.tbl ps') ∧ TriplesOk ps'.toList
theorem Sm.refl (H : Hp) : Sm H H := fun _ _ h => .inl h
theorem Sm.trans {H H1 H2 : Hp} (a : Sm H H1) (b : Sm H1 H2) : Sm H H2 := fun c o h => by
  rcases a c o h with e | ⟨ps, ps', e1, e2, e3⟩
  · exact b c o e
  · rcases b c _ e2 with e | ⟨qs, qs', f1, f2, f3⟩
    · exact .inr ⟨ps, ps', e1, e, e3⟩
    · exact .inr ⟨ps, qs', e1, f2, f3⟩
theorem Sm.new {H : Hp} {p : Addr} {o : HO} (h : H p = none) : Sm H (upd H p o) := fun b u e => .inl (by rw [upd_ne (ne_of_none e h)]; exact e)
theorem Sm.mut {H H' : Hp} {p : Addr} {o : HO} (S : Sm H H') (h : H p = none) : Sm H (upd H' p o) := fun b u e => by
  rw [upd_ne (ne_of_none e h)]
  exact S b u e
theorem Sm.tab {H H' : Hp} {P : Addr} (t : TabG H P) (h : Tabbed P H H') : Sm H H' := fun b o e => by
  by_cases hb : b = P
  · subst hb
    obtain ⟨ps, e1, _⟩ := t
    obtain ⟨⟨ps', e2, e3⟩, _⟩ := h
    rw [e1] at e
    exact .inr ⟨ps, ps', (Option.some.inj e).symm, e2, e3⟩
  · exact .inl (by rw [h.2 b hb]; exact e)
theorem Sm.at {H H' : Hp} (S : Sm H H') {b : Addr} {o : HO} (e : H b = some o) (n : ∀ ps, o ≠ .tbl ps) : H' b = some o := by
  rcases S b o e with h | ⟨ps, _, h, _⟩
  · exact h
  · exact (n ps h).elim
theorem Sm.lst {H H' : Hp} (S : Sm H H') {b : Addr} {xs : List V} (e : H b = some (.lst xs)) : H' b = some (.lst xs) := S.at e fun _ z => by cases z
theorem Sm.tup {H H' : Hp} (S : Sm H H') {b : Addr} {xs : List V} (e : H b = some (.tup xs)) : H' b = some (.tup xs) := S.at e fun _ z => by cases z
theorem Sm.free {H H' : Hp} (S : Sm H H') {p : Addr} (h : H' p = none) : H p = none := by
  cases e : H p with
  | none => rfl
  | some o =>
    rcases S p o e with z | ⟨ps, ps', _, z, _⟩ <;> (rw [h] at z; cases z)
theorem Sm.tabG {H H' : Hp} (S : Sm H H') {P : Addr} (t : TabG H P) : TabG H' P := by
  obtain ⟨ps, e, k⟩ := t
  rcases S P _ e with z | ⟨qs, qs', _, z, z2⟩
  · exact ⟨ps, z, k⟩
  · exact ⟨qs', z, z2⟩
theorem Sm.sql {K : PySem.W.Frag} {H H' : Hp} {a : Addr} {xs : List V} (S : Sm H H') (h : SqL K H a xs) : SqL K H' a xs := by
  rcases h with (h | ⟨o, h⟩) | h
  · exact .inl (.inl (S.lst h))
  · exact .inl (.inr ⟨o, S.at h fun _ z => by cases z⟩)
  · exact .inr h
theorem Sm.sqt {K : PySem.W.Frag} {H H' : Hp} {a : Addr} {xs : List V} (S : Sm H H') (h : SqT K H a xs) : SqT K H' a xs := by
  rcases h with (h | ⟨o, h⟩) | h
  · exact .inl (.inl (S.tup h))
  · exact .inl (.inr ⟨o, S.at h fun _ z => by cases z⟩)
  · exact .inr h
/-! ### what a reading evaluates to -/
section
variable {σ : L2.St} {H : Hp} {v x y : V} {ta tb te : TE}
/-- the value v, whatever else has come -/
def Ev (te : TE) (σ : L2.St) (H : Hp) (v : V) : Prop := ∀ H1, Sm H H1 → ∀ Q : VK, (∀ H2, Sm H1 H2 → Q v H2) → te σ H1 Q
/-- a value of which P holds -/
def EvP (te : TE) (σ : L2.St) (H : Hp) (P : V → Hp → Prop) : Prop := ∀ H1, Sm H H1 → ∀ Q : VK, (∀ v H2, Sm H1 H2 → P v H2 → Q v H2) → te σ H1 Q
def EvT (tt : TT) (σ : L2.St) (H : Hp) (b : Bool) : Prop := ∀ H1, Sm H H1 → ∀ Q : Bool → Hp → Prop, (∀ H2, Sm H1 H2 → Q b H2) → tt σ H1 Q
def EvA (ta : TA) (σ : L2.St) (H : Hp) (P : List V → Hp → Prop) : Prop := ∀ H1, Sm H H1 → ∀ Q : List V → Hp → Prop, (∀ vs H2, Sm H1 H2 → P vs H2 → Q vs H2) → ta σ H1 Q
def Stab (P : V → Hp → Prop) : Prop := ∀ v H H', Sm H H' → P v H → P v H'
theorem Ev.mono {H' : Hp} (h : Ev te σ H v) (S : Sm H H') : Ev te σ H' v := fun H1 S1 => h H1 (S.trans S1)
theorem EvP.mono {H' : Hp} {P : V → Hp → Prop} (h : EvP te σ H P) (S : Sm H H') : EvP te σ H' P := fun H1 S1 => h H1 (S.trans S1)
theorem EvT.mono {H' : Hp} {tt : TT} {b : Bool} (h : EvT tt σ H b) (S : Sm H H') : EvT tt σ H' b := fun H1 S1 => h H1 (S.trans S1)
theorem EvA.mono {H' : Hp} {ta : TA} {P : List V → Hp → Prop} (h : EvA ta σ H P) (S : Sm H H') : EvA ta σ H' P := fun H1 S1 => h H1 (S.trans S1)
theorem Ev.p (h : Ev te σ H v) : EvP te σ H fun u _ => u = v := fun H1 S Q q => h H1 S Q fun H2 S2 => q v H2 S2 rfl
theorem Ev.to {v' : V} (h : Ev te σ H v) (e : v = v') : Ev te σ H v' := e ▸ h
theorem EvT.to {tt : TT} {b b' : Bool} (h : EvT tt σ H b) (e : b = b') : EvT tt σ H b' := e ▸ h
theorem ev_var {i : Nat} (h : σ[i]? = some (some v)) : Ev (tVar i) σ H v := fun H1 S Q q => ⟨v, h, q H1 (Sm.refl _)⟩
theorem ev_c : Ev (tC v) σ H v := fun H1 S Q q => q H1 (Sm.refl _)
theorem ev_opI0 {g : Int → Int → V} {i j : Int} (ha : Ev ta σ H (.int i)) (hb : Ev tb σ H (.int j)) : Ev (tOp (rI0 g) ta tb) σ H (g i j) := fun H1 S Q q =>
  ha H1 S _ fun H2 S2 => hb H2 (S.trans S2) _ fun H3 S3 => ⟨i, j, rfl, rfl, q H3 (S2.trans S3)⟩
theorem ev_opI {C : Int → Int → Prop} {g : Int → Int → V} {i j : Int} (ha : Ev ta σ H (.int i)) (hb : Ev tb σ H (.int j)) (hc : C i j) : Ev (tOp (rI C g) ta tb) σ H (g i j) := fun H1 S Q q =>
  ha H1 S _ fun H2 S2 => hb H2 (S.trans S2) _ fun H3 S3 => ⟨i, j, rfl, rfl, hc, q H3 (S2.trans S3)⟩
theorem ev_un {g : Int → V} {i : Int} (ha : Ev ta σ H (.int i)) : Ev (tUn (rU g) ta) σ H (g i) := fun H1 S Q q => ha H1 S _ fun H2 S2 => ⟨i, rfl, q H2 S2⟩
theorem ev_eq (ha : Ev ta σ H x) (hb : Ev tb σ H y) (hs : scal x y = true) : Ev (tOp rEq ta tb) σ H (.bl (decide (x = y))) := fun H1 S Q q =>
  ha H1 S _ fun H2 S2 => hb H2 (S.trans S2) _ fun H3 S3 => ⟨hs, q H3 (S2.trans S3)⟩
theorem ev_ne (ha : Ev ta σ H x) (hb : Ev tb σ H y) (hs : scal x y = true) : Ev (tOp rNe ta tb) σ H (.bl (!decide (x = y))) := fun H1 S Q q =>
  ha H1 S _ fun H2 S2 => hb H2 (S.trans S2) _ fun H3 S3 => ⟨hs, q H3 (S2.trans S3)⟩
theorem ev_eqI {i j : Int} (ha : Ev ta σ H (.int i)) (hb : Ev tb σ H (.int j)) : Ev (tOp rEq ta tb) σ H (.bl (decide (i = j))) :=
  (ev_eq ha hb rfl).to (by rw [show decide (V.int i = V.int j) = decide (i = j) from decide_eq_decide.mpr ⟨fun z => V.int.inj z, fun z => by rw [z]⟩])
theorem ev_neI {i j : Int} (ha : Ev ta σ H (.int i)) (hb : Ev tb σ H (.int j)) : Ev (tOp rNe ta tb) σ H (.bl (!decide (i = j))) :=
  (ev_ne ha hb rfl).to (by rw [show decide (V.int i = V.int j) = decide (i = j) from decide_eq_decide.mpr ⟨fun z => V.int.inj z, fun z => by rw [z]⟩])
theorem ev_eqS {i j : Str} (ha : Ev ta σ H (.str i)) (hb : Ev tb σ H (.str j)) : Ev (tOp rEq ta tb) σ H (.bl (decide (i = j))) :=
  (ev_eq ha hb rfl).to (by rw [show decide (V.str i = V.str j) = decide (i = j) from decide_eq_decide.mpr ⟨fun z => V.str.inj z, fun z => by rw [z]⟩])
theorem ev_ixL {K : PySem.W.Frag} {a : Addr} {xs : List V} {i : Int} (ha : Ev ta σ H (.ref a)) (hb : Ev tb σ H (.int i)) (hx : SqL K H a xs) (hi : atI xs i = some v) : Ev (tOp (rIxL K) ta tb) σ H v := fun H1 S Q q =>
  ha H1 S _ fun H2 S2 => hb H2 (S.trans S2) _ fun H3 S3 => ⟨a, xs, i, v, rfl, rfl, (S.trans (S2.trans S3)).sql hx, hi, q H3 (S2.trans S3)⟩
theorem ev_ixT {K : PySem.W.Frag} {a : Addr} {xs : List V} {i : Int} (ha : Ev ta σ H (.ref a)) (hb : Ev tb σ H (.int i)) (hx : SqT K H a xs) (hi : atI xs i = some v) : Ev (tOp (rIxT K) ta tb) σ H v := fun H1 S Q q =>
  ha H1 S _ fun H2 S2 => hb H2 (S.trans S2) _ fun H3 S3 => ⟨a, xs, i, v, rfl, rfl, (S.trans (S2.trans S3)).sqt hx, hi, q H3 (S2.trans S3)⟩
/-- an item of what ta has just made -/
theorem ev_ixLP {K : PySem.W.Frag} {xs : List V} {i : Int} (ha : EvP ta σ H fun u H' => ∃ a, u = .ref a ∧ SqL K H' a xs) (hb : Ev tb σ H (.int i)) (hi : atI xs i = some v) : Ev (tOp (rIxL K) ta tb) σ H v := fun H1 S Q q =>
  ha H1 S _ fun u H2 S2 ⟨a, e, hx⟩ => hb H2 (S.trans S2) _ fun H3 S3 => ⟨a, xs, i, v, e, rfl, S3.sql hx, hi, q H3 (S2.trans S3)⟩
theorem ev_ixTP {K : PySem.W.Frag} {xs : List V} {i : Int} (ha : EvP ta σ H fun u H' => ∃ a, u = .ref a ∧ SqT K H' a xs) (hb : Ev tb σ H (.int i)) (hi : atI xs i = some v) : Ev (tOp (rIxT K) ta tb) σ H v := fun H1 S Q q =>
  ha H1 S _ fun u H2 S2 ⟨a, e, hx⟩ => hb H2 (S.trans S2) _ fun H3 S3 => ⟨a, xs, i, v, e, rfl, S3.sqt hx, hi, q H3 (S2.trans S3)⟩
/-- .. of which P holds -/
theorem evp_ixL {K : PySem.W.Frag} {a : Addr} {xs : List V} {i : Int} {P : V → Hp → Prop} (ha : Ev ta σ H (.ref a)) (hb : Ev tb σ H (.int i)) (hx : SqL K H a xs) (hi : atI xs i = some v) (hP : ∀ H', Sm H H' → P v H') : EvP (tOp (rIxL K) ta tb) σ H P := fun H1 S Q q =>
  ha H1 S _ fun H2 S2 => hb H2 (S.trans S2) _ fun H3 S3 => ⟨a, xs, i, v, rfl, rfl, (S.trans (S2.trans S3)).sql hx, hi, q v H3 (S2.trans S3) (hP _ (S.trans (S2.trans S3)))⟩
/-! arguments, displays -/
theorem eva_nil : EvA tNil σ H fun vs _ => vs = [] := fun H1 S Q q => q [] H1 (Sm.refl _) rfl
theorem eva_cons {tr : TA} {P : List V → Hp → Prop} (ha : Ev ta σ H v) (hr : EvA tr σ H P) : EvA (tCons ta tr) σ H fun vs H' => ∃ r, vs = v :: r ∧ P r H' := fun H1 S Q q =>
  ha H1 S _ fun H2 S2 => hr H2 (S.trans S2) _ fun r H3 S3 p => q (v :: r) H3 (S2.trans S3) ⟨r, rfl, p⟩
theorem eva_consP {tr : TA} {P : V → Hp → Prop} {R : List V → Hp → Prop} (ha : EvP ta σ H P) (st : Stab P) (hr : EvA tr σ H R) : EvA (tCons ta tr) σ H fun vs H' => ∃ v r, vs = v :: r ∧ P v H' ∧ R r H' := fun H1 S Q q =>
  ha H1 S _ fun v H2 S2 pv => hr H2 (S.trans S2) _ fun r H3 S3 p => q (v :: r) H3 (S2.trans S3) ⟨v, r, rfl, st _ _ _ S3 pv, p⟩
theorem evp_lst {t : TA} {P : List V → Hp → Prop} (K : PySem.W.Frag) (ha : EvA t σ H P) (hz : ∀ vs H', P vs H' → vs.length ≤ sizeLine) (st : ∀ vs H H', Sm H H' → P vs H → P vs H') : EvP (tLst t) σ H fun u H' => ∃ a vs, u = .ref a ∧ H' a = some (.lst vs) ∧ P vs H' := fun H1 S Q q =>
  ha H1 S _ fun vs H2 S2 p => ⟨hz _ _ p, fun l nl => q (.ref l) _ (S2.trans (Sm.new nl)) ⟨l, vs, rfl, upd_same, st _ _ _ (Sm.new nl) p⟩⟩
theorem evp_tup {t : TA} {P : List V → Hp → Prop} (K : PySem.W.Frag) (ha : EvA t σ H P) (hz : ∀ vs H', P vs H' → vs.length ≤ sizeLine) (st : ∀ vs H H', Sm H H' → P vs H → P vs H') : EvP (tTup t) σ H fun u H' => ∃ a vs, u = .ref a ∧ H' a = some (.tup vs) ∧ P vs H' := fun H1 S Q q =>
  ha H1 S _ fun vs H2 S2 p => ⟨hz _ _ p, fun l nl => q (.ref l) _ (S2.trans (Sm.new nl)) ⟨l, vs, rfl, upd_same, st _ _ _ (Sm.new nl) p⟩⟩
/-- a list of known values that are no objects, or of known ones -/
def EvL (t : TA) (σ : L2.St) (H : Hp) (vs : List V) : Prop := EvA t σ H fun us _ => us = vs
theorem evl_nil : EvL tNil σ H [] := eva_nil
theorem evl_cons {tr : TA} {vs : List V} (ha : Ev ta σ H v) (hr : EvL tr σ H vs) : EvL (tCons ta tr) σ H (v :: vs) := fun H1 S Q q =>
  ha H1 S _ fun H2 S2 => hr H2 (S.trans S2) _ fun r H3 S3 p => q (v :: r) H3 (S2.trans S3) (by rw [p])
theorem evp_lstV {t : TA} {vs : List V} {K : PySem.W.Frag} (ha : EvL t σ H vs) (hz : vs.length ≤ sizeLine) : EvP (tLst t) σ H fun u H' => ∃ a, u = .ref a ∧ SqL K H' a vs := fun H1 S Q q =>
  ha H1 S _ fun us H2 S2 p => ⟨by rw [p]; exact hz, fun l nl => q (.ref l) _ (S2.trans (Sm.new nl)) ⟨l, rfl, .inl (.inl (by rw [p, upd_same]))⟩⟩
theorem evp_tupV {t : TA} {vs : List V} {K : PySem.W.Frag} (ha : EvL t σ H vs) (hz : vs.length ≤ sizeLine) : EvP (tTup t) σ H fun u H' => ∃ a, u = .ref a ∧ SqT K H' a vs := fun H1 S Q q =>
  ha H1 S _ fun us H2 S2 p => ⟨by rw [p]; exact hz, fun l nl => q (.ref l) _ (S2.trans (Sm.new nl)) ⟨l, rfl, .inl (.inl (by rw [p, upd_same]))⟩⟩
/-! calls -/
theorem ev_cb {r : List V → Hp → VK → Prop} {t : TA} {vs : List V} (ha : EvL t σ H vs) (hr : ∀ H1, Sm H H1 → ∀ Q : VK, (∀ H2, Sm H1 H2 → Q v H2) → r vs H1 Q) : Ev (tCB r t) σ H v := fun H1 S Q q =>
  ha H1 S _ fun us H2 S2 p => by rw [p]; exact hr H2 (S.trans S2) Q fun H3 S3 => q H3 (S2.trans S3)
theorem evp_cb {r : List V → Hp → VK → Prop} {t : TA} {vs : List V} {P : V → Hp → Prop} (ha : EvL t σ H vs) (hr : ∀ H1, Sm H H1 → ∀ Q : VK, (∀ u H2, Sm H1 H2 → P u H2 → Q u H2) → r vs H1 Q) : EvP (tCB r t) σ H P := fun H1 S Q q =>
  ha H1 S _ fun us H2 S2 p => by rw [p]; exact hr H2 (S.trans S2) Q fun u H3 S3 => q u H3 (S2.trans S3)
theorem ev_call {sp : Sp} {E : XK} {t : TA} {vs : List V} (ha : EvL t σ H vs) (hr : ∀ H1, Sm H H1 → ∀ Q : VK, (∀ H2, Sm H1 H2 → Q v H2) → sp vs H1 Q E) : Ev (tCall sp [] E t) σ H v := fun H1 S Q q =>
  ha H1 S _ fun us H2 S2 p => by rw [p, List.append_nil]; exact hr H2 (S.trans S2) Q fun H3 S3 => q H3 (S2.trans S3)
theorem evp_call {sp : Sp} {E : XK} {t : TA} {vs : List V} {P : V → Hp → Prop} (ha : EvL t σ H vs) (hr : ∀ H1, Sm H H1 → ∀ Q : VK, (∀ u H2, Sm H1 H2 → P u H2 → Q u H2) → sp vs H1 Q E) : EvP (tCall sp [] E t) σ H P := fun H1 S Q q =>
  ha H1 S _ fun us H2 S2 p => by rw [p, List.append_nil]; exact hr H2 (S.trans S2) Q fun u H3 S3 => q u H3 (S2.trans S3)
theorem evp_callA {sp : Sp} {E : XK} {t : TA} {R : List V → Hp → Prop} {P : V → Hp → Prop} (ha : EvA t σ H R) (hr : ∀ vs H1, Sm H H1 → R vs H1 → ∀ Q : VK, (∀ u H2, Sm H1 H2 → P u H2 → Q u H2) → sp vs H1 Q E) : EvP (tCall sp [] E t) σ H P := fun H1 S Q q =>
  ha H1 S _ fun us H2 S2 p => by rw [List.append_nil]; exact hr us H2 (S.trans S2) p Q fun u H3 S3 => q u H3 (S2.trans S3)
theorem ev_len {K : PySem.W.Frag} {a : Addr} {xs : List V} (ha : Ev ta σ H (.ref a)) (hx : SqL K H a xs) : Ev (tCB (fun xs H Q => ∃ p ys, xs = [.ref p] ∧ (SqL K H p ys ∨ SqT K H p ys) ∧ Q (.int ys.length) H) (tCons ta tNil)) σ H (.int xs.length) :=
  ev_cb (evl_cons ha evl_nil) fun H1 S Q q => ⟨a, xs, rfl, .inl (S.sql hx), q H1 (Sm.refl _)⟩
theorem ev_lenT {K : PySem.W.Frag} {a : Addr} {xs : List V} (ha : Ev ta σ H (.ref a)) (hx : SqT K H a xs) : Ev (tCB (fun xs H Q => ∃ p ys, xs = [.ref p] ∧ (SqL K H p ys ∨ SqT K H p ys) ∧ Q (.int ys.length) H) (tCons ta tNil)) σ H (.int xs.length) :=
  ev_cb (evl_cons ha evl_nil) fun H1 S Q q => ⟨a, xs, rfl, .inr (S.sqt hx), q H1 (Sm.refl _)⟩
theorem evp_listOf {K : PySem.W.Frag} {a : Addr} {xs : List V} (ha : Ev ta σ H (.ref a)) (hx : SqL K H a xs) :
    EvP (tCB (fun xs H Q => ∃ p ys, xs = [.ref p] ∧ (SqL K H p ys ∨ SqT K H p ys) ∧ ∀ l, H l = none → Q (.ref l) (upd H l (.lst ys))) (tCons ta tNil)) σ H fun u H' => ∃ l, u = .ref l ∧ H' l = some (.lst xs) :=
  evp_cb (evl_cons ha evl_nil) fun H1 S Q q => ⟨a, xs, rfl, .inl (S.sql hx), fun l nl => q _ _ (Sm.new nl) ⟨l, rfl, upd_same⟩⟩
theorem ev_isi {K : PySem.W.Frag} {t u : Value} {b : Bool} (ha : Ev ta σ H x) (hb : Ev tb σ H y) (hc : ClsV y u) (ht : ∀ H', Sm H H' → TyX K H' x t) (hk : PySem.W.kitOne K t u = some b) : Ev (tCB (rIsi K) (tCons ta (tCons tb tNil))) σ H (.bl b) :=
  ev_cb (evl_cons ha (evl_cons hb evl_nil)) fun H1 S Q q => ⟨x, y, t, u, b, rfl, hc, ht _ S, hk, q H1 (Sm.refl _)⟩
/-! bools -/
theorem ev_and {b c : Bool} (ha : Ev ta σ H (.bl b)) (hb : b = true → Ev tb σ H (.bl c)) : Ev (tAndV ta tb) σ H (.bl (b && c)) := fun H1 S Q q =>
  ha H1 S _ fun H2 S2 => ⟨b, rfl, by
    cases b with
    | true => rw [if_pos rfl]; exact hb rfl H2 (S.trans S2) Q fun H3 S3 => q H3 (S2.trans S3)
    | false => rw [if_neg Bool.false_ne_true]; exact q H2 S2⟩
theorem ev_or {b c : Bool} (ha : Ev ta σ H (.bl b)) (hb : b = false → Ev tb σ H (.bl c)) : Ev (tOrV ta tb) σ H (.bl (b || c)) := fun H1 S Q q =>
  ha H1 S _ fun H2 S2 => ⟨b, rfl, by
    cases b with
    | true => rw [if_pos rfl]; exact q H2 S2
    | false => rw [if_neg Bool.false_ne_true]; exact hb rfl H2 (S.trans S2) Q fun H3 S3 => q H3 (S2.trans S3)⟩
theorem ev_not {b : Bool} (ha : Ev ta σ H (.bl b)) : Ev (tNotV ta) σ H (.bl !b) := fun H1 S Q q => ha H1 S _ fun H2 S2 => ⟨b, rfl, q H2 S2⟩
theorem ev_chain {g g' : Int → Int → Bool} {i j k : Int} {tc : TE} (ha : Ev ta σ H (.int i)) (hb : Ev tb σ H (.int j)) (hc : Ev tc σ H (.int k)) :
    Ev (tChain (rI0 fun i j => .bl (g i j)) (rI0 fun i j => .bl (g' i j)) ta tb tc) σ H (.bl (g i j && g' j k)) := fun H1 S Q q =>
  ha H1 S _ fun H2 S2 => hb H2 (S.trans S2) _ fun H3 S3 => ⟨i, j, rfl, rfl, g i j, rfl, by
    cases h : g i j with
    | true => rw [if_pos rfl]; exact hc H3 (S.trans (S2.trans S3)) _ fun H4 S4 => ⟨j, k, rfl, rfl, by rw [h] at q; exact q H4 (S2.trans (S3.trans S4))⟩
    | false => rw [if_neg Bool.false_ne_true]; rw [h] at q; exact q H3 (S2.trans S3)⟩
/-! tests -/
theorem evt_test {b : Bool} (h : Ev te σ H (.bl b)) : EvT (tTest te) σ H b := fun H1 S Q q => h H1 S _ fun H2 S2 => ⟨b, rfl, q H2 S2⟩
theorem evt_b {b : Bool} (h : Ev te σ H (.bl b)) : EvT (tB te) σ H b := fun H1 S Q q => h H1 S _ fun H2 S2 => ⟨b, rfl, q H2 S2⟩
variable {t u : TT}
theorem evt_and {b c : Bool} (ha : EvT t σ H b) (hb : b = true → EvT u σ H c) : EvT (tAnd t u) σ H (b && c) := fun H1 S Q q =>
  ha H1 S _ fun H2 S2 => by
    cases b with
    | true => rw [if_pos rfl]; exact hb rfl H2 (S.trans S2) Q fun H3 S3 => q H3 (S2.trans S3)
    | false => rw [if_neg Bool.false_ne_true]; exact q H2 S2
theorem evt_or {b c : Bool} (ha : EvT t σ H b) (hb : b = false → EvT u σ H c) : EvT (tOr t u) σ H (b || c) := fun H1 S Q q =>
  ha H1 S _ fun H2 S2 => by
    cases b with
    | true => rw [if_pos rfl]; exact q H2 S2
    | false => rw [if_neg Bool.false_ne_true]; exact hb rfl H2 (S.trans S2) Q fun H3 S3 => q H3 (S2.trans S3)
theorem evt_not {b : Bool} (ha : EvT t σ H b) : EvT (tNot t) σ H (!b) := fun H1 S Q q => ha H1 S _ q
end
/-! ### statements -/
section
variable {σ : L2.St} {H : Hp} {v : V} {te : TE} {t u : TS} {D : Ends} {i : Nat} {c : TT} {b : Bool}
theorem q_next (h : D.nx σ H) : tNext D σ H := h
theorem q_seq (h : t { D with nx := u D } σ H) : tSeq t u D σ H := h
theorem q_set (h : Ev te σ H v) (k : ∀ H', Sm H H' → D.nx (σ.set i (some v)) H') : tAsg te (gName i) D σ H := h H (Sm.refl _) _ fun H2 S2 => k H2 S2
theorem q_setP {P : V → Hp → Prop} (h : EvP te σ H P) (k : ∀ v H', Sm H H' → P v H' → D.nx (σ.set i (some v)) H') : tAsg te (gName i) D σ H := h H (Sm.refl _) _ fun v H2 S2 p => k v H2 S2 p
theorem q_ret (h : Ev te σ H v) (k : ∀ H', Sm H H' → D.rt v H') : tRet te D σ H := h H (Sm.refl _) _ k
theorem q_retP {P : V → Hp → Prop} (h : EvP te σ H P) (k : ∀ v H', Sm H H' → P v H' → D.rt v H') : tRet te D σ H := h H (Sm.refl _) _ k
theorem q_if (h : EvT c σ H b) (h1 : b = true → ∀ H', Sm H H' → t D σ H') (h2 : b = false → ∀ H', Sm H H' → u D σ H') : tIfS c t u D σ H := h H (Sm.refl _) _ fun H2 S2 => by
  cases b with
  | true => rw [if_pos rfl]; exact h1 rfl H2 S2
  | false => rw [if_neg Bool.false_ne_true]; exact h2 rfl H2 S2
/-- an if that stores one name anew, or nothing: one way -/
theorem q_ifset {old : V} (h : EvT c σ H b) (ho : σ[i]? = some (some old)) (hv : b = true → Ev te σ H v) (k : ∀ H', Sm H H' → D.nx (σ.set i (some (if b = true then v else old))) H') : tIfS c (tAsg te (gName i)) tNext D σ H :=
  q_if h (fun e H' S => (hv e).mono S H' (Sm.refl _) _ fun H2 S2 => by
      have q := k H2 (S.trans S2)
      rw [if_pos e] at q
      exact q) fun e H' S => by
    have q := k H' S
    rw [if_neg (by rw [e]; exact Bool.false_ne_true)] at q
    have es : σ.set i (some old) = σ := by
      refine List.ext_getElem? fun j => ?_
      by_cases hj : j = i
      · subst hj
        rw [List.getElem?_set_self (List.getElem?_eq_some_iff.mp ho).1, ho]
      · rw [List.getElem?_set_ne (Ne.symm hj)]
    rw [es] at q
    exact q
theorem q_drop (h : Ev te σ H v) (k : ∀ H', Sm H H' → D.nx σ H') : tDrop te D σ H := h H (Sm.refl _) _ k
end
/-! ints: by letters -/
section
variable {σ : L2.St} {H : Hp} {v : V} {ta tb te : TE} {t u : TS} {D : Ends} {i : Nat} {c : TT} {b : Bool}
def EvI (t : TA) (σ : L2.St) (H : Hp) (ns : List Int) : Prop := EvL t σ H (ns.map V.int)
theorem evi_nil : EvI tNil σ H [] := evl_nil
theorem evi_cons {n : Int} {ns : List Int} {tr : TA} (ha : Ev ta σ H (.int n)) (hr : EvI tr σ H ns) : EvI (tCons ta tr) σ H (n :: ns) := evl_cons ha hr
theorem ev_menu {K : PySem.W.Frag} {ns : List Int} {k : Int} {tl : TA} (ha : EvI tl σ H ns) (hb : Ev tb σ H (.int k)) (h0 : 0 ≤ k) (h1 : k < (ns.length : Int)) (hz : (ns.map V.int).length ≤ sizeLine) : Ev (tOp (rIxL K) (tLst tl) tb) σ H (.int (ns.getD k.toNat 0)) :=
  ev_ixLP (evp_lstV ha hz) hb (by
    have e : k.toNat < ns.length := by omega
    have e2 : k = (k.toNat : Int) := by omega
    rw [e2]
    refine atI_nat ?_
    rw [List.getElem?_map, List.getElem?_eq_getElem e, List.getD_eq_getElem?_getD, show ((k.toNat : Int)).toNat = k.toNat from rfl, List.getElem?_eq_getElem e]
    rfl)
theorem menu_all {P : Int → Prop} {ns : List Int} (h : ∀ z ∈ ns, P z) (h0 : P 0) (k : Nat) : P (ns.getD k 0) := by
  rw [List.getD_eq_getElem?_getD]
  cases e : ns[k]? with
  | none => exact h0
  | some z => exact h z (List.mem_of_getElem? e)
theorem q_setI {n : Int} (h : Ev te σ H (.int n)) (k : ∀ z : Int, z = n → ∀ H', Sm H H' → D.nx (σ.set i (some (.int z))) H') : tAsg te (gName i) D σ H := q_set h fun H' S => k n rfl H' S
theorem q_ifsetI {n o : Int} (h : EvT c σ H b) (ho : σ[i]? = some (some (.int o))) (hv : b = true → Ev te σ H (.int n)) (k : ∀ z : Int, z = (if b = true then n else o) → ∀ H', Sm H H' → D.nx (σ.set i (some (.int z))) H') : tIfS c (tAsg te (gName i)) tNext D σ H :=
  q_ifset h ho hv fun H' S => by
    have q := k _ rfl H' S
    cases b <;> exact q
theorem q_ifsetS {n o : Str} (h : EvT c σ H b) (ho : σ[i]? = some (some (.str o))) (hv : b = true → Ev te σ H (.str n)) (k : ∀ H', Sm H H' → D.nx (σ.set i (some (.str (if b = true then n else o)))) H') : tIfS c (tAsg te (gName i)) tNext D σ H :=
  q_ifset h ho hv fun H' S => by
    have q := k H' S
    cases b <;> exact q
end
/-! a statement, then the rest -/
section
variable {σ : L2.St} {H : Hp} {v : V} {ta tb te : TE} {t u : TS} {D : Ends} {i : Nat} {c : TT} {b : Bool}
theorem qs_set (h : Ev te σ H v) (k : ∀ H', Sm H H' → u D (σ.set i (some v)) H') : tSeq (tAsg te (gName i)) u D σ H := q_set (D := { D with nx := u D }) h k
theorem qs_setP {P : V → Hp → Prop} (h : EvP te σ H P) (k : ∀ v H', Sm H H' → P v H' → u D (σ.set i (some v)) H') : tSeq (tAsg te (gName i)) u D σ H := q_setP (D := { D with nx := u D }) h k
theorem qs_setI {n : Int} (h : Ev te σ H (.int n)) (k : ∀ z : Int, z = n → ∀ H', Sm H H' → u D (σ.set i (some (.int z))) H') : tSeq (tAsg te (gName i)) u D σ H := q_setI (D := { D with nx := u D }) h k
theorem qs_ifset {old : V} (h : EvT c σ H b) (ho : σ[i]? = some (some old)) (hv : b = true → Ev te σ H v) (k : ∀ H', Sm H H' → u D (σ.set i (some (if b = true then v else old))) H') : tSeq (tIfS c (tAsg te (gName i)) tNext) u D σ H := q_ifset (D := { D with nx := u D }) h ho hv k
theorem qs_ifsetI {n o : Int} (h : EvT c σ H b) (ho : σ[i]? = some (some (.int o))) (hv : b = true → Ev te σ H (.int n)) (k : ∀ z : Int, z = (if b = true then n else o) → ∀ H', Sm H H' → u D (σ.set i (some (.int z))) H') : tSeq (tIfS c (tAsg te (gName i)) tNext) u D σ H := q_ifsetI (D := { D with nx := u D }) h ho hv k
theorem qs_ifsetS {n o : Str} (h : EvT c σ H b) (ho : σ[i]? = some (some (.str o))) (hv : b = true → Ev te σ H (.str n)) (k : ∀ H', Sm H H' → u D (σ.set i (some (.str (if b = true then n else o)))) H') : tSeq (tIfS c (tAsg te (gName i)) tNext) u D σ H := q_ifsetS (D := { D with nx := u D }) h ho hv k
/-- an if without else, then the rest -/
theorem qs_if (h : EvT c σ H b) (h1 : b = true → ∀ H', Sm H H' → t { D with nx := u D } σ H') (h2 : b = false → ∀ H', Sm H H' → u D σ H') : tSeq (tIfS c t tNext) u D σ H := q_if (D := { D with nx := u D }) h h1 h2
theorem qs_drop (h : Ev te σ H v) (k : ∀ H', Sm H H' → u D σ H') : tSeq (tDrop te) u D σ H := q_drop (D := { D with nx := u D }) h k
end
section
variable {σ : L2.St} {H : Hp} {ta tb : TE}
theorem ev_max2 {i j : Int} (ha : Ev ta σ H (.int i)) (hb : Ev tb σ H (.int j)) : Ev (tCB (fun xs H Q => ∃ i j, xs = [.int i, .int j] ∧ Q (.int (if j > i then j else i)) H) (tCons ta (tCons tb tNil))) σ H (.int (if j > i then j else i)) :=
  ev_cb (evl_cons ha (evl_cons hb evl_nil)) fun H1 S Q q => ⟨i, j, rfl, q H1 (Sm.refl _)⟩
theorem ev_min2 {i j : Int} (ha : Ev ta σ H (.int i)) (hb : Ev tb σ H (.int j)) : Ev (tCB (fun xs H Q => ∃ i j, xs = [.int i, .int j] ∧ Q (.int (if j < i then j else i)) H) (tCons ta (tCons tb tNil))) σ H (.int (if j < i then j else i)) :=
  ev_cb (evl_cons ha (evl_cons hb evl_nil)) fun H1 S Q q => ⟨i, j, rfl, q H1 (Sm.refl _)⟩
theorem ev_eqB {i j : Bool} (ha : Ev ta σ H (.bl i)) (hb : Ev tb σ H (.bl j)) : Ev (tOp rEq ta tb) σ H (.bl (decide (i = j))) :=
  (ev_eq ha hb rfl).to (by rw [show decide (V.bl i = V.bl j) = decide (i = j) from decide_eq_decide.mpr ⟨fun z => V.bl.inj z, fun z => by rw [z]⟩])
theorem ev_isB {K : PySem.W.Frag} {b : Bool} (ha : Ev ta σ H (.bl b)) : Ev (tCB (rIsi K) (tCons ta (tCons (tC (.ty "bool")) tNil))) σ H (.bl true) :=
  ev_isi ha ev_c (.ty "bool") (fun _ _ => .base (.bl b)) (kit_ty (by decide +kernel))
theorem ev_isI {K : PySem.W.Frag} {b : Int} (ha : Ev ta σ H (.int b)) : Ev (tCB (rIsi K) (tCons ta (tCons (tC (.ty "int")) tNil))) σ H (.bl true) :=
  ev_isi ha ev_c (.ty "int") (fun _ _ => .base (.int b)) (kit_ty (by decide +kernel))
end
end My

set_option Elab.async false
set_option linter.all false
set_option maxRecDepth 100000
set_option maxHeartbeats 400000
namespace My
open PySem PySem.Spec PyProof.Rows L2
open GxR (TabB TabG Tabbed)
/-! ### a def as the top has left it -/
structure Dn (K : PySem.W.Frag) (mg : Str → Option Value) (x : Str) (st : Stmt) (ps : List Str) (f : Addr) (fd : FuncData) : Prop where
  F : Fun K x x st f fd
  b : Binds K fd ps []
  g : mg x = some (.ref f)
/-- .. whose code object is known -/
structure DnC (K : PySem.W.Frag) (mg : Str → Option Value) (x : Str) (st : Stmt) (ps : List Str) (f : Addr) (fd : FuncData) (c : Addr) : Prop extends Dn K mg x st ps f fd where
  exC : ∃ (oc : Value) (od : Option Addr) (kV doc pm : Value) (an : Option Addr) (ct : Value) (osl : Array (Option Value)),
    fd = PySem.W.fnOf x x (defArgs st) (defBody st) (defScope st) .none kV doc pm an (.ref c) ct ∧ K.lookup f = some ⟨oc, od, .func fd, osl⟩ ∧ PySem.W.codeIn K (.ref c) x = true
section
variable {P : Program} {w : World} {K : PySem.W.Frag} {mg : Str → Option Value} {base : Heap}
theorem DnC.ok {x : Str} {st : Stmt} {f c : Addr} {fd : FuncData} {N ps qs : List Str} {k : Nat} {sp : Sp} (F : DnC K mg x st qs f fd c) (S : FnScope N ps (defScope st)) (len : ∀ vs H Q E, sp vs H Q E → vs.length = ps.length)
    (hbody : ∀ (A : Around) (outer : List Env) (s : Shared) (H : Hp) (vs : List V) (Q : VK) (E : XK), Room k (A.deeper (envOfC x (defScope st) s.heap.objs.size f (.ref c))) → sp vs H Q E →
      ∃ t, PSs (cxOf CX0 P w K mg base N x (defScope st) f (.ref c) A outer s H E).nox (defBody st) t ∧ t { nx := fun _ H' => Q .non H', rt := Q } (start N vs) H) : FnOk P w K mg base CX0 (k + 1) f fd ps sp := by
  obtain ⟨oc, od, kV, doc, pm, an, ct, osl, rfl, lk, hcd⟩ := F.exC
  refine fn_of lk hcd S len fun A outer s H vs Q E hr hsp => ?_
  obtain ⟨t, h, q⟩ := hbody A outer s H vs Q E hr hsp
  exact ⟨t, h.nox, q⟩
end
/-! ### the end: tables of defs that hold generator expressions -/
/-- what is known of the law's promise at the head's heap h -/
def LawG (l : PySem.W.OpenLaw) (w : World) (K : PySem.W.Frag) (CX : CXT) (k n : Nat) (x : Str) (mg : Str → Option Value) (fa : Addr) (h : Heap) (cs : List (Addr × Addr)) : Prop :=
  ∃ (fd : FuncData) (sp : Sp), (∀ (s : Shared) (u : Value), BindsTo s fd ⟨[u], []⟩ [(x, u)]) ∧
    (∀ (H : Hp) (a : Addr) (ns : List Int), ns.length ≤ n → (∀ z ∈ ns, Builtin.Int.intBits z ≤ 1048576) → (∀ p ∈ cs, H p.2 = some (.tbl #[])) → SqL K H a (ns.map V.int) → sp [.ref a] H (fun v _ => v = .bl true) fun _ _ _ => False) ∧
    ∀ base : Heap, K.In base → base.Ns mainGlobals mg → (∀ p ∈ cs, TabB base mg p.1 p.2) → FnOk l.prog w K mg base CX k fa fd [x] sp
theorem walk_gen {l : PySem.W.OpenLaw} {n k : Nat} {q : Program} {loose : List Str} {XP : (Str → Option Value) → Heap → Prop} {YP : World → Heap → Prop} {d : DefRec} {K : PySem.Params → PySem.W.Frag} {CX : World → CXT} {x : Str} (xs : List Str) (cs : List (Addr × Addr))
    (hn : l.most = some n) (hn2 : n ≤ sizeLine) (hdf : d.params.defaults = []) (hr : Room k callerA) (hY : ∀ (w : World) (h : Heap), YP w h → (K w.params).In h)
    (hrec : ∀ x ∈ xs, ((recsOf q).find? (fun e => e.name == x)).isSome = true)
    (htab : ∀ (w : World), ∀ p ∈ cs, ∃ x ∈ xs, PySem.W.tabIn (K w.params) x = some p)
    (hnl : ∀ (w : World), ∀ p ∈ cs, (K w.params).lookup p.2 = none)
    (F : ∀ (w : World) (mg : Str → Option Value) (fa : Addr) (h : Heap), YP w h → (K w.params).In h → h.Ns mainGlobals mg → mg d.name = some (.ref fa) → LawG l w (K w.params) (CX w) k n x mg fa h cs)
    (hCX : ∀ (w : World) (H : Hp) (s : Shared) (e : Value) (s' : Shared), CX w [] H s (fun _ _ _ => False) e s' → False) :
    PySem.W.WalkO q loose XP YP l.row.toRowW d [] (fun f vs => PySem.call f vs) := by
  refine Att.attach_callB hn hdf fun w s₀ s₁ mg mb fa o pm cd doc a vs ns G Y ho hd hcd hmg hobj hints hlen hbits hg => ?_
  have KX := hY w _ Y
  obtain ⟨fd, sp, hb, hsp, hF⟩ := F w mg fa _ Y KX G.T.g hmg
  have T : ∀ p ∈ cs, PySem.W.CodeHd s₁.heap p.1 p.2 ∧ s₁.heap.get? p.2 = some (PySem.W.tabObj #[]) := fun p hp => by
    obtain ⟨y, hy, e⟩ := htab w p hp
    obtain ⟨dd, hdd⟩ := Option.isSome_iff_exists.mp (hrec y hy)
    exact PySem.W.tab_of G.T KX hdd e
  exact LamX.law_callTs KX G.T.g G.T.b G.T.builtins G.T.nolimit hg (fun p hp => (T p hp).2) (hnl w) (fun p hp => (T p hp).1) G.T.bmain hobj hints (Nat.le_trans hlen hn2) hr (fun base h1 h2 h3 => hF base h1 h2 fun p hp => ⟨(h3 p hp).code, (h3 p hp).bm, (h3 p hp).gP⟩) hb (fun H hH hS => hsp H a ns hlen hbits hH hS) fun H e s' => hCX w H s₁ e s'
/-- the law's own promise: tabs, the tables of the defs that hold generator expressions -/
def SpLaw (K : PySem.W.Frag) (tabs : List Addr) : Sp := fun vs H Q _ => ∃ (a : Addr) (ns : List Int), vs = [.ref a] ∧ SqL K H a (ns.map V.int) ∧ ns.length ≤ 63 ∧ (∀ P ∈ tabs, TabG H P) ∧ ∀ H', Q (.bl true) H'
/-! ### wishes -/
structure Wish where
  buy : Bool
  lim : Int
  amt : Int
def sideS (b : Bool) : Str := if b = true then "buy" else "sell"
def Wish.side (w : Wish) : Str := sideS w.buy
def Wish.row (w : Wish) : List V := [.str w.side, .int w.lim, .int w.amt]
structure Wish.Good (w : Wish) : Prop where
  l0 : 0 ≤ w.lim
  l1 : w.lim ≤ 1000000000
  a0 : 1 ≤ w.amt
  a1 : w.amt ≤ 1000000
def WishV (K : PySem.W.Frag) (H : Hp) (v : V) (w : Wish) : Prop := ∃ t, v = .ref t ∧ SqT K H t w.row
def Wishes (K : PySem.W.Frag) (H : Hp) (xs : List V) (ws : List Wish) : Prop := Paired (WishV K H) xs ws
/-- at a a list of the wishes ws -/
def WishL (K : PySem.W.Frag) (H : Hp) (a : Addr) (ws : List Wish) : Prop := ∃ xs, SqL K H a xs ∧ Wishes K H xs ws
theorem WishV.sm {K : PySem.W.Frag} {H H' : Hp} (S : Sm H H') {v : V} {w : Wish} (h : WishV K H v w) : WishV K H' v w := let ⟨t, e, q⟩ := h; ⟨t, e, S.sqt q⟩
theorem Wishes.sm {K : PySem.W.Frag} {H H' : Hp} (S : Sm H H') : ∀ {xs : List V} {ws : List Wish}, Wishes K H xs ws → Wishes K H' xs ws
  | _, _, .nil => .nil
  | _, _, .cons r t => .cons (r.sm S) (Wishes.sm S t)
theorem WishL.sm {K : PySem.W.Frag} {H H' : Hp} (S : Sm H H') {a : Addr} {ws : List Wish} (h : WishL K H a ws) : WishL K H' a ws := let ⟨xs, h1, h2⟩ := h; ⟨xs, S.sql h1, h2.sm S⟩
theorem Wishes.length {K : PySem.W.Frag} {H : Hp} {xs : List V} {ws : List Wish} (h : Wishes K H xs ws) : xs.length = ws.length := Paired.length h
theorem Wishes.get {K : PySem.W.Frag} {H : Hp} : ∀ {xs : List V} {ws : List Wish} {i : Nat} {w : Wish}, Wishes K H xs ws → ws[i]? = some w → ∃ v, xs[i]? = some v ∧ WishV K H v w
  | _, _, _, _, .nil, e => by simp at e
  | _, _, 0, _, .cons r _, e => by
    have e2 := Option.some.inj e
    subst e2
    exact ⟨_, rfl, r⟩
  | _, _, i + 1, w, .cons _ t, e => by
    obtain ⟨v, h1, h2⟩ := Wishes.get (i := i) (w := w) t (by simpa using e)
    exact ⟨v, by simpa using h1, h2⟩
theorem Wishes.getV {K : PySem.W.Frag} {H : Hp} : ∀ {xs : List V} {ws : List Wish} {i : Nat} {v : V}, Wishes K H xs ws → xs[i]? = some v → ∃ w, ws[i]? = some w ∧ WishV K H v w
  | _, _, _, _, .nil, e => by simp at e
  | _, _, 0, _, .cons r _, e => by
    have e2 := Option.some.inj e
    subst e2
    exact ⟨_, rfl, r⟩
  | _, _, i + 1, w, .cons _ t, e => by
    obtain ⟨v, h1, h2⟩ := Wishes.getV (i := i) (v := w) t (by simpa using e)
    exact ⟨v, by simpa using h1, h2⟩
theorem Wishes.snoc {K : PySem.W.Frag} {H : Hp} {v : V} {w : Wish} : ∀ {xs : List V} {ws : List Wish}, Wishes K H xs ws → WishV K H v w → Wishes K H (xs ++ [v]) (ws ++ [w])
  | _, _, .nil, h => .cons h .nil
  | _, _, .cons r t, h => .cons r (Wishes.snoc t h)
theorem Wishes.rows {K : PySem.W.Frag} {H : Hp} : ∀ {xs : List V} {ws : List Wish}, Wishes K H xs ws → G3.Rows K H xs (ws.map Wish.row)
  | _, _, .nil => .nil
  | _, _, .cons r t => .cons r (Wishes.rows t)
/-! data, for == -/
def Wish.data (w : Wish) : PyData := .tuple [.str w.side, .int w.lim, .int w.amt]
theorem WishV.dp {K : PySem.W.Frag} {H : Hp} {v : V} {w : Wish} (h : WishV K H v w) : Dp K H v w.data := by
  obtain ⟨t, e, q⟩ := h
  rw [e]
  exact .tup q (.cons (.str _) (.cons (.int _) (.cons (.int _) .nil)))
theorem Wishes.dp {K : PySem.W.Frag} {H : Hp} : ∀ {xs : List V} {ws : List Wish}, Wishes K H xs ws → DpAll K H xs (ws.map Wish.data)
  | _, _, .nil => .nil
  | _, _, .cons r t => .cons r.dp (Wishes.dp t)
theorem WishL.dp {K : PySem.W.Frag} {H : Hp} {a : Addr} {ws : List Wish} (h : WishL K H a ws) : Dp K H (.ref a) (.list (ws.map Wish.data)) := let ⟨xs, h1, h2⟩ := h; .lst h1 h2.dp
/-! what is wanted and offered -/
def wantedOf (ws : List Wish) (p : Int) : Int := ((ws.filter fun w => w.buy && decide (p ≤ w.lim)).map Wish.amt).sum
def offeredOf (ws : List Wish) (p : Int) : Int := ((ws.filter fun w => !w.buy && decide (w.lim ≤ p)).map Wish.amt).sum
def sumOf (b : Bool) (ws : List Wish) (p : Int) : Int := if b = true then wantedOf ws p else offeredOf ws p
theorem side_buy (b : Bool) : decide (sideS b = (PySem.Str.ofString "buy")) = b := by cases b <;> decide
theorem side_sell (b : Bool) : decide (sideS b = (PySem.Str.ofString "sell")) = !b := by cases b <;> decide
def GoodP (cvs r : List V) : Prop := ∃ (p : Int) (w : Wish), cvs = [.int p] ∧ r = w.row
def pzB (cvs r : List V) : Bool := match cvs, r with
  | [.int p], [.str s, .int l, .int _] => decide (s = (PySem.Str.ofString "buy")) && decide (p ≤ l)
  | _, _ => false
def pzS (cvs r : List V) : Bool := match cvs, r with
  | [.int p], [.str s, .int l, .int _] => decide (s = (PySem.Str.ofString "sell")) && decide (l ≤ p)
  | _, _ => false
def amtR (_ r : List V) : Int := match r with
  | [_, _, .int a] => a
  | _ => 0
theorem rows_buy (ws : List Wish) (p : Int) : (((ws.map Wish.row).filter (pzB [.int p])).map (amtR [.int p])).sum = wantedOf ws p := by
  unfold wantedOf
  rw [List.filter_map, List.map_map]
  have e : (pzB [V.int p] ∘ Wish.row) = fun w => w.buy && decide (p ≤ w.lim) := by
    funext w
    show (decide (sideS w.buy = (PySem.Str.ofString "buy")) && decide (p ≤ w.lim)) = _
    rw [side_buy]
  rw [e]
  rfl
theorem rows_sell (ws : List Wish) (p : Int) : (((ws.map Wish.row).filter (pzS [.int p])).map (amtR [.int p])).sum = offeredOf ws p := by
  unfold offeredOf
  rw [List.filter_map, List.map_map]
  have e : (pzS [V.int p] ∘ Wish.row) = fun w => !w.buy && decide (w.lim ≤ p) := by
    funext w
    show (decide (sideS w.buy = (PySem.Str.ofString "sell")) && decide (w.lim ≤ p)) = _
    rw [side_sell]
  rw [e]
  rfl
theorem take_snoc {α : Type} {l : List α} {i : Nat} {x : α} (h : l[i]? = some x) : l.take (i + 1) = l.take i ++ [x] := by
  rw [List.take_add_one, h]
  rfl
theorem sumOf_snoc (b : Bool) (ws : List Wish) (w : Wish) (p : Int) : sumOf b (ws ++ [w]) p = (if (if b = true then w.buy && decide (p ≤ w.lim) else !w.buy && decide (w.lim ≤ p)) = true then sumOf b ws p + w.amt else sumOf b ws p) := by
  cases b with
  | true =>
    show wantedOf _ p = _
    unfold sumOf wantedOf
    simp only [if_true, List.filter_append, List.map_append, List.sum_append]
    cases h : (w.buy && decide (p ≤ w.lim)) with
    | true => simp [List.filter_cons, h]
    | false => simp [List.filter_cons, h]
  | false =>
    show offeredOf _ p = _
    unfold sumOf offeredOf
    simp only [Bool.false_eq_true, if_false, List.filter_append, List.map_append, List.sum_append]
    cases h : (!w.buy && decide (w.lim ≤ p)) with
    | true => simp [List.filter_cons, h]
    | false => simp [List.filter_cons, h]
/-! lists of wishes, of ints -/
theorem cut_ints (ns : List Int) (lo hi : Option Int) : ∃ cs : List Int, cutV (ns.map V.int) lo hi = cs.map V.int ∧ cs.length ≤ ns.length := by
  refine ⟨(ns.drop (HT.sIx ns.length 0 lo)).take (HT.sIx ns.length ns.length hi - HT.sIx ns.length 0 lo), ?_, ?_⟩
  · unfold cutV
    rw [List.length_map, ← List.map_drop, ← List.map_take]
  · rw [List.length_take, List.length_drop]
    omega
/-! slices, comprehensions -/
/-- the tuples stay -/
def Tk (K : PySem.W.Frag) (H H' : Hp) : Prop := ∀ a r, SqT K H a r → SqT K H' a r
theorem Sm.tk {K : PySem.W.Frag} {H H' : Hp} (S : Sm H H') : Tk K H H' := fun a r h => S.sqt h
theorem tk_lst {K : PySem.W.Frag} {H : Hp} {D : Addr} {xs ys : List V} (h : H D = some (.lst xs)) : Tk K H (upd H D (.lst ys)) := fun a r q => by
  rcases q with (q | ⟨o, q⟩) | q
  · exact .inl (.inl (by rw [upd_ne (fun e => by rw [e, h] at q; cases q)]; exact q))
  · exact .inl (.inr ⟨o, by rw [upd_ne (fun e => by rw [e, h] at q; cases q)]; exact q⟩)
  · exact .inr q
theorem WishV.tk {K : PySem.W.Frag} {H H' : Hp} (S : Tk K H H') {v : V} {w : Wish} (h : WishV K H v w) : WishV K H' v w := let ⟨t, e, q⟩ := h; ⟨t, e, S _ _ q⟩
theorem Wishes.tk {K : PySem.W.Frag} {H H' : Hp} (S : Tk K H H') : ∀ {xs : List V} {ws : List Wish}, Wishes K H xs ws → Wishes K H' xs ws
  | _, _, .nil => .nil
  | _, _, .cons r t => .cons (r.tk S) (Wishes.tk S t)
section
variable {σ : L2.St} {H : Hp} {v : V} {ta tb te : TE} {K : PySem.W.Frag}
def EvO (to : TO) (σ : L2.St) (H : Hp) (o : Option Int) : Prop := ∀ H1, Sm H H1 → ∀ Q : Option Int → Hp → Prop, (∀ H2, Sm H1 H2 → Q o H2) → to σ H1 Q
theorem evo_no : EvO tNoPart σ H none := fun H1 S Q q => q H1 (Sm.refl _)
theorem evo_some {i : Int} (h : Ev te σ H (.int i)) : EvO (tPart te) σ H (some i) := fun H1 S Q q => h H1 S _ fun H2 S2 => ⟨i, rfl, q H2 S2⟩
theorem evp_slice {tl th : TO} {a : Addr} {xs : List V} {lo hi : Option Int} (ha : Ev te σ H (.ref a)) (hl : EvO tl σ H lo) (hh : EvO th σ H hi) (hx : SqL K H a xs) : EvP (tSl (rSlL K) te tl th) σ H fun u H' => ∃ l, u = .ref l ∧ SqL K H' l (cutV xs lo hi) := fun H1 S Q q =>
  ha H1 S _ fun H2 S2 => hl H2 (S.trans S2) _ fun H3 S3 => hh H3 (S.trans (S2.trans S3)) _ fun H4 S4 => ⟨a, xs, rfl, (S.trans (S2.trans (S3.trans S4))).sql hx, fun p np => q _ _ (S2.trans (S3.trans (S4.trans (Sm.new np)))) ⟨p, rfl, .inl (.inl upd_same)⟩⟩
theorem evp_sliceN {tl th : TO} {a : Addr} {xs : List V} {lo hi : Option Int} (ha : Ev te σ H (.ref a)) (hl : EvO tl σ H lo) (hh : EvO th σ H hi) (hx : SqL K H a xs) : EvP (tSl (rSlL K) te tl th) σ H fun u H' => ∃ l, u = .ref l ∧ H l = none ∧ H' l = some (.lst (cutV xs lo hi)) := fun H1 S Q q =>
  ha H1 S _ fun H2 S2 => hl H2 (S.trans S2) _ fun H3 S3 => hh H3 (S.trans (S2.trans S3)) _ fun H4 S4 => ⟨a, xs, rfl, (S.trans (S2.trans (S3.trans S4))).sql hx, fun p np => q _ _ (S2.trans (S3.trans (S4.trans (Sm.new np)))) ⟨p, rfl, S.free (S2.free (S3.free (S4.free np))), upd_same⟩⟩
theorem Wishes.drop {K : PySem.W.Frag} {H : Hp} : ∀ (n : Nat) {xs : List V} {ws : List Wish}, Wishes K H xs ws → Wishes K H (xs.drop n) (ws.drop n)
  | 0, _, _, h => h
  | n + 1, _, _, .nil => .nil
  | n + 1, _, _, .cons _ t => Wishes.drop n t
theorem Wishes.take {K : PySem.W.Frag} {H : Hp} : ∀ (n : Nat) {xs : List V} {ws : List Wish}, Wishes K H xs ws → Wishes K H (xs.take n) (ws.take n)
  | 0, _, _, _ => .nil
  | n + 1, _, _, .nil => .nil
  | n + 1, _, _, .cons r t => .cons r (Wishes.take n t)
theorem Wishes.cut {K : PySem.W.Frag} {H : Hp} {xs : List V} {ws : List Wish} (h : Wishes K H xs ws) (lo hi : Option Int) : ∃ ws', Wishes K H (cutV xs lo hi) ws' ∧ (∀ w ∈ ws', w ∈ ws) ∧ ws'.length ≤ ws.length :=
  ⟨_, (h.drop _).take _, fun w hw => List.mem_of_mem_drop (List.mem_of_mem_take hw), by rw [List.length_take, List.length_drop]; omega⟩
theorem cutV_to (xs : List V) (k : Nat) : (cutV xs none (some (k : Int))).length ≤ k := by
  unfold cutV
  rw [List.length_take, HT.sIx_nat, HT.sIx_none]
  omega
theorem Paired.snoc {α β : Type} {R : α → β → Prop} {a : α} {b : β} : ∀ {l : List α} {m : List β}, Paired R l m → R a b → Paired R (l ++ [a]) (m ++ [b])
  | _, _, .nil, h => .cons h .nil
  | _, _, .cons r t, h => .cons r (Paired.snoc t h)
theorem Paired.mapR {α β : Type} {R R' : α → β → Prop} (f : ∀ a b, R a b → R' a b) : ∀ {l : List α} {m : List β}, Paired R l m → Paired R' l m
  | _, _, .nil => .nil
  | _, _, .cons r t => .cons (f _ _ r) (Paired.mapR f t)
/-- [te for x in tl], x in slot j: each item x gives a y of which P x y holds -/
theorem evp_lc {tl : TE} {j : Nat} {vs : List Nat} {xs : List V} {P : V → V → Hp → Prop} (hl : EvP tl σ H fun u H' => ∃ a, u = .ref a ∧ SqL K H' a xs) (st : ∀ x y H H', Tk K H H' → P x y H → P x y H') (hz : xs.length ≤ 100000)
    (hw : ∀ x, wipe ((wipe σ vs).set j (some x)) vs = wipe σ vs) (he : ∀ x, x ∈ xs → EvP te ((wipe σ vs).set j (some x)) H fun y H' => P x y H') :
    EvP (tLc (iList K tl) (gName j) tYes te vs) σ H fun u H' => ∃ l ys, u = .ref l ∧ H l = none ∧ H' l = some (.lst ys) ∧ Paired (fun x y => P x y H') xs ys := fun H1 S Q q =>
  hl H1 S _ fun u H2 S2 ⟨a, e, hx⟩ => ⟨a, e, ⟨xs, hx⟩, fun D nD => by
    have ne : ∀ {H3 : Hp}, Sm H2 H3 → SqL K H3 a xs := fun S => S.sql hx
    refine lc_list (K := K) (a := a) (xs := xs) (fun i H3 => Sm H2 H3 ∧ ∃ acc, H3 D = some (.lst acc) ∧ Paired (fun x y => P x y H3) (xs.take i) acc) ⟨Sm.new nD, [], upd_same, .nil⟩ (fun i H3 _ h => ne h.1) (fun i x H3 hi ⟨S3, acc, hD, hp⟩ => ?_) (fun H3 ⟨S3, acc, hD, hp⟩ => ?_)
    · refine ⟨hw x, ?_⟩
      simp only [tYes, if_true]
      refine he x (List.mem_of_getElem? hi) H3 (S.trans (S2.trans S3)) _ fun y H4 S4 p => ⟨acc, S4.lst hD, ?_, (S3.trans S4).mut nD, acc ++ [y], upd_same, ?_⟩
      · have e1 := Paired.length hp
        have e2 : i < xs.length := (List.getElem?_eq_some_iff.mp hi).1
        rw [List.length_take] at e1
        exact Nat.lt_of_lt_of_le (show acc.length < 100000 by omega) (by decide)
      · have t1 : Tk K H3 (upd H4 D (.lst (acc ++ [y]))) := fun b r z => tk_lst (S4.lst hD) _ _ (S4.sqt z)
        rw [take_snoc hi]
        exact Paired.snoc (Paired.mapR (fun x y z => st x y _ _ t1 z) hp) (st _ _ _ _ (tk_lst (S4.lst hD)) p)
    · rw [List.take_length] at hp
      exact q (.ref D) H3 (S2.trans S3) ⟨D, acc, rfl, S.free (S2.free nD), hD, hp⟩⟩
theorem wishes_of {H : Hp} : ∀ {xs ys : List V}, Paired (fun (_ : V) y => ∃ w, WishV K H y w ∧ w.Good) xs ys → ∃ ws, Wishes K H ys ws ∧ (∀ w ∈ ws, w.Good) ∧ ws.length = xs.length
  | _, _, .nil => ⟨[], .nil, (fun w h => by cases h), rfl⟩
  | _, _, .cons r t => by
    obtain ⟨ws, h1, h2, h3⟩ := wishes_of t
    obtain ⟨w, g1, g2⟩ := r
    refine ⟨w :: ws, .cons g1 h1, fun z hz => ?_, by rw [List.length_cons, List.length_cons, h3]⟩
    rcases List.mem_cons.mp hz with e | e
    · rw [e]
      exact g2
    · exact h2 z e
end
/-! loops -/
section
variable {σ : L2.St} {H : Hp} {te : TE} {K : PySem.W.Frag} {D : Ends} {tb : TS} {k : Nat}
theorem q_forR {ta : TA} {j : Int} (Pv : Nat → L2.St → Hp → Prop) (h : EvL ta σ H [.int j]) (hj : -(2 ^ 62) ≤ j ∧ j < 2 ^ 62) (h0 : ∀ H', Sm H H' → Pv 0 σ H')
    (hs : ∀ i σ' H', i < j.toNat → Pv i σ' H' → tb { D with nx := Pv (i + 1), ct := Pv (i + 1), bk := D.nx } (σ'.set k (some (.int i))) H') (hd : ∀ σ' H', Pv j.toNat σ' H' → D.nx σ' H') : tFor (iRng1 ta) (gName k) tb D σ H :=
  h H (Sm.refl _) _ fun us H2 S2 p => ⟨j, p, hj.1, hj.2, for_range (lo := 0) (n := j.toNat) Pv (h0 H2 S2) (fun i σ' H' hi hp => by
    have q := hs i σ' H' hi hp
    have e : (0 : Int) + (i : Int) = (i : Int) := Int.zero_add _
    rw [e]
    exact q) hd⟩
theorem q_forL {a : Addr} {xs : List V} (Pv : Nat → L2.St → Hp → Prop) (h : Ev te σ H (.ref a)) (hx : SqL K H a xs) (h0 : ∀ H', Sm H H' → Pv 0 σ H') (hl : ∀ i σ' H', i ≤ xs.length → Pv i σ' H' → SqL K H' a xs)
    (hs : ∀ i x σ' H', xs[i]? = some x → Pv i σ' H' → tb { D with nx := Pv (i + 1), ct := Pv (i + 1), bk := D.nx } (σ'.set k (some x)) H') (hd : ∀ σ' H', Pv xs.length σ' H' → D.nx σ' H') : tFor (iList K te) (gName k) tb D σ H :=
  h H (Sm.refl _) _ fun H2 S2 => ⟨a, rfl, ⟨xs, S2.sql hx⟩, for_list (K := K) (a := a) (xs := xs) Pv (h0 H2 S2) hl hs hd⟩
/-- xs.append(e): the list is new since H0 -/
theorem q_app {to : TE} {l : Addr} {acc : List V} {P : V → Hp → Prop} (ho : Ev to σ H (.ref l)) (hl : H l = some (.lst acc)) (hz : acc.length < sizeLine) (he : EvP te σ H P) (kk : ∀ y H', Sm H H' → P y H' → H' l = some (.lst acc) → D.nx σ (upd H' l (.lst (acc ++ [y])))) :
    tDrop (tBM K "list" rAppend to (tCons te tNil)) D σ H :=
  ho H (Sm.refl _) _ fun H1 S1 => ⟨.inl ⟨rfl, acc, .inl (.inl (S1.lst hl))⟩, he H1 S1 _ fun y H2 S2 p => ⟨l, acc, y, rfl, rfl, (S1.trans S2).lst hl, hz, kk y H2 (S1.trans S2) p ((S1.trans S2).lst hl)⟩⟩
end
/-! data, compared -/
mutual
theorem dp_sm {K : PySem.W.Frag} {H H' : Hp} (S : Sm H H') : ∀ (d : PyData) (v : V), Dp K H v d → Dp K H' v d
  | .none, _, h => by cases h; exact .non
  | .bool _, _, h => by cases h; exact .bl _
  | .int _, _, h => by cases h; exact .int _
  | .str _, _, h => by cases h; exact .str _
  | .list ds, _, h => by cases h with | lst h1 h2 => exact .lst (S.sql h1) (dpAll_sm S ds _ h2)
  | .tuple ds, _, h => by cases h with | tup h1 h2 => exact .tup (S.sqt h1) (dpAll_sm S ds _ h2)
  | .dict _, _, h => by cases h
theorem dpAll_sm {K : PySem.W.Frag} {H H' : Hp} (S : Sm H H') : ∀ (ds : List PyData) (vs : List V), DpAll K H vs ds → DpAll K H' vs ds
  | [], _, h => by cases h; exact .nil
  | d :: ds, _, h => by cases h with | cons h1 h2 => exact .cons (dp_sm S d _ h1) (dpAll_sm S ds _ h2)
end
theorem dp_ints {K : PySem.W.Frag} {H : Hp} : ∀ ns : List Int, DpAll K H (ns.map V.int) (ns.map PyData.int)
  | [] => .nil
  | n :: ns => .cons (.int n) (dp_ints ns)
section
variable {σ : L2.St} {H : Hp} {v : V} {ta tb te : TE} {K : PySem.W.Frag}
/-- te gives what holds the data d -/
def EvD (K : PySem.W.Frag) (te : TE) (σ : L2.St) (H : Hp) (d : PyData) : Prop := EvP te σ H fun u H' => Dp K H' u d
theorem Ev.d {d : PyData} (h : Ev te σ H v) (hd : Dp K H v d) : EvD K te σ H d := fun H1 S Q q => h H1 S Q fun H2 S2 => q v H2 S2 (dp_sm (S.trans S2) d v hd)
theorem ev_eqD {d e : PyData} (ha : EvD K ta σ H d) (hb : EvD K tb σ H e) (sd : SeqAt.shaped d = true) (se : SeqAt.shaped e = true) : Ev (tOp (rEqD K) ta tb) σ H (.bl (PyData.eqv d e)) := fun H1 S Q q =>
  ha H1 S _ fun u H2 S2 p => hb H2 (S.trans S2) _ fun u' H3 S3 p' => ⟨d, e, dp_sm S3 d u p, p', sd, se, q H3 (S2.trans S3)⟩
theorem ev_neD {d e : PyData} (ha : EvD K ta σ H d) (hb : EvD K tb σ H e) (sd : SeqAt.shaped d = true) (se : SeqAt.shaped e = true) : Ev (tOp (rNeD K) ta tb) σ H (.bl (!PyData.eqv d e)) := fun H1 S Q q =>
  ha H1 S _ fun u H2 S2 p => hb H2 (S.trans S2) _ fun u' H3 S3 p' => ⟨d, e, dp_sm S3 d u p, p', sd, se, q H3 (S2.trans S3)⟩
theorem evp_lstI {t : TA} {ns : List Int} (ha : EvI t σ H ns) (hz : (ns.map V.int).length ≤ sizeLine) : EvP (tLst t) σ H fun u H' => ∃ a, u = .ref a ∧ SqL K H' a (ns.map V.int) := evp_lstV ha hz
theorem evd_lstI {t : TA} {ns : List Int} (ha : EvI t σ H ns) (hz : (ns.map V.int).length ≤ sizeLine) : EvD K (tLst t) σ H (.list (ns.map PyData.int)) := fun H1 S Q q =>
  evp_lstV (K := K) ha hz H1 S Q fun u H2 S2 ⟨a, e, h⟩ => q u H2 S2 (by rw [e]; exact .lst h (dp_ints ns))
theorem evd_tupI {t : TA} {ns : List Int} (ha : EvI t σ H ns) (hz : (ns.map V.int).length ≤ sizeLine) : EvD K (tTup t) σ H (.tuple (ns.map PyData.int)) := fun H1 S Q q =>
  evp_tupV (K := K) ha hz H1 S Q fun u H2 S2 ⟨a, e, h⟩ => q u H2 S2 (by rw [e]; exact .tup h (dp_ints ns))
theorem canLay_ints : ∀ ns : List Int, PyData.canLayAll0 (ns.map PyData.int) = true
  | [] => by simp [PyData.canLayAll0]
  | n :: ns => by simp [PyData.canLayAll0, PyData.canLay0, canLay_ints ns]
theorem depth_ints : ∀ ns : List Int, PyData.depthAll (ns.map PyData.int) = 0
  | [] => by simp [PyData.depthAll]
  | n :: ns => by simp [PyData.depthAll, PyData.depth, depth_ints ns]
theorem shaped_ints (ns : List Int) : SeqAt.shaped (.list (ns.map PyData.int)) = true := by
  simp [SeqAt.shaped, PyData.canLay0, PyData.depth, canLay_ints, depth_ints]
theorem shaped_intsT (ns : List Int) : SeqAt.shaped (.tuple (ns.map PyData.int)) = true := by
  simp [SeqAt.shaped, PyData.canLay0, PyData.depth, canLay_ints, depth_ints]
theorem side_ok (b : Bool) : PyData.canLay0 (.str (sideS b)) = true := by cases b <;> decide +kernel
theorem canLay_wish (w : Wish) : PyData.canLay0 w.data = true := by
  have h := side_ok w.buy
  unfold Wish.data Wish.side
  simp only [PyData.canLay0, PyData.canLayAll0] at h ⊢
  simp [h]
theorem canLay_wishes : ∀ ws : List Wish, PyData.canLayAll0 (ws.map Wish.data) = true
  | [] => by simp [PyData.canLayAll0]
  | w :: ws => by simp [PyData.canLayAll0, canLay_wish, canLay_wishes ws]
theorem depth_wish (w : Wish) : PyData.depth w.data = 1 := by
  unfold Wish.data
  simp [PyData.depth, PyData.depthAll]
theorem depth_wishes : ∀ ws : List Wish, PyData.depthAll (ws.map Wish.data) ≤ 1
  | [] => by simp [PyData.depthAll]
  | w :: ws => by
    have h := depth_wishes ws
    simp only [List.map_cons, PyData.depthAll, depth_wish]
    omega
theorem shaped_wishes (ws : List Wish) : SeqAt.shaped (.list (ws.map Wish.data)) = true := by
  have h := depth_wishes ws
  unfold SeqAt.shaped
  rw [Bool.and_eq_true, decide_eq_true_eq]
  refine ⟨by simp only [PyData.canLay0, canLay_wishes], ?_⟩
  simp only [PyData.depth]
  omega
theorem eqv_self {d : PyData} (h : SeqAt.shaped d = true) : PyData.eqv d d = true := SeqAt.eqv_refl d (SeqAt.canLay_of_shaped h)
end
/-! three comparisons in a row; while -/
def tCh3 (r1 r2 r3 : R2) (ta tb tc td : TE) : TT := fun σ H Q => ta σ H fun x H1 => tb σ H1 fun y H2 => r1 x y H2 fun z H3 => ∃ k, z = .bl k ∧
  (if k = true then tc σ H3 fun u H4 => r2 y u H4 fun z' H5 => ∃ k', z' = .bl k' ∧ (if k' = true then td σ H5 fun v H6 => r3 u v H6 fun z2 H7 => ∃ k2, z2 = .bl k2 ∧ Q k2 H7 else Q false H5) else Q false H3)
theorem pt_chain3 {X : Cx} {a b c d : Expr} {ta tb tc td : TE} {pos : Pos} {o1 o2 o3 : CmpOp} {r1 r2 r3 : R2} (h1 : OpR X (compareOp o1) r1) (h2 : OpR X (compareOp o2) r2) (h3 : OpR X (compareOp o3) r3) (ha : PE X a ta) (hb : PE X b tb) (hc : PE X c tc) (hd : PE X d td)
    (hm : lastMarks [o1, o2, o3] [b, c, d] = false := by with_unfolding_all rfl) : PT X (.Compare a [o1, o2, o3] [b, c, d] pos) (tCh3 r1 r2 r3 ta tb tc td) := by
  refine ⟨fun pins s σ H Q I h => ?_⟩
  refine isTrue_chain (thn (ha.run pins s σ H _ I h) fun v s1 ⟨x, H1, I1, e1, q1⟩ => test_link (thn (hb.run pins s1 σ H1 _ I1 q1) fun u s2 ⟨y, H2, I2, e2, q2⟩ =>
    thn (h1 pins s2 σ H2 x y v u _ I2 e1 e2 q2) fun w s3 ⟨z, H3, I3, e3, k, ek, q3⟩ => ?_)) hm
  subst ek
  cases e3
  refine wpAny_truthy_bool ?_
  cases k with
  | false => exact ite_ff ⟨H3, I3, q3⟩
  | true =>
    refine ite_tt (test_link (thn (hc.run pins s3 σ H3 _ I3 q3) fun u' s4 ⟨y', H4, I4, e4, q4⟩ => thn (h2 pins s4 σ H4 y y' u u' _ I4 e2 e4 q4) fun w' s5 ⟨z', H5, I5, e5, k', ek', q5⟩ => ?_))
    subst ek'
    cases e5
    refine wpAny_truthy_bool ?_
    cases k' with
    | false => exact ite_ff ⟨H5, I5, q5⟩
    | true =>
      refine ite_tt (test_last (thn (hd.run pins s5 σ H5 _ I5 q5) fun u2 s6 ⟨y2, H6, I6, e6, q6⟩ => thn (h3 pins s6 σ H6 y' y2 u' u2 _ I6 e4 e6 q6) fun w2 s7 ⟨z2, H7, I7, e7, k2, ek2, q7⟩ => ?_))
      subst ek2
      cases e7
      exact wpAny_truthy_bool ⟨H7, I7, q7⟩
section
variable {σ : L2.St} {H : Hp} {ta tb tc td : TE} {D : Ends} {tb' : TS} {c : TT}
theorem evt_ch3 {g1 g2 g3 : Int → Int → Bool} {i j k l : Int} (ha : Ev ta σ H (.int i)) (hb : Ev tb σ H (.int j)) (hc : Ev tc σ H (.int k)) (hd : Ev td σ H (.int l)) :
    EvT (tCh3 (rI0 fun i j => .bl (g1 i j)) (rI0 fun i j => .bl (g2 i j)) (rI0 fun i j => .bl (g3 i j)) ta tb tc td) σ H (g1 i j && (g2 j k && g3 k l)) := fun H1 S Q q =>
  ha H1 S _ fun H2 S2 => hb H2 (S.trans S2) _ fun H3 S3 => ⟨i, j, rfl, rfl, g1 i j, rfl, by
    cases h : g1 i j with
    | false => rw [if_neg Bool.false_ne_true]; rw [h] at q; exact q H3 (S2.trans S3)
    | true =>
      rw [if_pos rfl]
      refine hc H3 (S.trans (S2.trans S3)) _ fun H4 S4 => ⟨j, k, rfl, rfl, g2 j k, rfl, ?_⟩
      cases h' : g2 j k with
      | false => rw [if_neg Bool.false_ne_true]; rw [h, h'] at q; exact q H4 (S2.trans (S3.trans S4))
      | true =>
        rw [if_pos rfl]
        exact hd H4 (S.trans (S2.trans (S3.trans S4))) _ fun H5 S5 => ⟨k, l, rfl, rfl, _, rfl, by rw [h, h'] at q; exact q H5 (S2.trans (S3.trans (S4.trans S5)))⟩⟩
theorem q_while (W : Nat → L2.St → Hp → Prop) {m0 : Nat} (h0 : W m0 σ H)
    (hs : ∀ m σ' H', W m σ' H' → ∃ b, EvT c σ' H' b ∧ (b = true → ∀ H1, Sm H' H1 → tb' { D with nx := fun σ2 H2 => ∃ m', m' < m ∧ W m' σ2 H2, ct := fun σ2 H2 => ∃ m', m' < m ∧ W m' σ2 H2, bk := D.nx } σ' H1) ∧ (b = false → ∀ H1, Sm H' H1 → D.nx σ' H1)) : tWhile c tb' D σ H :=
  ⟨W, ⟨m0, h0⟩, fun m σ' H' hW => by
    obtain ⟨b, h1, h2, h3⟩ := hs m σ' H' hW
    refine h1 H' (Sm.refl _) _ fun H1 S1 => ?_
    cases b with
    | true => rw [if_pos rfl]; exact ⟨_, fun σ2 H2 z => z, h2 rfl H1 S1⟩
    | false => rw [if_neg Bool.false_ne_true]; exact h3 rfl H1 S1⟩
end
end My

set_option Elab.async false
set_option linter.all false
set_option maxHeartbeats 400000
namespace My
open PySem PySem.Spec PyProof.Rows L2
/-! ### the mathematics of what is wanted and offered -/
theorem wanted_nil (p : Int) : wantedOf [] p = 0 := rfl
theorem offered_nil (p : Int) : offeredOf [] p = 0 := rfl
theorem wanted_cons (w : Wish) (ws : List Wish) (p : Int) : wantedOf (w :: ws) p = (if (w.buy && decide (p ≤ w.lim)) = true then w.amt else 0) + wantedOf ws p := by
  unfold wantedOf
  rw [List.filter_cons]
  split <;> rename_i h
  · rw [List.map_cons, List.sum_cons]
  · omega
theorem offered_cons (w : Wish) (ws : List Wish) (p : Int) : offeredOf (w :: ws) p = (if (!w.buy && decide (w.lim ≤ p)) = true then w.amt else 0) + offeredOf ws p := by
  unfold offeredOf
  rw [List.filter_cons]
  split <;> rename_i h
  · rw [List.map_cons, List.sum_cons]
  · omega
def Goods (ws : List Wish) : Prop := ∀ w ∈ ws, w.Good
theorem Goods.tail {w : Wish} {ws : List Wish} (h : Goods (w :: ws)) : Goods ws := fun z hz => h z (List.mem_cons_of_mem _ hz)
theorem Goods.head {w : Wish} {ws : List Wish} (h : Goods (w :: ws)) : w.Good := h w List.mem_cons_self
theorem wanted_mono {p q : Int} (h : p ≤ q) : ∀ {ws : List Wish}, Goods ws → wantedOf ws q ≤ wantedOf ws p
  | [], _ => Int.le_refl _
  | w :: ws, hg => by
    have ih := wanted_mono h hg.tail
    have ha := hg.head.a0
    rw [wanted_cons, wanted_cons]
    cases w.buy with
    | false => simpa using ih
    | true =>
      by_cases h1 : q ≤ w.lim
      · have h2 : p ≤ w.lim := by omega
        simp only [h1, h2, decide_true, Bool.and_self, if_true]
        omega
      · by_cases h2 : p ≤ w.lim
        · simp only [h1, h2, decide_true, decide_false, Bool.and_true, Bool.and_false, Bool.false_eq_true, if_false, if_true]
          omega
        · simp only [h1, h2, decide_false, Bool.and_false, Bool.false_eq_true, if_false]
          omega
theorem offered_mono {p q : Int} (h : p ≤ q) : ∀ {ws : List Wish}, Goods ws → offeredOf ws p ≤ offeredOf ws q
  | [], _ => Int.le_refl _
  | w :: ws, hg => by
    have ih := offered_mono h hg.tail
    have ha := hg.head.a0
    rw [offered_cons, offered_cons]
    cases w.buy with
    | true => simpa using ih
    | false =>
      by_cases h1 : w.lim ≤ p
      · have h2 : w.lim ≤ q := by omega
        simp only [h1, h2, decide_true, Bool.not_false, Bool.and_self, if_true]
        omega
      · by_cases h2 : w.lim ≤ q
        · simp only [h1, h2, decide_true, decide_false, Bool.not_false, Bool.and_true, Bool.and_false, Bool.false_eq_true, if_false, if_true]
          omega
        · simp only [h1, h2, decide_false, Bool.and_false, Bool.false_eq_true, if_false]
          omega
theorem wanted_nn (p : Int) : ∀ {ws : List Wish}, Goods ws → 0 ≤ wantedOf ws p
  | [], _ => Int.le_refl _
  | w :: ws, hg => by
    have ih := wanted_nn p hg.tail
    have ha := hg.head.a0
    rw [wanted_cons]
    split <;> omega
theorem offered_nn (p : Int) : ∀ {ws : List Wish}, Goods ws → 0 ≤ offeredOf ws p
  | [], _ => Int.le_refl _
  | w :: ws, hg => by
    have ih := offered_nn p hg.tail
    have ha := hg.head.a0
    rw [offered_cons]
    split <;> omega
theorem wanted_top {p : Int} (h : 1000000000 < p) : ∀ {ws : List Wish}, Goods ws → wantedOf ws p = 0
  | [], _ => rfl
  | w :: ws, hg => by
    have ih := wanted_top h hg.tail
    have hl := hg.head.l1
    have h1 : ¬ p ≤ w.lim := by omega
    rw [wanted_cons, ih]
    simp [h1]
theorem offered_low {p : Int} (h : p < 0) : ∀ {ws : List Wish}, Goods ws → offeredOf ws p = 0
  | [], _ => rfl
  | w :: ws, hg => by
    have ih := offered_low h hg.tail
    have hl := hg.head.l0
    have h1 : ¬ w.lim ≤ p := by omega
    rw [offered_cons, ih]
    simp [h1]
/-! too low, too high -/
def lowB (ws : List Wish) (p : Int) : Bool := decide (offeredOf ws p < wantedOf ws (p + 1))
def highB (ws : List Wish) (p : Int) : Bool := decide (wantedOf ws p < offeredOf ws (p - 1))
def clearsB (ws : List Wish) (p : Int) : Bool := !lowB ws p && !highB ws p
theorem low_iff {ws : List Wish} {p : Int} : lowB ws p = true ↔ offeredOf ws p < wantedOf ws (p + 1) := decide_eq_true_iff
theorem high_iff {ws : List Wish} {p : Int} : highB ws p = true ↔ wantedOf ws p < offeredOf ws (p - 1) := decide_eq_true_iff
theorem low_down {ws : List Wish} {p q : Int} (hg : Goods ws) (h : p ≤ q) (hq : lowB ws q = true) : lowB ws p = true := by
  rw [low_iff] at hq ⊢
  have h1 := offered_mono h hg
  have h2 := wanted_mono (show p + 1 ≤ q + 1 by omega) hg
  omega
theorem high_up {ws : List Wish} {p q : Int} (hg : Goods ws) (h : p ≤ q) (hq : highB ws p = true) : highB ws q = true := by
  rw [high_iff] at hq ⊢
  have h1 := wanted_mono h hg
  have h2 := offered_mono (show p - 1 ≤ q - 1 by omega) hg
  omega
theorem low_top {ws : List Wish} (hg : Goods ws) : lowB ws 1000000000 = false := by
  cases e : lowB ws 1000000000 with
  | false => rfl
  | true =>
    rw [low_iff, wanted_top (by omega) hg] at e
    have := offered_nn 1000000000 hg
    omega
theorem high_zero {ws : List Wish} (hg : Goods ws) : highB ws 0 = false := by
  cases e : highB ws 0 with
  | false => rfl
  | true =>
    rw [high_iff, offered_low (by omega) hg] at e
    have := wanted_nn 0 hg
    omega
/-- the least price that is not too low -/
structure IsLow (ws : List Wish) (p : Int) : Prop where
  p0 : 0 ≤ p
  p1 : p ≤ 1000000000
  nl : lowB ws p = false
  bl : p = 0 ∨ lowB ws (p - 1) = true
/-- the greatest price that is not too high -/
structure IsHigh (ws : List Wish) (p : Int) : Prop where
  p0 : 0 ≤ p
  p1 : p ≤ 1000000000
  nh : highB ws p = false
  bh : p = 1000000000 ∨ highB ws (p + 1) = true
theorem clears_iff {ws : List Wish} {p : Int} : clearsB ws p = true ↔ lowB ws p = false ∧ highB ws p = false := by
  unfold clearsB
  cases lowB ws p <;> cases highB ws p <;> simp
theorem IsLow.notHigh {ws : List Wish} {p : Int} (hg : Goods ws) (h : IsLow ws p) : highB ws p = false := by
  rcases h.bl with e | e
  · rw [e]
    exact high_zero hg
  · cases k : highB ws p with
    | false => rfl
    | true =>
      rw [low_iff] at e
      rw [high_iff] at k
      rw [show p - 1 + 1 = p by omega] at e
      omega
theorem IsHigh.notLow {ws : List Wish} {p : Int} (hg : Goods ws) (h : IsHigh ws p) : lowB ws p = false := by
  rcases h.bh with e | e
  · rw [e]
    exact low_top hg
  · cases k : lowB ws p with
    | false => rfl
    | true =>
      rw [high_iff] at e
      rw [low_iff] at k
      rw [show p + 1 - 1 = p by omega] at e
      omega
theorem IsLow.clears {ws : List Wish} {p : Int} (hg : Goods ws) (h : IsLow ws p) : clearsB ws p = true := clears_iff.mpr ⟨h.nl, h.notHigh hg⟩
theorem IsHigh.clears {ws : List Wish} {p : Int} (hg : Goods ws) (h : IsHigh ws p) : clearsB ws p = true := clears_iff.mpr ⟨h.notLow hg, h.nh⟩
theorem IsHigh.ge {ws : List Wish} {p q : Int} (hg : Goods ws) (h : IsHigh ws p) (hq : highB ws q = false) (h1 : q ≤ 1000000000) : q ≤ p := by
  rcases Int.lt_or_le p q with k | k
  · rcases h.bh with e | e
    · omega
    · rw [high_up hg (show p + 1 ≤ q by omega) e] at hq
      cases hq
  · exact k
theorem IsLow.le {ws : List Wish} {p q : Int} (hg : Goods ws) (h : IsLow ws p) (hq : lowB ws q = false) (h0 : 0 ≤ q) : p ≤ q := by
  rcases Int.lt_or_le q p with k | k
  · rcases h.bl with e | e
    · omega
    · rw [low_down hg (show q ≤ p - 1 by omega) e] at hq
      cases hq
  · exact k
theorem low_le_high {ws : List Wish} {p q : Int} (hg : Goods ws) (hl : IsLow ws p) (hh : IsHigh ws q) : p ≤ q := hh.ge hg (hl.notHigh hg) hl.p1
/-- a price clears just between the two -/
theorem clears_between {ws : List Wish} {p q z : Int} (hg : Goods ws) (hl : IsLow ws p) (hh : IsHigh ws q) (h0 : 0 ≤ z) (h1 : z ≤ 1000000000) : clearsB ws z = decide (p ≤ z ∧ z ≤ q) := by
  rw [Bool.eq_iff_iff, clears_iff, decide_eq_true_iff]
  constructor
  · intro ⟨a, b⟩
    exact ⟨hl.le hg a h0, hh.ge hg b h1⟩
  · intro ⟨a, b⟩
    constructor
    · cases e : lowB ws z with
      | false => rfl
      | true =>
        exact absurd hl.nl (by simp [low_down hg a e])
    · cases e : highB ws z with
      | false => rfl
      | true => exact absurd hh.nh (by simp [high_up hg b e])
end My

set_option Elab.async false
set_option linter.all false
set_option maxRecDepth 100000
set_option maxHeartbeats 400000
namespace PySem.TyNe
open PySem PySem.TypeEq
theorem slot_ne : Slot "type" (cmpInfo .NotEq).2.1 "object.__ne__" :=
  .of (owner := "object") (n := "__ne__") (by rw [typeLookup_type, builtinLookup_eq_fast]; kernel_rfl) (by decide +kernel) (by decide +kernel) (by decide +kernel)
    (by first | exact .inl (by decide +kernel) | exact .inr (by decide +kernel)) (by rw [isSubtype_type]; kernel_rfl)
theorem slot_ne_refl : Slot "type" (cmpInfo .NotEq).2.2 "object.__ne__" :=
  .of (owner := "object") (n := "__ne__") (by rw [typeLookup_type, builtinLookup_eq_fast]; kernel_rfl) (by decide +kernel) (by decide +kernel) (by decide +kernel)
    (by first | exact .inl (by decide +kernel) | exact .inr (by decide +kernel)) (by rw [isSubtype_type]; kernel_rfl)
section
variable {prog : Program} {w : World} {A : Around} {E : Value → Shared → Prop} {s : Shared} {Q : Value → Shared → Prop}
theorem call_ne_same {X : String} (hX : ∀ s' : Shared, s'.TypeIs (.type X) "type") (h : Q (.bool false) s) : wpAny (model prog w) A (call (.builtin "object.__ne__") [.type X, .type X]) Q E s := by
  refine wpAny_call_entry slot_ne (hX s) F.cmpEntry_ne ?_ (F.cmpArgs_ne _ _)
  unfold Builtin.«object.__ne__»
  refine wpAny_bind (wpAny_of_eq (a := ((Value.type X : Value), [Value.type X])) (by first | rfl | (simp only [slotArgs]; rfl)) ?_)
  refine wpAny_bind (wpAny_cRoomFor_or (.inl rfl) ?_)
  refine wpAny_bind (wpAny_callSpecialIfBound?_slot (hX s) slot_type_eq (call_gives slot_type_eq (hX s) F.entry_object_eq (F.args_object_eq_2 _ _) (object_eq_same rfl (by simp)) ?_))
  refine wpAny_bind (m := truthy (.bool true)) (wpAny_pure ?_)
  exact wpAny_pure ⟨_, rfl, h⟩
theorem call_ne_other {X Y : String} (hX : ∀ s' : Shared, s'.TypeIs (.type X) "type") (hne : (Value.type X == Value.type Y) = false) (h : Q .notImplemented s) : wpAny (model prog w) A (call (.builtin "object.__ne__") [.type X, .type Y]) Q E s := by
  refine wpAny_call_entry slot_ne (hX s) F.cmpEntry_ne ?_ (F.cmpArgs_ne _ _)
  unfold Builtin.«object.__ne__»
  refine wpAny_bind (wpAny_of_eq (a := ((Value.type X : Value), [Value.type Y])) (by first | rfl | (simp only [slotArgs]; rfl)) ?_)
  refine wpAny_bind (wpAny_cRoomFor_or (.inl rfl) ?_)
  refine wpAny_bind (wpAny_callSpecialIfBound?_slot (hX s) slot_type_eq (call_gives slot_type_eq (hX s) F.entry_object_eq (F.args_object_eq_2 _ _) (object_eq_other rfl hne) ?_))
  exact wpAny_pure ⟨_, rfl, h⟩
theorem ne_same {X : String} (hX : ∀ s' : Shared, s'.TypeIs (.type X) "type") (h : Q (.bool false) s) : wpAny (model prog w) A (compareOp .NotEq (.type X) (.type X)) Q E s := by
  show wpAny _ A (richCompare .NotEq _ _) Q E s
  exact wpAny_richCompare_same (T := "type") (hX s) (hX s) slot_ne (call_ne_same hX ⟨(by intro e; cases e), h⟩)
theorem ne_other {X Y : String} (hX : ∀ s' : Shared, s'.TypeIs (.type X) "type") (hY : ∀ s' : Shared, s'.TypeIs (.type Y) "type") (hne : (Value.type X == Value.type Y) = false) (h : Q (.bool true) s) : wpAny (model prog w) A (compareOp .NotEq (.type X) (.type Y)) Q E s := by
  have hne' : (Value.type Y == Value.type X) = false := by
    rw [Bool.eq_false_iff] at hne ⊢
    intro e
    exact hne (by rw [beq_iff_eq] at e ⊢; exact e.symm)
  show wpAny _ A (richCompare .NotEq _ _) Q E s
  have h1 := slot_ne
  have h2 := slot_ne_refl
  rcases hi : cmpInfo CmpOp.NotEq with ⟨sym, f, r⟩
  rw [hi] at h1 h2
  simp only [richCompare, hi, (hX s).oneThing_none]
  try with_reducible refine wpAny_holding ?_
  refine wpAny_bind (wpAny_cRoomFor_or (.inl rfl) ?_)
  refine wpAny_bind (wpAny_typeOf (hX s) (wpAny_bind (wpAny_typeOf (hY s) ?_)))
  simp only [bne_self_eq_false, Bool.false_eq_true, if_false, pure_bind, Bool.not_false, if_true]
  refine wpAny_bind (m := tryCompare (.type X) _ (.type Y)) (wpAny_tryCompare_declines (hX s) h1 (call_ne_other hX hne ⟨rfl, ?_⟩))
  refine wpAny_bind (m := tryCompare (.type Y) _ (.type X)) (wpAny_tryCompare_declines (hY s) h2 (call_ne_other hY hne' ⟨rfl, ?_⟩))
  exact wpAny_bind (wpAny_rule (wpAny_bind (wpAny_of_eq (show isSame (Value.type X) (.type Y) = pure false by rw [isSame_plain rfl, hne]) (wpAny_pure h))))
end
end PySem.TyNe
namespace My
open PySem PySem.Spec PyProof.Rows L2
/-- the kinds whose own kind is known -/
def tyL : List String := ["int", "str", "bool", "NoneType", "list", "tuple", "dict"]
theorem meta_of {a : String} (h : a ∈ tyL) (s : Shared) : s.TypeIs (.type a) "type" := by
  have h' : a = "int" ∨ a = "str" ∨ a = "bool" ∨ a = "NoneType" ∨ a = "list" ∨ a = "tuple" ∨ a = "dict" := by simpa [tyL] using h
  rcases h' with rfl | rfl | rfl | rfl | rfl | rfl | rfl
  · exact TypeEq.meta_int s
  · exact TypeEq.meta_str s
  · exact TypeEq.meta_bool s
  · exact TypeEq.meta_NoneType s
  · exact TypeEq.meta_list s
  · exact TypeEq.meta_tuple s
  · exact TypeEq.meta_dict s
section
variable {X : Cx}
def rEqT : R2 := fun x y H Q => ∃ a b, x = .ty a ∧ y = .ty b ∧ a ∈ tyL ∧ b ∈ tyL ∧ Q (.bl (decide (a = b))) H
def rNeT : R2 := fun x y H Q => ∃ a b, x = .ty a ∧ y = .ty b ∧ a ∈ tyL ∧ b ∈ tyL ∧ Q (.bl (!decide (a = b))) H
theorem op_eqT : OpR X (compareOp .Eq) rEqT := by
  intro pins s σ H x y v u Q I rx ry h
  obtain ⟨a, b, rfl, rfl, ha, hb, q⟩ := h
  cases (show v = Value.type a from rx)
  cases (show u = Value.type b from ry)
  by_cases e : a = b
  · subst e
    exact TypeEq.eq_type_same (meta_of ha) (fin_bl I q (by simp))
  · exact TypeEq.eq_type_other (meta_of ha) (meta_of hb) (beq_eq_false_iff_ne.mpr fun z => e (Value.type.inj z)) (fin_bl I q (by simp [e]))
theorem op_neT : OpR X (compareOp .NotEq) rNeT := by
  intro pins s σ H x y v u Q I rx ry h
  obtain ⟨a, b, rfl, rfl, ha, hb, q⟩ := h
  cases (show v = Value.type a from rx)
  cases (show u = Value.type b from ry)
  by_cases e : a = b
  · subst e
    exact TyNe.ne_same (meta_of ha) (fin_bl I q (by simp))
  · exact TyNe.ne_other (meta_of ha) (meta_of hb) (beq_eq_false_iff_ne.mpr fun z => e (Value.type.inj z)) (fin_bl I q (by simp [e]))
end
end My

set_option Elab.async false
set_option linter.all false
set_option maxRecDepth 100000
set_option maxHeartbeats 400000
/-! What is served one after the other: the lesser of what there is and what is asked for. -/
namespace My
theorem sum_perm {l l' : List Int} (h : l.Perm l') : l.sum = l'.sum := by
  induction h with
  | nil => rfl
  | cons x _ ih => rw [List.sum_cons, List.sum_cons, ih]
  | swap x y l => simp only [List.sum_cons]; omega
  | trans _ _ h1 h2 => exact h1.trans h2
/-- the amounts of those ahead of the key k -/
def before (l : List (Int × Int)) (k : Int) : Int := ((l.filter fun y => decide (y.1 < k)).map (·.2)).sum
/-- what x takes of D, all ahead of it served -/
def tk (D : Int) (l : List (Int × Int)) (x : Int × Int) : Int := max 0 (min x.2 (D - before l x.1))
theorem before_perm {l l' : List (Int × Int)} (h : l.Perm l') (k : Int) : before l k = before l' k := sum_perm ((h.filter _).map _)
theorem before_nn {l : List (Int × Int)} (h : ∀ x ∈ l, 0 ≤ x.2) (k : Int) : 0 ≤ before l k := by
  unfold before
  induction l with
  | nil => exact Int.le_refl 0
  | cons x l ih =>
    have h1 := h x List.mem_cons_self
    have h2 := ih fun y hy => h y (List.mem_cons_of_mem _ hy)
    rw [List.filter_cons]
    split
    · rw [List.map_cons, List.sum_cons]; omega
    · exact h2
theorem before_none {l : List (Int × Int)} {k : Int} (h : ∀ y ∈ l, k < y.1) : before l k = 0 := by
  unfold before
  have e : (l.filter fun y => decide (y.1 < k)) = [] := by
    rw [List.filter_eq_nil_iff]
    intro y hy
    have := h y hy
    simp only [decide_eq_true_eq]
    omega
  rw [e]
  rfl
theorem before_cons {l : List (Int × Int)} {x : Int × Int} {k : Int} : before (x :: l) k = (if x.1 < k then x.2 else 0) + before l k := by
  unfold before
  rw [List.filter_cons]
  by_cases h : x.1 < k
  · rw [if_pos (by simpa using h), if_pos h, List.map_cons, List.sum_cons]
  · rw [if_neg (by simpa using h), if_neg h, Int.zero_add]
theorem amts_nn : ∀ {l : List (Int × Int)}, (∀ x ∈ l, 0 ≤ x.2) → 0 ≤ (l.map (·.2)).sum
  | [], _ => Int.le_refl 0
  | y :: l, h => by
    have h1 := h y List.mem_cons_self
    have h2 := amts_nn fun z hz => h z (List.mem_cons_of_mem _ hz)
    rw [List.map_cons, List.sum_cons]
    omega
theorem served_sorted (D : Int) : ∀ (l : List (Int × Int)) (c : Int), (∀ x ∈ l, 0 ≤ x.2) → l.Pairwise (fun x y => x.1 < y.1) →
    (l.map fun x => max 0 (min x.2 (D - (c + before l x.1)))).sum = max 0 (min (D - c) (l.map (·.2)).sum)
  | [], c, _, _ => by
    show (0 : Int) = max 0 (min (D - c) 0)
    omega
  | x :: l, c, h, hp => by
    have hx := h x List.mem_cons_self
    have hl : ∀ y ∈ l, 0 ≤ y.2 := fun y hy => h y (List.mem_cons_of_mem _ hy)
    rw [List.pairwise_cons] at hp
    have ih := served_sorted D l (c + x.2) hl hp.2
    have e0 : before (x :: l) x.1 = 0 := by
      rw [before_cons, if_neg (by omega), before_none hp.1]
      rfl
    have e1 : (l.map fun y => max 0 (min y.2 (D - (c + before (x :: l) y.1)))) = l.map fun y => max 0 (min y.2 (D - (c + x.2 + before l y.1))) := by
      refine List.map_congr_left fun y hy => ?_
      rw [before_cons, if_pos (hp.1 y hy)]
      congr 2
      omega
    have hs : 0 ≤ (l.map (·.2)).sum := amts_nn hl
    rw [List.map_cons, List.sum_cons, List.map_cons, List.sum_cons, e1, ih, e0]
    omega
theorem served (D : Int) {l : List (Int × Int)} (h : ∀ x ∈ l, 0 ≤ x.2) (hk : l.Pairwise fun x y => x.1 ≠ y.1) : (l.map (tk D l)).sum = max 0 (min D (l.map (·.2)).sum) := by
  let le : Int × Int → Int × Int → Bool := fun x y => decide (x.1 ≤ y.1)
  have hp : (l.mergeSort le).Perm l := List.mergeSort_perm l le
  have hs : (l.mergeSort le).Pairwise (fun a b => le a b = true) := List.pairwise_mergeSort (fun a b c => by simp only [le, decide_eq_true_eq]; omega) (fun a b => by simp only [le, Bool.or_eq_true, decide_eq_true_eq]; omega) l
  have hn : (l.mergeSort le).Pairwise (fun x y => x.1 ≠ y.1) := (hp.pairwise_iff (fun {x y} h => h.symm)).mpr hk
  have hlt : (l.mergeSort le).Pairwise (fun x y => x.1 < y.1) := (hs.and hn).imp fun {x y} z => by
    have a : x.1 ≤ y.1 := by simpa [le] using z.1
    have b := z.2
    omega
  have q := served_sorted D (l.mergeSort le) 0 (fun x hx => h x (hp.mem_iff.mp hx)) hlt
  rw [← sum_perm (hp.map (·.2))]
  rw [Int.sub_zero] at q
  rw [← q]
  refine (sum_perm (hp.map _)).symm.trans ?_
  congr 1
  refine List.map_congr_left fun x hx => ?_
  unfold tk
  rw [before_perm hp, Int.zero_add]
/-! ### sums over the numbers of the wishes -/
def S (f : Nat → Bool) (a : Nat → Int) (n : Nat) : Int := ((List.range n).map fun j => if f j = true then a j else 0).sum
theorem S_zero {f : Nat → Bool} {a : Nat → Int} : S f a 0 = 0 := rfl
theorem S_succ {f : Nat → Bool} {a : Nat → Int} {n : Nat} : S f a (n + 1) = S f a n + (if f n = true then a n else 0) := by
  unfold S
  rw [List.range_succ, List.map_append, List.sum_append, List.map_cons, List.map_nil, List.sum_cons, List.sum_nil, Int.add_zero]
theorem S_congr {f g : Nat → Bool} {a b : Nat → Int} : ∀ {n : Nat}, (∀ j, j < n → f j = g j ∧ (f j = true → a j = b j)) → S f a n = S g b n
  | 0, _ => rfl
  | n + 1, h => by
    have h1 := h n (Nat.lt_succ_self n)
    rw [S_succ, S_succ, S_congr fun j hj => h j (Nat.lt_succ_of_lt hj), ← h1.1]
    by_cases e : f n = true
    · rw [if_pos e, if_pos e, h1.2 e]
    · rw [if_neg e, if_neg e]
theorem S_mono {f g : Nat → Bool} {a : Nat → Int} : ∀ {n : Nat}, (∀ j, j < n → (f j = true → g j = true) ∧ 0 ≤ a j) → S f a n ≤ S g a n
  | 0, _ => Int.le_refl 0
  | n + 1, h => by
    have h1 := h n (Nat.lt_succ_self n)
    have ih := S_mono (f := f) (g := g) (a := a) fun j hj => h j (Nat.lt_succ_of_lt hj)
    have h2 := h1.2
    rw [S_succ, S_succ]
    by_cases e : f n = true
    · rw [if_pos e, if_pos (h1.1 e)]; omega
    · rw [if_neg e]
      by_cases e' : g n = true
      · rw [if_pos e']; omega
      · rw [if_neg e']; omega
theorem S_or {f g : Nat → Bool} {a : Nat → Int} : ∀ {n : Nat}, (∀ j, j < n → ¬ (f j = true ∧ g j = true)) → S (fun j => f j || g j) a n = S f a n + S g a n
  | 0, _ => rfl
  | n + 1, h => by
    have h1 := h n (Nat.lt_succ_self n)
    rw [S_succ, S_succ, S_succ, S_or fun j hj => h j (Nat.lt_succ_of_lt hj)]
    cases e : f n <;> cases e' : g n
    · simp
    · simp; omega
    · simp; omega
    · exact absurd ⟨e, e'⟩ h1
theorem S_one {a : Nat → Int} {k : Nat} : ∀ {n : Nat}, k < n → S (fun j => decide (j = k)) a n = a k
  | 0, h => absurd h (Nat.not_lt_zero k)
  | n + 1, h => by
    rw [S_succ]
    by_cases e : n = k
    · subst e
      have z : S (fun j => decide (j = n)) a n = S (fun _ => false) a n := S_congr fun j hj => ⟨decide_eq_false (Nat.ne_of_lt hj), fun z => absurd (of_decide_eq_true z) (Nat.ne_of_lt hj)⟩
      have z2 : ∀ m, S (fun _ => false) a m = 0 := fun m => by
        induction m with
        | zero => rfl
        | succ m ih => rw [S_succ, ih]; rfl
      rw [z, z2, if_pos (decide_eq_true rfl), Int.zero_add]
    · rw [S_one (by omega), if_neg (by simpa using e), Int.add_zero]
theorem S_filter {f : Nat → Bool} {a : Nat → Int} : ∀ {n : Nat}, (((List.range n).filter f).map a).sum = S f a n
  | 0 => rfl
  | n + 1 => by
    rw [S_succ, List.range_succ, List.filter_append, List.map_append, List.sum_append, S_filter]
    congr 1
    rw [List.filter_cons]
    by_cases e : f n = true
    · rw [if_pos e, if_pos e]
      simp
    · rw [if_neg e, if_neg e]
      rfl
/-! ### the wishes by their numbers -/
def w0 : Wish := ⟨true, 0, 0⟩
def wAt (ws : List Wish) (k : Nat) : Wish := ws.getD k w0
def amtAt (ws : List Wish) (k : Nat) : Int := (wAt ws k).amt
theorem wAt_get {ws : List Wish} {k : Nat} (h : k < ws.length) : ws[k]? = some (wAt ws k) := by
  unfold wAt
  rw [List.getD_eq_getElem?_getD, List.getElem?_eq_getElem h]
  rfl
theorem wAt_good {ws : List Wish} {k : Nat} (hg : Goods ws) (h : k < ws.length) : (wAt ws k).Good := hg _ (List.mem_of_getElem? (wAt_get h))
/-- who would deal at the price -/
def elig (p : Int) (w : Wish) : Bool := if w.buy = true then decide (p ≤ w.lim) else decide (w.lim ≤ p)
def better (p : Int) (w : Wish) : Bool := if w.buy = true then decide (p < w.lim) else decide (w.lim < p)
theorem sumOf_S (b : Bool) (p : Int) (ws : List Wish) : ∀ n, n ≤ ws.length → sumOf b (ws.take n) p = S (fun j => decide ((wAt ws j).buy = b) && elig p (wAt ws j)) (amtAt ws) n
  | 0, _ => by
    rw [List.take_zero]
    cases b <;> rfl
  | n + 1, h => by
    rw [take_snoc (wAt_get h), sumOf_snoc, S_succ, sumOf_S b p ws n (by omega)]
    have e : (if b = true then (wAt ws n).buy && decide (p ≤ (wAt ws n).lim) else !(wAt ws n).buy && decide ((wAt ws n).lim ≤ p)) = (decide ((wAt ws n).buy = b) && elig p (wAt ws n)) := by
      unfold elig
      cases b <;> cases (wAt ws n).buy <;> simp
    rw [e]
    by_cases z : (decide ((wAt ws n).buy = b) && elig p (wAt ws n)) = true
    · rw [if_pos z, if_pos z]
      rfl
    · rw [if_neg z, if_neg z, Int.add_zero]
theorem sum_S (b : Bool) (p : Int) (ws : List Wish) : sumOf b ws p = S (fun j => decide ((wAt ws j).buy = b) && elig p (wAt ws j)) (amtAt ws) ws.length := by
  have h := sumOf_S b p ws ws.length (Nat.le_refl _)
  rw [List.take_length] at h
  exact h
/-- the wish a, of number j, goes ahead of b, of number k -/
def goes (a : Wish) (j : Nat) (b : Wish) (k : Nat) : Bool := decide (a.buy = b.buy) && ((if b.buy = true then decide (b.lim < a.lim) else decide (a.lim < b.lim)) || (decide (a.lim = b.lim) && decide (j < k)))
def aheadN (ws : List Wish) (k n : Nat) : Int := S (fun j => goes (wAt ws j) j (wAt ws k) k) (amtAt ws) n
def deal (ws : List Wish) (p : Int) : Int := min (wantedOf ws p) (offeredOf ws p)
/-- what the wish of number k gets at the price p -/
def due (ws : List Wish) (p : Int) (k : Nat) : Int := if elig p (wAt ws k) = true then max 0 (min (amtAt ws k) (deal ws p - aheadN ws k ws.length)) else 0
theorem key_lt {a b n j k : Int} (j0 : 0 ≤ j) (j1 : j < n) (k0 : 0 ≤ k) (k1 : k < n) : a * n + j < b * n + k ↔ a < b ∨ (a = b ∧ j < k) := by
  rcases Int.lt_trichotomy a b with h | h | h
  · have m := Int.mul_le_mul_of_nonneg_right (show a + 1 ≤ b by omega) (show 0 ≤ n by omega)
    rw [Int.add_mul, Int.one_mul] at m
    exact ⟨fun _ => .inl h, fun _ => by omega⟩
  · subst h
    exact ⟨fun z => .inr ⟨rfl, by omega⟩, fun z => by rcases z with z | z <;> omega⟩
  · have m := Int.mul_le_mul_of_nonneg_right (show b + 1 ≤ a by omega) (show 0 ≤ n by omega)
    rw [Int.add_mul, Int.one_mul] at m
    exact ⟨fun z => by omega, fun z => by rcases z with z | z <;> omega⟩
theorem S_term {f g : Nat → Bool} {a b : Nat → Int} : ∀ {n : Nat}, (∀ j, j < n → (if f j = true then a j else 0) = (if g j = true then b j else 0)) → S f a n = S g b n
  | 0, _ => rfl
  | n + 1, h => by rw [S_succ, S_succ, S_term fun j hj => h j (Nat.lt_succ_of_lt hj), h n (Nat.lt_succ_self n)]
def rankOf (w : Wish) : Int := if w.buy = true then -w.lim else w.lim
def keyAt (ws : List Wish) (k : Nat) : Int := rankOf (wAt ws k) * (ws.length : Int) + (k : Int)
def inB (ws : List Wish) (b : Bool) (p : Int) (j : Nat) : Bool := decide ((wAt ws j).buy = b) && elig p (wAt ws j)
def sideList (ws : List Wish) (b : Bool) (p : Int) : List (Int × Int) := ((List.range ws.length).filter (inB ws b p)).map fun j => (keyAt ws j, amtAt ws j)
theorem key_iff {ws : List Wish} {j k : Nat} (hj : j < ws.length) (hk : k < ws.length) : keyAt ws j < keyAt ws k ↔ rankOf (wAt ws j) < rankOf (wAt ws k) ∨ (rankOf (wAt ws j) = rankOf (wAt ws k) ∧ j < k) := by
  have h := key_lt (a := rankOf (wAt ws j)) (b := rankOf (wAt ws k)) (n := (ws.length : Int)) (j := (j : Int)) (k := (k : Int)) (by omega) (by omega) (by omega) (by omega)
  unfold keyAt
  rw [h]
  exact or_congr Iff.rfl (and_congr Iff.rfl (by omega))
theorem goes_iff {ws : List Wish} {b : Bool} {p : Int} {j k : Nat} (hj : j < ws.length) (hk : k < ws.length) (ik : inB ws b p k = true) : (inB ws b p j && decide (keyAt ws j < keyAt ws k)) = goes (wAt ws j) j (wAt ws k) k := by
  have ik2 := Bool.and_eq_true_iff.mp ik
  have bk : (wAt ws k).buy = b := of_decide_eq_true ik2.1
  have ek := ik2.2
  rw [Bool.eq_iff_iff, Bool.and_eq_true_iff, decide_eq_true_iff, key_iff hj hk]
  unfold inB goes elig rankOf
  unfold elig at ek
  rw [bk] at ek ⊢
  simp only [Bool.and_eq_true_iff, Bool.or_eq_true_iff, decide_eq_true_iff]
  cases b with
  | true =>
    simp only [if_true, decide_eq_true_iff] at ek ⊢
    constructor
    · rintro ⟨⟨h1, h2⟩, h3⟩
      rw [h1] at h3
      simp only [if_true] at h3
      exact ⟨h1, by omega⟩
    · rintro ⟨h1, h2⟩
      rw [h1]
      simp only [if_true, decide_eq_true_iff]
      exact ⟨⟨trivial, by omega⟩, by omega⟩
  | false =>
    simp only [Bool.false_eq_true, if_false, decide_eq_true_iff] at ek ⊢
    constructor
    · rintro ⟨⟨h1, h2⟩, h3⟩
      rw [h1] at h3
      simp only [Bool.false_eq_true, if_false] at h3
      exact ⟨h1, by omega⟩
    · rintro ⟨h1, h2⟩
      rw [h1]
      simp only [Bool.false_eq_true, if_false, decide_eq_true_iff]
      exact ⟨⟨trivial, by omega⟩, by omega⟩
theorem before_side {ws : List Wish} {b : Bool} {p : Int} {k : Nat} (hk : k < ws.length) (ik : inB ws b p k = true) : before (sideList ws b p) (keyAt ws k) = aheadN ws k ws.length := by
  unfold before sideList aheadN
  rw [List.filter_map, List.map_map, List.filter_filter]
  rw [show ((fun x : Int × Int => x.2) ∘ fun j => (keyAt ws j, amtAt ws j)) = amtAt ws from rfl, S_filter]
  refine S_congr fun j hj => ⟨?_, fun _ => rfl⟩
  rw [Bool.and_comm]
  exact goes_iff hj hk ik
theorem dealt_side {ws : List Wish} (hg : Goods ws) (b : Bool) (p : Int) : S (fun j => decide ((wAt ws j).buy = b)) (due ws p) ws.length = deal ws p := by
  have hd0 : 0 ≤ deal ws p := by
    have h1 := wanted_nn p hg
    have h2 := offered_nn p hg
    unfold deal
    omega
  have hle : deal ws p ≤ sumOf b ws p := by
    unfold deal
    cases b with
    | true => show _ ≤ wantedOf ws p; omega
    | false => show _ ≤ offeredOf ws p; omega
  have hn : ∀ x ∈ sideList ws b p, 0 ≤ x.2 := fun x hx => by
    obtain ⟨j, hj, rfl⟩ := List.mem_map.mp hx
    have h1 := (wAt_good hg (List.mem_range.mp (List.mem_filter.mp hj).1)).a0
    show 0 ≤ (wAt ws j).amt
    omega
  have hk : (sideList ws b p).Pairwise fun x y => x.1 ≠ y.1 := by
    unfold sideList
    rw [List.pairwise_map]
    refine List.Pairwise.imp_of_mem (fun {i j} hi hj h => ?_) (List.pairwise_lt_range.filter _)
    have hi' := List.mem_range.mp (List.mem_filter.mp hi).1
    have hj' := List.mem_range.mp (List.mem_filter.mp hj).1
    have a := key_iff hi' hj'
    have c := key_iff hj' hi'
    intro e
    have e' : keyAt ws i = keyAt ws j := e
    rw [e'] at a c
    omega
  have q := served (deal ws p) hn hk
  have e1 : ((sideList ws b p).map (·.2)).sum = sumOf b ws p := by
    unfold sideList
    rw [List.map_map, show ((fun x : Int × Int => x.2) ∘ fun j => (keyAt ws j, amtAt ws j)) = amtAt ws from rfl, S_filter]
    exact (sum_S b p ws).symm
  have e2 : ((sideList ws b p).map (tk (deal ws p) (sideList ws b p))).sum = S (inB ws b p) (fun j => tk (deal ws p) (sideList ws b p) (keyAt ws j, amtAt ws j)) ws.length := by
    conv => lhs; arg 1; arg 2; unfold sideList
    rw [List.map_map, S_filter]
    rfl
  rw [e1, e2] at q
  rw [show max 0 (min (deal ws p) (sumOf b ws p)) = deal ws p by omega] at q
  rw [← q]
  refine S_term fun j hj => ?_
  by_cases hb : (wAt ws j).buy = b
  · rw [if_pos (decide_eq_true hb)]
    by_cases he : elig p (wAt ws j) = true
    · have ij : inB ws b p j = true := Bool.and_eq_true_iff.mpr ⟨decide_eq_true hb, he⟩
      rw [if_pos ij]
      unfold due tk
      rw [if_pos he, before_side hj ij]
    · have ij : ¬ inB ws b p j = true := fun z => he (Bool.and_eq_true_iff.mp z).2
      rw [if_neg ij]
      unfold due
      rw [if_neg he]
  · have ij : ¬ inB ws b p j = true := fun z => hb (of_decide_eq_true (Bool.and_eq_true_iff.mp z).1)
    rw [if_neg (by simpa using hb), if_neg ij]
/-! ### at a price that clears -/
theorem due_nn {ws : List Wish} {p : Int} {k : Nat} : 0 ≤ due ws p k := by
  unfold due
  split <;> omega
theorem due_le {ws : List Wish} {p : Int} {k : Nat} (hg : Goods ws) (hk : k < ws.length) : due ws p k ≤ amtAt ws k := by
  have h1 : 1 ≤ amtAt ws k := (wAt_good hg hk).a0
  unfold due
  split <;> omega
theorem deal_nn {ws : List Wish} {p : Int} (hg : Goods ws) : 0 ≤ deal ws p := by
  have h1 := wanted_nn p hg
  have h2 := offered_nn p hg
  unfold deal
  omega
theorem goes_self {w : Wish} {k : Nat} : goes w k w k = false := by
  unfold goes
  cases w.buy <;> simp
/-- who has a better limit than a price that clears gets all -/
theorem due_better {ws : List Wish} {p : Int} {k : Nat} (hg : Goods ws) (hc : clearsB ws p = true) (hk : k < ws.length) (hb : better p (wAt ws k) = true) : due ws p k = amtAt ws k := by
  have c1 := (clears_iff.mp hc).1
  have c2 := (clears_iff.mp hc).2
  have l1 : wantedOf ws (p + 1) ≤ offeredOf ws p := by
    have := of_decide_eq_false c1
    omega
  have l2 : offeredOf ws (p - 1) ≤ wantedOf ws p := by
    have := of_decide_eq_false c2
    omega
  have m1 := wanted_mono (show p ≤ p + 1 by omega) hg
  have m2 := offered_mono (show p - 1 ≤ p by omega) hg
  have a0 : 1 ≤ amtAt ws k := (wAt_good hg hk).a0
  have he : elig p (wAt ws k) = true := by
    unfold elig
    unfold better at hb
    cases e : (wAt ws k).buy with
    | true =>
      rw [e] at hb
      simp only [if_true, decide_eq_true_iff] at hb ⊢
      omega
    | false =>
      rw [e] at hb
      simp only [Bool.false_eq_true, if_false, decide_eq_true_iff] at hb ⊢
      omega
  have hs : aheadN ws k ws.length + amtAt ws k ≤ deal ws p := by
    have e1 : aheadN ws k ws.length + amtAt ws k = S (fun j => goes (wAt ws j) j (wAt ws k) k || decide (j = k)) (amtAt ws) ws.length := by
      rw [S_or fun j hj z => ?_, S_one hk]
      · rfl
      · have e := of_decide_eq_true z.2
        rw [e, goes_self] at z
        exact absurd z.1 Bool.false_ne_true
    have nn : ∀ j, j < ws.length → 0 ≤ amtAt ws j := fun j hj => by
      have : 1 ≤ amtAt ws j := (wAt_good hg hj).a0
      omega
    unfold better at hb
    cases e : (wAt ws k).buy with
    | true =>
      rw [e] at hb
      simp only [if_true, decide_eq_true_iff] at hb
      have h2 : S (fun j => goes (wAt ws j) j (wAt ws k) k || decide (j = k)) (amtAt ws) ws.length ≤ S (fun j => decide ((wAt ws j).buy = true) && elig (p + 1) (wAt ws j)) (amtAt ws) ws.length := by
        refine S_mono fun j hj => ⟨fun z => ?_, nn j hj⟩
        rcases Bool.or_eq_true_iff.mp z with z | z
        · unfold goes at z
          rw [e] at z
          simp only [Bool.and_eq_true_iff, Bool.or_eq_true_iff, decide_eq_true_iff, if_true] at z
          unfold elig
          rw [z.1]
          simp only [if_true, Bool.and_eq_true_iff, decide_eq_true_iff]
          exact ⟨trivial, by omega⟩
        · rw [of_decide_eq_true z]
          unfold elig
          rw [e]
          simp only [if_true, Bool.and_eq_true_iff, decide_eq_true_iff]
          exact ⟨trivial, by omega⟩
      have h3 : S (fun j => decide ((wAt ws j).buy = true) && elig (p + 1) (wAt ws j)) (amtAt ws) ws.length = wantedOf ws (p + 1) := (sum_S true (p + 1) ws).symm
      unfold deal
      omega
    | false =>
      rw [e] at hb
      simp only [Bool.false_eq_true, if_false, decide_eq_true_iff] at hb
      have h2 : S (fun j => goes (wAt ws j) j (wAt ws k) k || decide (j = k)) (amtAt ws) ws.length ≤ S (fun j => decide ((wAt ws j).buy = false) && elig (p - 1) (wAt ws j)) (amtAt ws) ws.length := by
        refine S_mono fun j hj => ⟨fun z => ?_, nn j hj⟩
        rcases Bool.or_eq_true_iff.mp z with z | z
        · unfold goes at z
          rw [e] at z
          simp only [Bool.and_eq_true_iff, Bool.or_eq_true_iff, decide_eq_true_iff, Bool.false_eq_true, if_false] at z
          unfold elig
          rw [z.1]
          simp only [Bool.false_eq_true, if_false, Bool.and_eq_true_iff, decide_eq_true_iff]
          exact ⟨trivial, by omega⟩
        · rw [of_decide_eq_true z]
          unfold elig
          rw [e]
          simp only [Bool.false_eq_true, if_false, Bool.and_eq_true_iff, decide_eq_true_iff]
          exact ⟨trivial, by omega⟩
      have h3 : S (fun j => decide ((wAt ws j).buy = false) && elig (p - 1) (wAt ws j)) (amtAt ws) ws.length = offeredOf ws (p - 1) := (sum_S false (p - 1) ws).symm
      unfold deal
      omega
  unfold due
  rw [if_pos he]
  omega
/-- .. and who has a worse one nought -/
theorem due_worse {ws : List Wish} {p : Int} {k : Nat} (h : elig p (wAt ws k) = false) : due ws p k = 0 := by
  unfold due
  rw [h, if_neg Bool.false_ne_true]
/-- at no other price more is dealt -/
theorem deal_most {ws : List Wish} {p z : Int} (hg : Goods ws) (hc : clearsB ws p = true) : deal ws z ≤ deal ws p := by
  have c1 := (clears_iff.mp hc).1
  have c2 := (clears_iff.mp hc).2
  have l1 : wantedOf ws (p + 1) ≤ offeredOf ws p := by
    have := of_decide_eq_false c1
    omega
  have l2 : offeredOf ws (p - 1) ≤ wantedOf ws p := by
    have := of_decide_eq_false c2
    omega
  rcases Int.lt_trichotomy p z with h | h | h
  · have m1 := wanted_mono (show p + 1 ≤ z by omega) hg
    have m2 := wanted_mono (show p ≤ z by omega) hg
    unfold deal
    omega
  · rw [h]
    exact Int.le_refl _
  · have m1 := offered_mono (show z ≤ p - 1 by omega) hg
    have m2 := offered_mono (show z ≤ p by omega) hg
    unfold deal
    omega
/-! ### gains, worth -/
def gainAt (w : Wish) (p m : Int) : Int := if w.buy = true then (w.lim - p) * m else (p - w.lim) * m
def gained (ws : List Wish) (x : Nat → Int) (p : Int) (n : Nat) : Int := S (fun _ => true) (fun k => gainAt (wAt ws k) p (x k)) n
theorem gained_succ {ws : List Wish} {x : Nat → Int} {p : Int} {n : Nat} : gained ws x p (n + 1) = gained ws x p n + gainAt (wAt ws n) p (x n) := by
  unfold gained
  rw [S_succ, if_pos rfl]
/-- the gains at p are those at nought, less what is paid, and what is got more -/
theorem gained_shift {ws : List Wish} {x : Nat → Int} {p : Int} : ∀ n, gained ws x p n = gained ws x 0 n - p * (S (fun j => decide ((wAt ws j).buy = true)) x n - S (fun j => decide ((wAt ws j).buy = false)) x n)
  | 0 => by simp [gained, S_zero]
  | n + 1 => by
    rw [gained_succ, gained_succ, S_succ, S_succ, gained_shift n]
    unfold gainAt
    cases e : (wAt ws n).buy with
    | true =>
      simp only [if_true, decide_true, Int.sub_zero, Int.sub_mul, Int.mul_sub, Int.mul_add, Bool.true_eq_false, decide_false, Bool.false_eq_true, if_false, Int.mul_zero, Int.add_zero]
      omega
    | false =>
      simp only [if_true, decide_true, Int.zero_sub, Int.sub_mul, Int.mul_sub, Int.mul_add, Bool.false_eq_true, decide_false, if_false, Int.mul_zero, Int.add_zero, Int.neg_mul]
      omega
theorem gain_best {ws : List Wish} {p y : Int} {k : Nat} (hg : Goods ws) (hc : clearsB ws p = true) (hk : k < ws.length) (y0 : 0 ≤ y) (y1 : y ≤ amtAt ws k) : gainAt (wAt ws k) p y ≤ gainAt (wAt ws k) p (due ws p k) := by
  by_cases hb : better p (wAt ws k) = true
  · rw [due_better hg hc hk hb]
    unfold gainAt
    unfold better at hb
    cases e : (wAt ws k).buy with
    | true =>
      rw [e] at hb
      simp only [if_true, decide_eq_true_iff] at hb ⊢
      exact Int.mul_le_mul_of_nonneg_left y1 (by omega)
    | false =>
      rw [e] at hb
      simp only [Bool.false_eq_true, if_false, decide_eq_true_iff] at hb ⊢
      exact Int.mul_le_mul_of_nonneg_left y1 (by omega)
  · by_cases he : elig p (wAt ws k) = true
    · -- the limit is the price
      have e : (wAt ws k).lim = p := by
        unfold better at hb
        unfold elig at he
        cases e : (wAt ws k).buy with
        | true =>
          rw [e] at hb he
          simp only [if_true, decide_eq_true_iff] at hb he
          omega
        | false =>
          rw [e] at hb he
          simp only [Bool.false_eq_true, if_false, decide_eq_true_iff] at hb he
          omega
      unfold gainAt
      rw [e, Int.sub_self, Int.zero_mul, Int.zero_mul]
      exact Int.le_refl _
    · rw [due_worse (by simpa using he)]
      unfold gainAt
      unfold elig at he
      cases e : (wAt ws k).buy with
      | true =>
        rw [e] at he
        simp only [if_true, decide_eq_true_iff] at he ⊢
        rw [Int.mul_zero]
        exact Int.mul_nonpos_of_nonpos_of_nonneg (by omega) y0
      | false =>
        rw [e] at he
        simp only [Bool.false_eq_true, if_false, decide_eq_true_iff] at he ⊢
        rw [Int.mul_zero]
        exact Int.mul_nonpos_of_nonpos_of_nonneg (by omega) y0
theorem gained_best {ws : List Wish} {p : Int} {y : Nat → Int} (hg : Goods ws) (hc : clearsB ws p = true) (hy : ∀ k, k < ws.length → 0 ≤ y k ∧ y k ≤ amtAt ws k) : ∀ n, n ≤ ws.length → gained ws y p n ≤ gained ws (due ws p) p n
  | 0, _ => Int.le_refl _
  | n + 1, h => by
    have h1 := gained_best hg hc hy n (by omega)
    have h2 := gain_best hg hc (show n < ws.length by omega) (hy n (by omega)).1 (hy n (by omega)).2
    rw [gained_succ, gained_succ]
    omega
/-- no even pieces have a greater worth -/
theorem worth_best {ws : List Wish} {p : Int} {y : Nat → Int} (hg : Goods ws) (hc : clearsB ws p = true) (hy : ∀ k, k < ws.length → 0 ≤ y k ∧ y k ≤ amtAt ws k)
    (he : S (fun j => decide ((wAt ws j).buy = true)) y ws.length = S (fun j => decide ((wAt ws j).buy = false)) y ws.length) : gained ws y 0 ws.length ≤ gained ws (due ws p) 0 ws.length := by
  have h := gained_best hg hc hy ws.length (Nat.le_refl _)
  have e1 := gained_shift (ws := ws) (x := y) (p := p) ws.length
  have e2 := gained_shift (ws := ws) (x := due ws p) (p := p) ws.length
  rw [he, Int.sub_self, Int.mul_zero, Int.sub_zero] at e1
  rw [dealt_side hg true p, dealt_side hg false p, Int.sub_self, Int.mul_zero, Int.sub_zero] at e2
  rw [e1, e2] at h
  exact h
end My

set_option Elab.async false
set_option linter.all false
set_option maxRecDepth 100000
set_option maxHeartbeats 400000
namespace My
open PySem PySem.Spec PyProof.Rows L2
/-! ### classes of errors -/
/-- an own class -/
structure ClsK (K : PySem.W.Frag) (mg : Str → Option Value) (x : Str) (C : Addr) : Prop where
  g : mg x = some (.ref C)
/-- .. that is raised -/
structure ClsR (K : PySem.W.Frag) (D : Addr) : Prop where
  kp : PySem.W.keepIn K (.ref D) = true
  ex : PySem.W.excIn K D [.type "ValueError", .type "Exception", .type "BaseException", .type "object"] "ValueError.__new__" = true
  be : PySem.W.subIn K (.ref D) (.type "BaseException") = some true
  ty : PySem.W.typeIn K (.ref D) = some (.type "type")
  c : L2.ExcC K D
/-! ### isinstance(e, C), e the error that the suite holds; nothing is asked of it ahead -/
def rIsX (K : PySem.W.Frag) (a : Addr) (cls : Value) (d : Option Addr) : List V → Hp → VK → Prop := fun xs H Q =>
  ∃ (D : Addr) (c : V) (u : Value) (b : Bool), cls = .ref D ∧ d = none ∧ L2.ExcC K D ∧ xs = [.ref a, c] ∧ ClsV c u ∧ PySem.W.kitOne K (.ref D) u = some b ∧ Q (.bl b) H
theorem call_isX {X : Cx} {K : PySem.W.Frag} {a : Addr} {oe : Obj} {cls : Value} {d : Option Addr} (hK : X.K = K) (hp : (a, oe) ∈ X.pn) (hz : Zc cls d oe) (hf : ∃ vs, oe.data = .fields vs) : CallR X (.builtin "isinstance") (rIsX K a cls d) := by
  subst hK
  intro pins s σ H xs us Q I r h
  obtain ⟨D, c, u, b, rfl, rfl, C, rfl, k, e, q⟩ := h
  cases r with
  | cons rx rr =>
    cases rr with
    | cons rt rr =>
      cases rr
      cases rx
      have ec := k.eq rt
      subst ec
      obtain ⟨hget, _⟩ := I.pin (a, oe) (List.mem_append.mpr (.inl hp))
      obtain ⟨vs, hv⟩ := hf
      have J : PySem.W.InstAt s.heap a oe D none := by
        obtain ⟨oc, od, oda, osl⟩ := oe
        obtain ⟨h1, h2⟩ := hz
        dsimp only at h1 h2 hv
        subst h1 h2 hv
        exact ⟨hget, rfl, rfl, trivial⟩
      exact PySem.W.kia_one (PySem.W.handS_kitx_exc C.hg C.hk C.hs C.hd C.ha C.hn C.ht C.hm) I.kIn J e (fun z => nomatch z) fun tk => ⟨.bl b, H, I.kept (t' := tk) fun _ _ z => z, rfl, q⟩
/-! ### f(e): a def called in an except suite, the error among its arguments -/
def tCallE (N : List Str) (n : Nat) (t : TS) (ta : TA) : TE := fun σ H Q => ta σ H fun vs H1 => vs.length = n ∧ t { nx := fun _ H' => Q .non H', rt := Q } (start N vs) H1
section
variable {X : Cx} {a : Addr} {oe : Obj} {pn : List (Addr × Obj)} {x : Str} {st : Stmt} {f : Addr} {fd : FuncData} {N ps : List Str} {t : TS} {ta : TA} {k : Nat} {q pos : Pos} {e : Expr} {es : List Expr}
theorem pe_callE (F : Fun X.K x x st f fd) (S : FnScope N ps (defScope st)) (hb : Binds X.K fd ps []) (hg : Gl X x) (hm : X.mg x = some (.ref f)) (hr : L2H.RoomH k X.A)
    (hbody : ∀ (cdv : Value) (A : Around) (outer : List Env) (s : Shared) (H : Hp), PSs (L2H.cxH CX0 X.prog X.w X.K X.mg X.base N x (defScope st) f cdv A outer s H E0 (a, oe)) (defBody st) t)
    (ha : PA (X.suite a ((a, oe) :: pn)) (e :: es) ta) (hdb : (x == ("__debug__" : Str)) = false := by decide) (he : starEach (e :: es) X.env = (false, eval e X.env) :: starEach es X.env := by rfl) (hpl : (backTo pos (starEach es X.env)).any (·.1) = false := by rfl) :
    PE (X.suite a ((a, oe) :: pn)) (.Call (.Name x q) (e :: es) [] pos) (tCallE N ps.length t ta) := by
  refine ⟨fun pins s σ H Q I h => ?_⟩
  refine wpAny_Call_Name_kw (ld_glob I hg hm ?_ hdb)
  refine PySem.W.callWith_K (h₀ := X.base) I.ok.mod.kin F.kp (thn (ha.run pos pins s σ H _ I h) fun us s1 ⟨vs, H1, I1, r, hl, hq⟩ => ⟨I1.kIn, ?_⟩) he hpl
  obtain ⟨oc, od, kV, doc, pm, an, cdv, ct, osl, rfl, lk, hcd⟩ := F.ex
  have b := hb s1 us I1.kIn (by rw [List.append_nil]; exact r.length.symm.trans hl)
  rw [List.append_nil] at b
  have P1 := I1.pin (a, oe) (List.mem_append_left _ List.mem_cons_self)
  have hpin : L2H.PinOk (X.suite a ((a, oe) :: pn)).stack H1 s1 (a, oe) := ⟨P1.1, P1.2.1, fun hm => (List.mem_cons.mp (I1.stkSub a hm)).elim P1.2.2.1 P1.2.2.2.1, P1.2.2.2.2⟩
  have e0 := I1.env0
  have KX : X.K.In s1.heap := I1.kIn
  refine wpAny_call (codeAny_mono (R := CR CX0 X.stack X.prog X.w H1 s1 Q E0) ?_ fun r s' hq => ?_)
  · have lim : s1.heap.NoLimit := I1.nolimit
    have hkind : ∀ y ∈ ps.zip us, (defScope st).names.lookup y.1 = some .local ∨ ((defScope st).names.lookup y.1 = some .cell ∧ ((cellsFrom (s1.heap.objs.size + 1) (defScope st).names []).lookup y.1).isSome = true) := fun ⟨n, v⟩ hy => by
      rcases S.par n (List.of_mem_zip hy).1 with z | z
      · exact .inl z
      · exact .inr ⟨z, PySem.W.cellsFrom_some _ _ _ (.inl z)⟩
    refine codeAny_call_function (show (X.suite a ((a, oe) :: pn)).A.depth < recursionLimit from hr.depth) (KX _ _ lk) rfl S.co S.gen rfl (PySem.W.codeRec_of KX hcd) (b _ _ _ _ ?_)
    refine wpAny_newFunctionEnv_cells S.kind hkind fun env he s2 x2 => ?_
    subst he
    refine ⟨lim.keeps x2.toInCall.keep, codeAny_func ?_⟩
    have I2 : Inv (L2H.cxH CX0 X.prog X.w X.K X.mg X.base N x (defScope st) f cdv (X.suite a ((a, oe) :: pn)).A X.stack s1 H1 E0 (a, oe)) [] (start N vs) H1 s2 := L2H.inv_startH S hpin e0 hl r x2
    refine wpAny_mono ((hbody cdv _ _ _ _).run [] s2 (start N vs) H1 _ I2 hq) (fun fl s' hs => ?_) fun e s' hs => hs
    cases fl with
    | ret u =>
      obtain ⟨v, σ', H', J, rv, z⟩ := hs
      exact ⟨v, H', J.os, J.bare, J.base, J.hok, rv, z⟩
    | next =>
      obtain ⟨σ', H', J, z⟩ := hs
      exact ⟨.non, H', J.os, J.bare, J.base, J.hok, rfl, z⟩
    | brk => exact hs.elim fun _ z => z.elim fun _ z => z.2.elim
    | cont => exact hs.elim fun _ z => z.elim fun _ z => z.2.elim
  · cases r with
    | error e => exact False.elim hq
    | ok fl =>
      cases fl with
      | ret u => exact I1.after hq
      | next => exact False.elim hq
      | brk => exact False.elim hq
      | cont => exact False.elim hq
end
/-! ### readings -/
section
variable {σ : L2.St} {H : Hp} {v x y : V} {ta tb te : TE} {K : PySem.W.Frag}
theorem ev_callE {N : List Str} {n : Nat} {t : TS} {tr : TA} {vs : List V} (ha : EvL tr σ H vs) (hl : vs.length = n) (ht : ∀ H1, Sm H H1 → ∀ Q : VK, (∀ H2, Sm H1 H2 → Q v H2) → t { nx := fun _ H' => Q .non H', rt := Q } (start N vs) H1) : Ev (tCallE N n t tr) σ H v := fun H1 S Q q =>
  ha H1 S _ fun us H2 S2 p => by subst p; exact ⟨hl, ht H2 (S.trans S2) Q fun H3 S3 => q H3 (S2.trans S3)⟩
theorem ev_isX {a D : Addr} {u : Value} {b : Bool} (C : L2.ExcC K D) (ha : Ev ta σ H (.ref a)) (hb : Ev tb σ H y) (hc : ClsV y u) (hk : PySem.W.kitOne K (.ref D) u = some b) : Ev (tCB (rIsX K a (.ref D) none) (tCons ta (tCons tb tNil))) σ H (.bl b) :=
  ev_cb (evl_cons ha (evl_cons hb evl_nil)) fun H1 S Q q => ⟨D, y, u, b, rfl, rfl, C, rfl, hc, hk, q H1 (Sm.refl _)⟩
theorem ev_eqT {a b : String} (ha : Ev ta σ H (.ty a)) (hb : Ev tb σ H (.ty b)) (h1 : a ∈ tyL) (h2 : b ∈ tyL) : Ev (tOp rEqT ta tb) σ H (.bl (decide (a = b))) := fun H1 S Q q =>
  ha H1 S _ fun H2 S2 => hb H2 (S.trans S2) _ fun H3 S3 => ⟨a, b, rfl, rfl, h1, h2, q H3 (S2.trans S3)⟩
theorem ev_neT {a b : String} (ha : Ev ta σ H (.ty a)) (hb : Ev tb σ H (.ty b)) (h1 : a ∈ tyL) (h2 : b ∈ tyL) : Ev (tOp rNeT ta tb) σ H (.bl (!decide (a = b))) := fun H1 S Q q =>
  ha H1 S _ fun H2 S2 => hb H2 (S.trans S2) _ fun H3 S3 => ⟨a, b, rfl, rfl, h1, h2, q H3 (S2.trans S3)⟩
theorem tyB_in {T : String} (h : L2.TyB K H x T) (hb : ∀ b, x ≠ .byt b) : T ∈ tyL := by
  cases h with
  | byt b => exact (hb b rfl).elim
  | _ => decide
end
/-! ### values whose kind is known -/
section
variable {σ : L2.St} {H H' : Hp} {v x y : V} {ta tb te : TE} {K : PySem.W.Frag}
theorem tyB_sm {T : String} (S : Sm H H') (h : L2.TyB K H v T) : L2.TyB K H' v T := by
  cases h with
  | non => exact .non
  | bl b => exact .bl b
  | int i => exact .int i
  | str s => exact .str s
  | byt b => exact .byt b
  | lst h => exact .lst (S.sql h)
  | tup h => exact .tup (S.sqt h)
  | dK h => exact .dK (S.at h fun _ z => by cases z)
/-- a value whose kind is known -/
def Kn (K : PySem.W.Frag) (v : V) (H : Hp) : Prop := ∃ T, L2.TyB K H v T ∧ T ∈ tyL
theorem Kn.sm (S : Sm H H') (h : Kn K v H) : Kn K v H' := let ⟨T, h1, h2⟩ := h; ⟨T, tyB_sm S h1, h2⟩
theorem kn_non : Kn K .non H := ⟨_, .non, by decide⟩
theorem kn_bl {b : Bool} : Kn K (.bl b) H := ⟨_, .bl b, by decide⟩
theorem kn_int {i : Int} : Kn K (.int i) H := ⟨_, .int i, by decide⟩
theorem kn_str {i : Str} : Kn K (.str i) H := ⟨_, .str i, by decide⟩
theorem kn_tup {a : Addr} {xs : List V} (h : SqT K H a xs) : Kn K (.ref a) H := ⟨_, .tup h, by decide⟩
theorem kn_lst {a : Addr} {xs : List V} (h : SqL K H a xs) : Kn K (.ref a) H := ⟨_, .lst h, by decide⟩
theorem kn_dK {a : Addr} {kvs : List (Key × V)} (h : H a = some (.dK kvs)) : Kn K (.ref a) H := ⟨_, .dK h, by decide⟩
def numV (lo hi : Int) : V → Bool
  | .int i => decide (lo ≤ i) && decide (i ≤ hi)
  | _ => false
def sideV : V → Bool
  | .str s => decide (s = (PySem.Str.ofString "buy")) || decide (s = (PySem.Str.ofString "sell"))
  | _ => false
theorem ev_type {T : String} (ha : Ev ta σ H v) (h : L2.TyB K H v T) : Ev (tCB (rTyp K) (tCons ta tNil)) σ H (.ty T) :=
  ev_cb (evl_cons ha evl_nil) fun H1 S Q q => ⟨v, T, rfl, tyB_sm S h, q H1 (Sm.refl _)⟩
theorem tyB_int {T : String} (h : L2.TyB K H v T) (e : T = "int") : ∃ i, v = .int i := by
  cases h with
  | int i => exact ⟨i, rfl⟩
  | _ => exact absurd e (by decide)
theorem tyB_str {T : String} (h : L2.TyB K H v T) (e : T = "str") : ∃ i, v = .str i := by
  cases h with
  | str i => exact ⟨i, rfl⟩
  | _ => exact absurd e (by decide)
theorem tyB_tup {T : String} (h : L2.TyB K H v T) (e : T = "tuple") : ∃ a xs, v = .ref a ∧ SqT K H a xs := by
  cases h with
  | tup h => exact ⟨_, _, rfl, h⟩
  | _ => exact absurd e (by decide)
theorem numV_no {lo hi : Int} {T : String} (h : L2.TyB K H v T) (e : T ≠ "int") : numV lo hi v = false := by
  cases h with
  | int i => exact absurd rfl e
  | _ => rfl
theorem sideV_no {T : String} (h : L2.TyB K H v T) (e : T ≠ "str") : sideV v = false := by
  cases h with
  | str i => exact absurd rfl e
  | _ => rfl
/-! an item of a list that is displayed -/
def EvPs (t : TA) (σ : L2.St) (H : Hp) (P : V → Hp → Prop) (n : Nat) : Prop := EvA t σ H fun vs H' => vs.length = n ∧ ∀ v ∈ vs, P v H'
theorem evps_nil {P : V → Hp → Prop} : EvPs tNil σ H P 0 := fun H1 S Q q => q [] H1 (Sm.refl _) ⟨rfl, fun _ h => nomatch h⟩
theorem evps_cons {tr : TA} {P : V → Hp → Prop} {n : Nat} (st : Stab P) (ha : EvP ta σ H P) (hr : EvPs tr σ H P n) : EvPs (tCons ta tr) σ H P (n + 1) := fun H1 S Q q =>
  ha H1 S _ fun v H2 S2 pv => hr H2 (S.trans S2) _ fun r H3 S3 ⟨hl, p⟩ => q (v :: r) H3 (S2.trans S3) ⟨by rw [List.length_cons, hl], fun u hu => by
    rcases List.mem_cons.mp hu with e | e
    · rw [e]; exact st _ _ _ S3 pv
    · exact p u e⟩
theorem evp_menu {P : V → Hp → Prop} {tl : TA} {n : Nat} {k : Int} (st : Stab P) (ha : EvPs tl σ H P n) (hb : Ev tb σ H (.int k)) (h0 : 0 ≤ k) (h1 : k < (n : Int)) (hz : n ≤ sizeLine) : EvP (tOp (rIxL K) (tLst tl) tb) σ H P := fun H1 S Q q =>
  ha H1 S _ fun vs H2 S2 ⟨hl, p⟩ => ⟨by rw [hl]; exact hz, fun l nl => hb _ ((S.trans S2).trans (Sm.new nl)) _ fun H3 S3 => by
    have hj : k.toNat < vs.length := by omega
    refine ⟨l, vs, k, vs[k.toNat], rfl, rfl, S3.sql (.inl (.inl upd_same)), at_of (j := k.toNat) (by omega) (List.getElem?_eq_getElem hj), ?_⟩
    exact q _ H3 ((S2.trans (Sm.new nl)).trans S3) (st _ _ _ ((Sm.new nl).trans S3) (p _ (List.getElem_mem hj)))⟩
theorem Ev.pp {P : V → Hp → Prop} (h : Ev te σ H v) (hP : ∀ H', Sm H H' → P v H') : EvP te σ H P := fun H1 S Q q => h H1 S Q fun H2 S2 => q v H2 S2 (hP H2 (S.trans S2))
theorem evp_dnew : EvP tDNewK σ H fun u H' => ∃ a, u = .ref a ∧ H' a = some (.dK []) := fun H1 S Q q p np => q _ _ (Sm.new np) ⟨p, rfl, upd_same⟩
theorem EvP.to {P R : V → Hp → Prop} (h : EvP te σ H P) (k : ∀ v H', Sm H H' → P v H' → R v H') : EvP te σ H R := fun H1 S Q q => h H1 S Q fun v H2 S2 p => q v H2 S2 (k v H2 (S.trans S2) p)
theorem ev_addS {i j : Str} (ha : Ev ta σ H (.str i)) (hb : Ev tb σ H (.str j)) (hz : i.length + j.length ≤ sizeLine) : Ev (tOp (fun x y H Q => ∃ i j, x = .str i ∧ y = .str j ∧ i.length + j.length ≤ sizeLine ∧ Q (.str (i ++ j)) H) ta tb) σ H (.str (i ++ j)) := fun H1 S Q q =>
  ha H1 S _ fun H2 S2 => hb H2 (S.trans S2) _ fun H3 S3 => ⟨i, j, rfl, rfl, hz, q H3 (S2.trans S3)⟩
/-- x in (y, ..), flat -/
theorem ev_inT {t : TA} {vs : List V} (ha : Ev ta σ H x) (hb : EvL t σ H vs) (fx : flatV x = true) (fs : vs.all flatV = true) (hz : vs.length ≤ sizeLine) : Ev (tOp (rIn K false) ta (tTup t)) σ H (.bl (inV x vs)) := fun H1 S Q q =>
  ha H1 S _ fun H2 S2 => hb H2 (S.trans S2) _ fun us H3 S3 p => by
    subst p
    exact ⟨hz, fun l nl => ⟨l, us, rfl, .inr (.inl (.inl upd_same)), fx, fs, q _ (S2.trans (S3.trans (Sm.new nl)))⟩⟩
/-- a text and an int behind it -/
theorem js2 {s : Str} {i : Int} {C : Addr} {E : XK} (tb : TE) (hb : Ev tb σ H (.int i)) (hi : i.natAbs.log2 < 1920) (hs : (Str.empty ++ s).length ≤ sizeLine) (hz : ((Str.empty ++ s) ++ toString i).length ≤ sizeLine) (q : ∀ H', Sm H H' → E (.ref C) none H') :
    tJs [tC (.str s), tFmt tb] Str.empty σ H fun _ H1 => E (.ref C) none H1 :=
  ⟨s, rfl, hs, hb H (Sm.refl _) _ fun H2 S2 => .inr ⟨i, rfl, hi, ⟨_, rfl, hz, q H2 S2⟩⟩⟩
theorem qs_tup {D : Ends} {u : TS} {a : Addr} {xs : List V} {n : Nat} {t : TGs} (h : Ev te σ H (.ref a)) (hS : SqT K H a xs) (hl : xs.length = n) (k : ∀ H', Sm H H' → t xs σ H' (u D)) : tSeq (tAsg te (gTup K n t)) u D σ H :=
  h H (Sm.refl _) _ fun H2 S2 => ⟨a, xs, rfl, S2.sqt hS, hl, k H2 S2⟩
theorem evp_tup1 {tc : TE} {P : V → Hp → Prop} {z : V} (st : Stab P) (ha : EvP ta σ H P) (hb : Ev tb σ H y) (hc : Ev tc σ H z) : EvP (tTup (tCons ta (tCons tb (tCons tc tNil)))) σ H fun u H' => ∃ a x, u = .ref a ∧ SqT K H' a [x, y, z] ∧ P x H' := fun H1 S Q q =>
  ha H1 S _ fun x H2 S2 px => hb H2 (S.trans S2) _ fun H3 S3 => hc H3 (S.trans (S2.trans S3)) _ fun H4 S4 => ⟨by show 3 ≤ sizeLine; decide, fun l nl =>
    q (.ref l) _ (S2.trans (S3.trans (S4.trans (Sm.new nl)))) ⟨l, x, rfl, .inl (.inl upd_same), st _ _ _ (S3.trans (S4.trans (Sm.new nl))) px⟩⟩
theorem evp_tup2 {tc : TE} {P : V → Hp → Prop} {z : V} (st : Stab P) (ha : Ev ta σ H x) (hb : EvP tb σ H P) (hc : Ev tc σ H z) : EvP (tTup (tCons ta (tCons tb (tCons tc tNil)))) σ H fun u H' => ∃ a y, u = .ref a ∧ SqT K H' a [x, y, z] ∧ P y H' := fun H1 S Q q =>
  ha H1 S _ fun H2 S2 => hb H2 (S.trans S2) _ fun y H3 S3 py => hc H3 (S.trans (S2.trans S3)) _ fun H4 S4 => ⟨by show 3 ≤ sizeLine; decide, fun l nl =>
    q (.ref l) _ (S2.trans (S3.trans (S4.trans (Sm.new nl)))) ⟨l, y, rfl, .inl (.inl upd_same), st _ _ _ (S4.trans (Sm.new nl)) py⟩⟩
theorem evp_tup3 {tc : TE} {P : V → Hp → Prop} (st : Stab P) (ha : Ev ta σ H x) (hb : Ev tb σ H y) (hc : EvP tc σ H P) : EvP (tTup (tCons ta (tCons tb (tCons tc tNil)))) σ H fun u H' => ∃ a z, u = .ref a ∧ SqT K H' a [x, y, z] ∧ P z H' := fun H1 S Q q =>
  ha H1 S _ fun H2 S2 => hb H2 (S.trans S2) _ fun H3 S3 => hc H3 (S.trans (S2.trans S3)) _ fun z H4 S4 pz => ⟨by show 3 ≤ sizeLine; decide, fun l nl =>
    q (.ref l) _ (S2.trans (S3.trans (S4.trans (Sm.new nl)))) ⟨l, z, rfl, .inl (.inl upd_same), st _ _ _ (Sm.new nl) pz⟩⟩
theorem numV_lt {lo hi i : Int} (h : i < lo) : numV lo hi (.int i) = false := by
  show (decide (lo ≤ i) && decide (i ≤ hi)) = false
  rw [decide_eq_false (by omega)]
  rfl
theorem numV_gt {lo hi i : Int} (h : hi < i) : numV lo hi (.int i) = false := by
  show (decide (lo ≤ i) && decide (i ≤ hi)) = false
  rw [decide_eq_false (show ¬ i ≤ hi by omega), Bool.and_false]
theorem numV_in {lo hi i : Int} (h1 : lo ≤ i) (h2 : i ≤ hi) : numV lo hi (.int i) = true := by
  show (decide (lo ≤ i) && decide (i ≤ hi)) = true
  rw [decide_eq_true h1, decide_eq_true h2]
  rfl
/-- of a known kind, and c says no -/
def KnNo (K : PySem.W.Frag) (c : V → Bool) (v : V) (H : Hp) : Prop := Kn K v H ∧ c v = false
theorem KnNo.stab {c : V → Bool} : Stab (KnNo K c) := fun v H H' S h => ⟨h.1.sm S, h.2⟩
/-- a tuple that is displayed, of which c says no -/
theorem evp_tupNo {t : TA} {vs : List V} {c : V → Bool} (ha : EvL t σ H vs) (hz : vs.length ≤ sizeLine) (hc : ∀ a, c (.ref a) = false) : EvP (tTup t) σ H (KnNo K c) :=
  (evp_tupV (K := K) ha hz).to fun v H' S ⟨a, e, h⟩ => ⟨by rw [e]; exact kn_tup h, by rw [e]; exact hc a⟩
/-- an if that stores one name anew, of which P holds either way -/
theorem qs_ifsetP {D : Ends} {u : TS} {c : TT} {b : Bool} {i : Nat} {old : V} {P : V → Hp → Prop} (h : EvT c σ H b) (ho : σ[i]? = some (some old)) (hv : b = true → EvP te σ H P) (hn : b = false → ∀ H', Sm H H' → P old H') (k : ∀ v H', Sm H H' → P v H' → u D (σ.set i (some v)) H') :
    tSeq (tIfS c (tAsg te (gName i)) tNext) u D σ H :=
  qs_if h (fun e H' S => (hv e) H' S _ fun v H2 S2 p => k v H2 (S.trans S2) p) fun e H' S => by
    have q := k old H' S (hn e H' S)
    have es : σ.set i (some old) = σ := by
      refine List.ext_getElem? fun j => ?_
      by_cases hj : j = i
      · subst hj
        rw [List.getElem?_set_self (List.getElem?_eq_some_iff.mp ho).1, ho]
      · rw [List.getElem?_set_ne (Ne.symm hj)]
    rw [es] at q
    exact q
/-- try: x = f(..) except C as e: suite -/
theorem qs_tryCall {D : Ends} {u : TS} {c : Value} {i j : Nat} {sp : Sp} {tr : TA} {vs : List V} {ts : Addr → Value → Option Addr → TS} {Wout : WX} (ha : EvL tr σ H vs)
    (h : ∀ H1, Sm H H1 → sp vs H1 (fun v H2 => u D (σ.set j (some v)) H2) (fun cls d H2 => wAs K c i ts Wout { D with nx := u D } cls d σ H2)) :
    tSeq (fun D σ H => tAsg (tCallS sp (WE (wAs K c i ts Wout D)) tr) (gName j) D σ H) u D σ H :=
  ha H (Sm.refl _) _ fun us H2 S2 p => by subst p; exact h H2 S2
/-- try: f(..) except C as e: suite -/
theorem qs_tryDrop {D : Ends} {u : TS} {c : Value} {i : Nat} {sp : Sp} {tr : TA} {vs : List V} {ts : Addr → Value → Option Addr → TS} {Wout : WX} (ha : EvL tr σ H vs)
    (h : ∀ H1, Sm H H1 → sp vs H1 (fun _ H2 => u D σ H2) (fun cls d H2 => wAs K c i ts Wout { D with nx := u D } cls d σ H2)) :
    tSeq (fun D σ H => tDrop (tCallS sp (WE (wAs K c i ts Wout D)) tr) D σ H) u D σ H :=
  ha H (Sm.refl _) _ fun us H2 S2 p => by subst p; exact h H2 S2
/-- f(..) that may raise, its answer dropped -/
theorem qs_dropS {D : Ends} {u : TS} {sp : Sp} {tr : TA} {vs : List V} {E : L2.St → XK} (ha : EvL tr σ H vs) (h : ∀ H1, Sm H H1 → sp vs H1 (fun _ H2 => u D σ H2) (E σ)) : tSeq (tDrop (tCallS sp E tr)) u D σ H :=
  ha H (Sm.refl _) _ fun us H2 S2 p => by subst p; exact h H2 S2
theorem ev_abs {i : Int} (ha : Ev ta σ H (.int i)) : Ev (tCB (fun xs H Q => ∃ i, xs = [.int i] ∧ Q (.int (if i < 0 then -i else i)) H) (tCons ta tNil)) σ H (.int (if i < 0 then -i else i)) :=
  ev_cb (evl_cons ha evl_nil) fun H1 S Q q => ⟨i, rfl, q H1 (Sm.refl _)⟩
theorem evp_maxmin {tc : TE} {o : Int} {P R : Int → Prop} (ha : EvP ta σ H fun v _ => ∃ p, v = .int p ∧ P p) (hb : Ev tb σ H (.int o)) (hc : EvP tc σ H fun v _ => ∃ p, v = .int p ∧ R p) :
    EvP (tCB (fun xs H Q => ∃ i j, xs = [.int i, .int j] ∧ Q (.int (if j > i then j else i)) H) (tCons ta (tCons (tCB (fun xs H Q => ∃ i j, xs = [.int i, .int j] ∧ Q (.int (if j < i then j else i)) H) (tCons tb (tCons tc tNil))) tNil))) σ H
      fun v _ => ∃ lo hi, P lo ∧ R hi ∧ v = .int (if (if hi < o then hi else o) > lo then (if hi < o then hi else o) else lo) := fun H1 S Q q =>
  ha H1 S _ fun v H2 S2 ⟨lo, e, hp⟩ => hb H2 (S.trans S2) _ fun H3 S3 => hc H3 (S.trans (S2.trans S3)) _ fun v' H4 S4 ⟨hi, e', hr⟩ => by
    subst e e'
    exact ⟨o, hi, rfl, lo, _, rfl, q _ H4 (S2.trans (S3.trans S4)) ⟨lo, hi, hp, hr, rfl⟩⟩
end
end My

set_option Elab.async false
set_option linter.all false
set_option maxRecDepth 100000
set_option maxHeartbeats 400000
/-! Lists of wishes, read by their numbers; rows of pieces. -/
namespace My
open PySem PySem.Spec PyProof.Rows L2
section
variable {σ : L2.St} {H : Hp} {v : V} {ta tb te : TE} {K : PySem.W.Frag} {a : Addr} {ws : List Wish} {ns : List Int} {i : Nat}
theorem evp_wish (ha : Ev ta σ H (.ref a)) (hb : Ev tb σ H (.int (i : Int))) (hW : WishL K H a ws) (hi : i < ws.length) : EvP (tOp (rIxL K) ta tb) σ H fun v H' => WishV K H' v (wAt ws i) := by
  obtain ⟨xs, hx, hw⟩ := hW
  obtain ⟨v, hv, hwv⟩ := hw.get (wAt_get hi)
  exact evp_ixL ha hb hx (at_of (j := i) rfl hv) fun H' S => hwv.sm S
theorem ev_wpart {j : Int} (ha : Ev ta σ H (.ref a)) (hb : Ev tb σ H (.int (i : Int))) (hW : WishL K H a ws) (hi : i < ws.length) (hj : atI (wAt ws i).row j = some v) : Ev (tOp (rIxT K) (tOp (rIxL K) ta tb) (tC (.int j))) σ H v :=
  ev_ixTP ((evp_wish ha hb hW hi).to fun v H' S h => h) ev_c hj
theorem ev_wSide (ha : Ev ta σ H (.ref a)) (hb : Ev tb σ H (.int (i : Int))) (hW : WishL K H a ws) (hi : i < ws.length) : Ev (tOp (rIxT K) (tOp (rIxL K) ta tb) (tC (.int 0))) σ H (.str (sideS (wAt ws i).buy)) := ev_wpart ha hb hW hi rfl
theorem ev_wLim (ha : Ev ta σ H (.ref a)) (hb : Ev tb σ H (.int (i : Int))) (hW : WishL K H a ws) (hi : i < ws.length) : Ev (tOp (rIxT K) (tOp (rIxL K) ta tb) (tC (.int 1))) σ H (.int (wAt ws i).lim) := ev_wpart ha hb hW hi rfl
theorem ev_wAmt (ha : Ev ta σ H (.ref a)) (hb : Ev tb σ H (.int (i : Int))) (hW : WishL K H a ws) (hi : i < ws.length) : Ev (tOp (rIxT K) (tOp (rIxL K) ta tb) (tC (.int 2))) σ H (.int (amtAt ws i)) := ev_wpart ha hb hW hi rfl
/-- a part of a wish in hand -/
theorem ev_vSide {t : Addr} {w : Wish} (ha : Ev ta σ H (.ref t)) (h : SqT K H t w.row) : Ev (tOp (rIxT K) ta (tC (.int 0))) σ H (.str (sideS w.buy)) := ev_ixT ha ev_c h rfl
theorem ev_vLim {t : Addr} {w : Wish} (ha : Ev ta σ H (.ref t)) (h : SqT K H t w.row) : Ev (tOp (rIxT K) ta (tC (.int 1))) σ H (.int w.lim) := ev_ixT ha ev_c h rfl
theorem ev_vAmt {t : Addr} {w : Wish} (ha : Ev ta σ H (.ref t)) (h : SqT K H t w.row) : Ev (tOp (rIxT K) ta (tC (.int 2))) σ H (.int w.amt) := ev_ixT ha ev_c h rfl
/-- a number of a list of numbers -/
theorem ev_ixN (ha : Ev ta σ H (.ref a)) (hb : Ev tb σ H (.int (i : Int))) (hS : SqL K H a (ns.map V.int)) (hi : i < ns.length) : Ev (tOp (rIxL K) ta tb) σ H (.int (ns.getD i 0)) :=
  ev_ixL ha hb hS (at_of (j := i) rfl (by rw [List.getElem?_map, List.getElem?_eq_getElem hi, List.getD_eq_getElem?_getD, List.getElem?_eq_getElem hi]; rfl))
theorem ev_lenW (ha : Ev ta σ H (.ref a)) (hW : WishL K H a ws) : Ev (tCB (fun xs H Q => ∃ p ys, xs = [.ref p] ∧ (SqL K H p ys ∨ SqT K H p ys) ∧ Q (.int ys.length) H) (tCons ta tNil)) σ H (.int (ws.length : Int)) := by
  obtain ⟨xs, hx, hw⟩ := hW
  rw [← hw.length]
  exact ev_len ha hx
/-- pieces that go with the wishes -/
structure Pcs (ws : List Wish) (ns : List Int) : Prop where
  len : ns.length = ws.length
  ok : ∀ k, k < ws.length → 0 ≤ ns.getD k 0 ∧ ns.getD k 0 ≤ amtAt ws k
theorem Pcs.snoc {xs : List Int} {m : Int} {n : Nat} (hl : xs.length = n) (h : ∀ k, k < n → 0 ≤ xs.getD k 0 ∧ xs.getD k 0 ≤ amtAt ws k) (h0 : 0 ≤ m) (h1 : m ≤ amtAt ws n) : ∀ k, k < n + 1 → 0 ≤ (xs ++ [m]).getD k 0 ∧ (xs ++ [m]).getD k 0 ≤ amtAt ws k := fun k hk => by
  by_cases e : k < n
  · rw [List.getD_eq_getElem?_getD, List.getElem?_append_left (by omega), ← List.getD_eq_getElem?_getD]
    exact h k e
  · have e2 : k = n := by omega
    subst e2
    rw [List.getD_eq_getElem?_getD, List.getElem?_append_right (by omega), hl, Nat.sub_self]
    exact ⟨h0, h1⟩
theorem WishL.mut {H' : Hp} {l : Addr} {o : HO} (h : WishL K H' a ws) {H0 : Hp} (S : Sm H0 H') (hn : H0 l = none) (h0 : WishL K H0 a ws) : WishL K (upd H' l o) a ws := h0.sm (S.mut hn)
/-- [], new -/
theorem evp_lst0 : EvP (tLst tNil) σ H fun u H' => ∃ l, u = .ref l ∧ H l = none ∧ H' l = some (.lst []) := fun H1 S Q q =>
  ⟨Nat.zero_le _, fun l nl => q (.ref l) _ (Sm.new nl) ⟨l, rfl, S.free nl, upd_same⟩⟩
/-- xs + ys, lists -/
theorem evp_cat {Pa Pb : List V → Hp → Prop} (sa : ∀ xs H H', Sm H H' → Pa xs H → Pa xs H') (sb : ∀ xs H H', Sm H H' → Pb xs H → Pb xs H') (hz : ∀ xs ys H', Pa xs H' → Pb ys H' → xs.length + ys.length ≤ sizeLine)
    (ha : EvP ta σ H fun v H' => ∃ a xs, v = .ref a ∧ H' a = some (.lst xs) ∧ Pa xs H') (hb : EvP tb σ H fun v H' => ∃ a xs, v = .ref a ∧ H' a = some (.lst xs) ∧ Pb xs H') :
    EvP (tOp rCat ta tb) σ H fun v H' => ∃ a xs, v = .ref a ∧ H' a = some (.lst xs) ∧ ∃ ys zs, xs = ys ++ zs ∧ Pa ys H' ∧ Pb zs H' := fun H1 S Q q =>
  ha H1 S _ fun u H2 S2 ⟨a, xs, e, h, pa⟩ => hb H2 (S.trans S2) _ fun u' H3 S3 ⟨b, ys, e', h', pb⟩ => by
    subst e e'
    exact ⟨a, b, xs, ys, rfl, rfl, S3.lst h, h', hz xs ys H3 (sa _ _ _ S3 pa) pb, fun p np => q _ _ (S2.trans (S3.trans (Sm.new np))) ⟨p, _, rfl, upd_same, xs, ys, rfl, sa _ _ _ (S3.trans (Sm.new np)) pa, sb _ _ _ (Sm.new np) pb⟩⟩
end
/-! ### sizes -/
abbrev bits : Int → Nat := Builtin.Int.intBits
theorem bits_small {i : Int} (h1 : -(2 ^ 64) < i) (h2 : i < 2 ^ 64) : bits i ≤ 64 := PySem.intBits_le_64 h1 h2
theorem bits_getD {ns : List Int} {m : Nat} (h : ∀ z ∈ ns, bits z ≤ m) (k : Nat) (hm : 64 ≤ m) : bits (ns.getD k 0) ≤ m := by
  rw [List.getD_eq_getElem?_getD]
  cases e : ns[k]? with
  | none => exact Nat.le_trans (bits_small (by decide) (by decide)) hm
  | some z => exact h z (List.mem_of_getElem? e)
/-- the law's own promise, with the script's sizes -/
def SpLawB (K : PySem.W.Frag) (tabs : List Addr) : Sp := fun vs H Q _ => ∃ (a : Addr) (ns : List Int), vs = [.ref a] ∧ SqL K H a (ns.map V.int) ∧ ns.length ≤ 63 ∧ (∀ z ∈ ns, bits z ≤ 1048576) ∧ (∀ P ∈ tabs, GxR.TabG H P) ∧ ∀ H', Q (.bl true) H'
end My

set_option Elab.async false
set_option linter.all false
set_option maxRecDepth 100000
set_option maxHeartbeats 400000
/-! Walks: comprehensions and loops over zip, enumerate, any list; sorted pairs; stores into lists. -/
namespace My
open PySem PySem.Spec PyProof.Rows L2
/-! ### one more rule: xs[i] of an assignment with an operator -/
theorem get_list {X : Cx} : PGet X (rIxL X.K) := by
  intro pins s σ H x y v u Q I rx ry h
  obtain ⟨p, xs, i, z, rfl, rfl, hq, he, q⟩ := h
  cases rx
  obtain ⟨t, rfl⟩ := ry
  obtain ⟨its, r, pl, hz⟩ := I.list hq
  obtain ⟨j, h1, h2, h3, h4, h5⟩ := atI_get he
  obtain ⟨w, ew, rw'⟩ := r.get h2
  have hl := r.length
  have hn := line63
  have fin : EP X pins σ Q w s := ⟨z, H, I, rw', q⟩
  by_cases h0 : 0 ≤ i
  · have hj : i.toNat = j := by
      rw [seqIndex_of h0 h5] at h1
      exact Option.some.inj h1
    exact wpAny_getItem_list pl.isList h0 (by omega) (by rw [hj]; simpa using ew) fin
  · have hj : (i + (its.toArray.size : Int)).toNat = j := by
      rw [seqIndex_neg (by omega) h4] at h1
      rw [List.size_toArray, ← hl]
      exact Option.some.inj h1
    exact wpAny_getItem_list_neg pl.isList (by omega) (by rw [List.size_toArray] <;> omega) (by omega) (by rw [hj]; simpa using ew) fin
/-! ### a target that takes a value apart -/
/-- the target takes the value, and leaves the slots σ' -/
def EvG (g : TG) (x : V) (σ : L2.St) (H : Hp) (σ' : L2.St) : Prop := ∀ H1, Sm H H1 → ∀ Q : L2.St → Hp → Prop, (∀ H2, Sm H1 H2 → Q σ' H2) → g x σ H1 Q
def EvGs (g : TGs) (xs : List V) (σ : L2.St) (H : Hp) (σ' : L2.St) : Prop := ∀ H1, Sm H H1 → ∀ Q : L2.St → Hp → Prop, (∀ H2, Sm H1 H2 → Q σ' H2) → g xs σ H1 Q
section
variable {σ σ' σ2 : L2.St} {H : Hp} {v x : V} {xs : List V} {K : PySem.W.Frag} {g : TG} {gs : TGs}
theorem evg_name {i : Nat} : EvG (gName i) x σ H (σ.set i (some x)) := fun H1 S Q q => q H1 (Sm.refl _)
theorem evgs_nil : EvGs gNil [] σ H σ := fun H1 S Q q => ⟨rfl, q H1 (Sm.refl _)⟩
theorem evgs_cons (h : EvG g x σ H σ') (k : EvGs gs xs σ' H σ2) : EvGs (gCons g gs) (x :: xs) σ H σ2 := fun H1 S Q q => ⟨x, xs, rfl, h H1 S _ fun H2 S2 => k H2 (S.trans S2) Q fun H3 S3 => q H3 (S2.trans S3)⟩
theorem evg_tup {a : Addr} {n : Nat} (hS : SqT K H a xs) (hl : xs.length = n) (k : EvGs gs xs σ H σ') : EvG (gTup K n gs) (.ref a) σ H σ' := fun H1 S Q q => ⟨a, xs, rfl, S.sqt hS, hl, k H1 S Q q⟩
theorem EvG.mono {H' : Hp} (h : EvG g x σ H σ') (S : Sm H H') : EvG g x σ H' σ' := fun H1 S1 => h H1 (S.trans S1)
end
/-! ### comprehensions over any walk -/
/-- the tuples stay -/
structure Tq (K : PySem.W.Frag) (H H' : Hp) : Prop where
  tk : Tk K H H'
  tup : ∀ a r, H a = some (.tup r) → H' a = some (.tup r)
theorem Sm.tq {K : PySem.W.Frag} {H H' : Hp} (S : Sm H H') : Tq K H H' := ⟨S.tk, fun _ _ h => S.tup h⟩
theorem Tq.trans {K : PySem.W.Frag} {H H1 H' : Hp} (s : Tq K H H1) (t : Tq K H1 H') : Tq K H H' := ⟨fun a r h => t.tk a r (s.tk a r h), fun a r h => t.tup a r (s.tup a r h)⟩
theorem tq_lst {K : PySem.W.Frag} {H : Hp} {D : Addr} {xs ys : List V} (h : H D = some (.lst xs)) : Tq K H (upd H D (.lst ys)) := ⟨tk_lst h, fun a r e => by rw [upd_ne (fun z => by rw [z, h] at e; cases e)]; exact e⟩
section
variable {σ : L2.St} {H : Hp} {K : PySem.W.Frag}
/-- what is left of a comprehension when its walk J has been made -/
def tLcB (J : It) (g : TG) (tt : TT) (te : TE) (vs : List Nat) (σ : L2.St) (H1 : Hp) (Q : VK) : Prop := ∀ D, H1 D = none → ∃ W : Nat → Nat → Hp → Prop, (∃ m, W 0 m (upd H1 D (.lst []))) ∧ ∀ i m H, W i m H →
  (J.stop i H ∧ Q (.ref D) H) ∨ (J.go i H ∧ ∃ Nx : Hp → Prop, (∀ H', Nx H' → ∃ m', m' < m ∧ W (i + 1) m' H') ∧ ∀ x H', J.yld i H x H' → g x (wipe σ vs) H' fun σ2 H2 => wipe σ2 vs = wipe σ vs ∧ tt σ2 H2 fun b H3 =>
    if b = true then te σ2 H3 fun y H4 => ∃ acc, H4 D = some (.lst acc) ∧ acc.length < sizeLine ∧ Nx (upd H4 D (.lst (acc ++ [y]))) else Nx H3)
theorem tLc_eq (wi : TI) (g : TG) (tt : TT) (te : TE) (vs : List Nat) (σ : L2.St) (H : Hp) (Q : VK) : tLc wi g tt te vs σ H Q = wi σ H fun J H1 => tLcB J g tt te vs σ H1 Q := rfl
/-- the numbers below n that pass -/
def kept (pz : Nat → Bool) (n : Nat) : List Nat := (List.range n).filter pz
theorem kept_succ {pz : Nat → Bool} {n : Nat} : kept pz (n + 1) = kept pz n ++ (if pz n = true then [n] else []) := by
  unfold kept
  rw [List.range_succ, List.filter_append, List.filter_cons]
  by_cases h : pz n = true
  · rw [if_pos h, if_pos h]; rfl
  · rw [if_neg h, if_neg h]; rfl
theorem kept_len {pz : Nat → Bool} {n : Nat} : (kept pz n).length ≤ n := by
  have h := List.length_filter_le pz (List.range n)
  rw [List.length_range] at h
  exact h
theorem kept_lt {pz : Nat → Bool} {n i : Nat} (h : i ∈ kept pz n) : i < n ∧ pz i = true := ⟨List.mem_range.mp (List.mem_filter.mp h).1, (List.mem_filter.mp h).2⟩
theorem lc_walk {J : It} {n : Nat} {G : Hp → Prop} {Y : Nat → Hp → V → Hp → Prop} {g : TG} {tt : TT} {te : TE} {vs : List Nat} {pz : Nat → Bool} {P : Nat → V → Hp → Prop} {Q : VK}
    (w : Walk J n G Y) (hG : ∀ H1, Sm H H1 → G H1) (st : ∀ i y H H', Tq K H H' → P i y H → P i y H') (hz : n ≤ 100000)
    (ht : ∀ i x H1 H2, i < n → Sm H H1 → Y i H1 x H2 → Sm H1 H2 ∧ ∃ σ', EvG g x (wipe σ vs) H2 σ' ∧ wipe σ' vs = wipe σ vs ∧ EvT tt σ' H2 (pz i) ∧ (pz i = true → EvP te σ' H2 (P i)))
    (q : ∀ D ys H', H D = none → Sm H H' → H' D = some (.lst ys) → Paired (fun i y => P i y H') (kept pz n) ys → Q (.ref D) H') : tLcB J g tt te vs σ H Q := fun D nD => by
  refine lc_it w (Qd := fun H' => Q (.ref D) H') (fun i H' => Sm H H' ∧ ∃ acc, H' D = some (.lst acc) ∧ Paired (fun j y => P j y H') (kept pz i) acc) ⟨Sm.new nD, [], upd_same, .nil⟩ (fun i H' _ h => hG H' h.1) (fun i x H1 H2 hi hP hy => ?_) (fun H' hP => ?_)
  · obtain ⟨S1, acc, hD, hp⟩ := hP
    obtain ⟨S2, σ', eg, ew, et, ee⟩ := ht i x H1 H2 hi S1 hy
    refine eg H2 (Sm.refl _) _ fun H3 S3 => ⟨ew, et H3 S3 _ fun H4 S4 => ?_⟩
    have S14 := S2.trans (S3.trans S4)
    have hl := Paired.length hp
    have hk := kept_len (pz := pz) (n := i)
    cases e : pz i with
    | true =>
      rw [if_pos rfl]
      refine ee e H4 (S3.trans S4) _ fun y H5 S5 py => ⟨acc, S5.lst (S14.lst hD), Nat.lt_of_lt_of_le (show acc.length < 100001 by omega) (by decide), (S1.trans (S14.trans S5)).mut nD, acc ++ [y], upd_same, ?_⟩
      have hD5 := S5.lst (S14.lst hD)
      have t1 : Tq K H1 (upd H5 D (.lst (acc ++ [y]))) := (S14.trans S5).tq.trans (tq_lst hD5)
      rw [kept_succ, if_pos e]
      exact Paired.snoc (Paired.mapR (fun a b z => st a b _ _ t1 z) hp) (st _ _ _ _ (tq_lst hD5) py)
    | false =>
      rw [if_neg Bool.false_ne_true]
      refine ⟨S1.trans S14, acc, S14.lst hD, ?_⟩
      rw [kept_succ, if_neg (by rw [e]; exact Bool.false_ne_true), List.append_nil]
      exact Paired.mapR (fun a b z => st a b _ _ S14.tq z) hp
  · obtain ⟨S1, acc, hD, hp⟩ := hP
    exact q D acc H' nD S1 hD hp
/-- numbers, or texts, or truths: what the list holds is known -/
theorem paired_map {α β : Type} {f : α → β} : ∀ {l : List α} {m : List β}, Paired (fun i y => y = f i) l m → m = l.map f
  | _, _, .nil => rfl
  | _, _, .cons r t => by rw [List.map_cons, ← paired_map t, r]
/-! the walks -/
theorem Sm.pair {H H' : Hp} {T : Addr} {x y : V} (h : H T = none) (e : H' = upd H T (.tup [x, y])) : Sm H H' := e ▸ Sm.new h
/-- zip(xs, ys) -/
theorem evp_lcZip {ta : TA} {a b : Addr} {xs ys : List V} {n : Nat} {g : TG} {tt : TT} {te : TE} {vs : List Nat} {pz : Nat → Bool} {P : Nat → V → Hp → Prop}
    (ha : EvL ta σ H [.ref a, .ref b]) (hx : SqL K H a xs) (hy : SqL K H b ys) (hn : n = min xs.length ys.length) (st : ∀ i y H H', Tq K H H' → P i y H → P i y H') (hz : n ≤ 100000)
    (ht : ∀ i x y T H2, xs[i]? = some x → ys[i]? = some y → Sm H H2 → H2 T = some (.tup [x, y]) → ∃ σ', EvG g (.ref T) (wipe σ vs) H2 σ' ∧ wipe σ' vs = wipe σ vs ∧ EvT tt σ' H2 (pz i) ∧ (pz i = true → EvP te σ' H2 (P i))) :
    EvP (tLc (iZip K ta) g tt te vs) σ H fun u H' => ∃ D zs, u = .ref D ∧ H D = none ∧ H' D = some (.lst zs) ∧ Paired (fun i y => P i y H') (kept pz n) zs := fun H1 S Q q =>
  ha H1 S _ fun us H2 S2 p => ⟨a, b, xs, ys, p, (S.trans S2).sql hx, (S.trans S2).sql hy, lc_walk (K := K) (walk_zip hn) (fun H3 S3 => ⟨(S.trans (S2.trans S3)).sql hx, (S.trans (S2.trans S3)).sql hy⟩) st hz (fun i x H3 H4 hi S3 hY => by
      obtain ⟨T, x1, y1, e, nT, e4, h1, h2⟩ := hY
      subst e
      have S34 := Sm.pair nT e4
      exact ⟨S34, ht i x1 y1 T H4 h1 h2 (S.trans (S2.trans (S3.trans S34))) (by rw [e4, upd_same])⟩)
    fun D zs H3 nD S3 hD hp => q _ H3 (S2.trans S3) ⟨D, zs, rfl, S.free (S2.free nD), hD, hp⟩⟩
/-- enumerate(xs) -/
theorem evp_lcEnum {ta : TA} {a : Addr} {xs : List V} {g : TG} {tt : TT} {te : TE} {vs : List Nat} {pz : Nat → Bool} {P : Nat → V → Hp → Prop}
    (ha : EvL ta σ H [.ref a]) (hx : SqL K H a xs) (st : ∀ i y H H', Tq K H H' → P i y H → P i y H') (hz : xs.length ≤ 100000)
    (ht : ∀ (i : Nat) y T H2, xs[i]? = some y → Sm H H2 → H2 T = some (.tup [.int (i : Int), y]) → ∃ σ', EvG g (.ref T) (wipe σ vs) H2 σ' ∧ wipe σ' vs = wipe σ vs ∧ EvT tt σ' H2 (pz i) ∧ (pz i = true → EvP te σ' H2 (P i))) :
    EvP (tLc (iEnum K ta) g tt te vs) σ H fun u H' => ∃ D zs, u = .ref D ∧ H D = none ∧ H' D = some (.lst zs) ∧ Paired (fun i y => P i y H') (kept pz xs.length) zs := fun H1 S Q q =>
  ha H1 S _ fun us H2 S2 p => ⟨a, xs, p, (S.trans S2).sql hx, lc_walk (K := K) walk_enum (fun H3 S3 => (S.trans (S2.trans S3)).sql hx) st hz (fun i x H3 H4 hi S3 hY => by
      obtain ⟨T, x1, y1, e, nT, e4, h1, h2⟩ := hY
      subst e
      have e1 := Option.some.inj h1
      subst e1
      have S34 := Sm.pair nT e4
      exact ⟨S34, ht i y1 T H4 h2 (S.trans (S2.trans (S3.trans S34))) (by rw [e4, upd_same])⟩)
    fun D zs H3 nD S3 hD hp => q _ H3 (S2.trans S3) ⟨D, zs, rfl, S.free (S2.free nD), hD, hp⟩⟩
/-- a list, made or known; what it holds may be known by R alone -/
theorem evp_lcL {δ : Type} {tl : TE} {g : TG} {tt : TT} {te : TE} {vs : List Nat} {R : δ → List V → Hp → Prop} {pz : δ → Nat → Bool} {P : δ → Nat → V → Hp → Prop}
    (hl : EvP tl σ H fun u H' => ∃ a xs d, u = .ref a ∧ SqL K H' a xs ∧ R d xs H') (sR : ∀ d xs H H', Sm H H' → R d xs H → R d xs H') (st : ∀ d i y H H', Tq K H H' → P d i y H → P d i y H') (hz : ∀ d xs H', R d xs H' → xs.length ≤ 100000)
    (ht : ∀ d xs i x H2, R d xs H2 → xs[i]? = some x → Sm H H2 → ∃ σ', EvG g x (wipe σ vs) H2 σ' ∧ wipe σ' vs = wipe σ vs ∧ EvT tt σ' H2 (pz d i) ∧ (pz d i = true → EvP te σ' H2 (P d i))) :
    EvP (tLc (iList K tl) g tt te vs) σ H fun u H' => ∃ D zs xs d, u = .ref D ∧ H D = none ∧ H' D = some (.lst zs) ∧ R d xs H' ∧ Paired (fun i y => P d i y H') (kept (pz d) xs.length) zs := fun H1 S Q q =>
  hl H1 S _ fun u H2 S2 ⟨a, xs, d, e, hx, hR⟩ => ⟨a, e, ⟨xs, hx⟩, lc_walk (K := K) walk_list (fun H3 S3 => S3.sql hx) (st d) (hz d xs H2 hR) (fun i x H3 H4 hi S3 hY => by
      obtain ⟨e4, h1⟩ := hY
      subst e4
      exact ⟨Sm.refl _, ht d xs i x _ (sR d xs _ _ S3 hR) h1 (S.trans (S2.trans S3))⟩)
    fun D zs H3 nD S3 hD hp => q _ H3 (S2.trans S3) ⟨D, zs, xs, d, rfl, S.free (S2.free nD), hD, sR d xs _ _ S3 hR, hp⟩⟩
/-- range(n) -/
theorem evp_lcR {ta : TA} {j : Int} {n : Nat} {g : TG} {tt : TT} {te : TE} {vs : List Nat} {pz : Nat → Bool} {P : Nat → V → Hp → Prop}
    (ha : EvL ta σ H [.int j]) (hj : j = (n : Int)) (st : ∀ i y H H', Tq K H H' → P i y H → P i y H') (hz : n ≤ 100000)
    (ht : ∀ i H2, i < n → Sm H H2 → ∃ σ', EvG g (.int (i : Int)) (wipe σ vs) H2 σ' ∧ wipe σ' vs = wipe σ vs ∧ EvT tt σ' H2 (pz i) ∧ (pz i = true → EvP te σ' H2 (P i))) :
    EvP (tLc (iRng1 ta) g tt te vs) σ H fun u H' => ∃ D zs, u = .ref D ∧ H D = none ∧ H' D = some (.lst zs) ∧ Paired (fun i y => P i y H') (kept pz n) zs := fun H1 S Q q =>
  ha H1 S _ fun us H2 S2 p => ⟨j, p, by omega, by omega, by
    subst hj
    refine lc_walk (K := K) (walk_range (lo := 0)) (fun _ _ => True.intro) st hz (fun i x H3 H4 hi S3 hY => ?_) fun D zs H3 nD S3 hD hp => q _ H3 (S2.trans S3) ⟨D, zs, rfl, S.free (S2.free nD), hD, hp⟩
    obtain ⟨e4, e5⟩ := hY
    subst e4 e5
    show _ ∧ ∃ σ', EvG g (.int (0 + (i : Int))) _ _ σ' ∧ _
    rw [Int.zero_add]
    exact ⟨Sm.refl _, ht i _ (by omega) (S.trans (S2.trans S3))⟩⟩
theorem evt_yes {b : Bool} (h : b = true) : EvT tYes σ H b := fun H1 S Q q => by subst h; exact q H1 (Sm.refl _)
end
/-! ### loops over any walk -/
section
variable {σ : L2.St} {H : Hp} {K : PySem.W.Frag} {D : Ends} {tb : TS} {g : TG}
/-- for .. in zip(xs, ys) -/
theorem q_forZ {ta : TA} {a b : Addr} {xs ys : List V} {n : Nat} (Pv : Nat → L2.St → Hp → Prop) (ha : EvL ta σ H [.ref a, .ref b]) (hx : SqL K H a xs) (hy : SqL K H b ys) (hn : n = min xs.length ys.length) (h0 : ∀ H', Sm H H' → Pv 0 σ H') (hl : ∀ i σ' H', i ≤ n → Pv i σ' H' → SqL K H' a xs ∧ SqL K H' b ys)
    (hs : ∀ i x y T σ' H1 H2, xs[i]? = some x → ys[i]? = some y → Pv i σ' H1 → Sm H1 H2 → H2 T = some (.tup [x, y]) → ∃ σ2, EvG g (.ref T) σ' H2 σ2 ∧ ∀ H3, Sm H2 H3 → tb { D with nx := Pv (i + 1), ct := Pv (i + 1), bk := D.nx } σ2 H3) (hd : ∀ σ' H', Pv n σ' H' → D.nx σ' H') : tFor (iZip K ta) g tb D σ H :=
  ha H (Sm.refl _) _ fun us H2 S2 p => ⟨a, b, xs, ys, p, S2.sql hx, S2.sql hy, for_it (walk_zip hn) Pv (h0 H2 S2) hl (fun i x σ' H1 H3 hi hP hY => by
    obtain ⟨T, x1, y1, e, nT, e4, h1, h2⟩ := hY
    subst e
    obtain ⟨σ2, eg, k⟩ := hs i x1 y1 T σ' H1 H3 h1 h2 hP (Sm.pair nT e4) (by rw [e4, upd_same])
    exact eg H3 (Sm.refl _) _ k) hd⟩
/-- for .. in xs, any target -/
theorem q_forG {te : TE} {a : Addr} {xs : List V} (Pv : Nat → L2.St → Hp → Prop) (h : Ev te σ H (.ref a)) (hx : SqL K H a xs) (h0 : ∀ H', Sm H H' → Pv 0 σ H') (hl : ∀ i σ' H', i ≤ xs.length → Pv i σ' H' → SqL K H' a xs)
    (hs : ∀ i x σ' H', xs[i]? = some x → Pv i σ' H' → ∃ σ2, EvG g x σ' H' σ2 ∧ ∀ H3, Sm H' H3 → tb { D with nx := Pv (i + 1), ct := Pv (i + 1), bk := D.nx } σ2 H3) (hd : ∀ σ' H', Pv xs.length σ' H' → D.nx σ' H') : tFor (iList K te) g tb D σ H :=
  h H (Sm.refl _) _ fun H2 S2 => ⟨a, rfl, ⟨xs, S2.sql hx⟩, for_it walk_list Pv (h0 H2 S2) hl (fun i x σ' H1 H3 hi hP hY => by
    obtain ⟨e4, h1⟩ := hY
    subst e4
    obtain ⟨σ2, eg, k⟩ := hs i x σ' _ h1 hP
    exact eg _ (Sm.refl _) _ k) hd⟩
/-- for .. in a list that is just made -/
theorem q_forP {te : TE} {R : Addr → List V → Hp → Prop} (h : EvP te σ H fun u H' => ∃ a xs, u = .ref a ∧ SqL K H' a xs ∧ R a xs H') (k : ∀ a xs H', Sm H H' → SqL K H' a xs → R a xs H' → tFor (iList K (tC (.ref a))) g tb D σ H') : tFor (iList K te) g tb D σ H :=
  h H (Sm.refl _) _ fun u H2 S2 ⟨a, xs, e, hx, hR⟩ => by
    obtain ⟨a', e', k'⟩ := k a xs H2 S2 hx hR
    cases e'
    exact ⟨a, e, k'⟩
/-- for .. in a tuple that is just made -/
theorem q_forT {te : TE} {xs : List V} {R : Hp → Prop} (Pv : Nat → L2.St → Hp → Prop) (h : EvP te σ H fun u H' => ∃ a, u = .ref a ∧ SqT K H' a xs ∧ R H') (h0 : ∀ H', Sm H H' → R H' → Pv 0 σ H') (hl : ∀ i σ' H0 H', Sm H H0 → R H0 → Pv i σ' H' → Sm H0 H' ∨ Tq K H0 H')
    (hs : ∀ i x σ' H', xs[i]? = some x → Pv i σ' H' → ∃ σ2, EvG g x σ' H' σ2 ∧ ∀ H3, Sm H' H3 → tb { D with nx := Pv (i + 1), ct := Pv (i + 1), bk := D.nx } σ2 H3) (hd : ∀ σ' H', Pv xs.length σ' H' → D.nx σ' H') : tFor (iTup K te) g tb D σ H :=
  h H (Sm.refl _) _ fun u H2 S2 ⟨a, e, hx, hR⟩ => ⟨a, e, ⟨xs, hx⟩, for_it walk_tup Pv (h0 H2 S2 hR) (fun i σ' H' _ hP => by
      rcases hl i σ' H2 H' S2 hR hP with S | S
      · exact S.sqt hx
      · exact S.tk _ _ hx) (fun i x σ' H1 H3 hi hP hY => by
    obtain ⟨e4, h1⟩ := hY
    subst e4
    obtain ⟨σ2, eg, k⟩ := hs i x σ' _ h1 hP
    exact eg _ (Sm.refl _) _ k) hd⟩
/-- xs[i] = e -/
theorem q_put {te to ti : TE} {l : Addr} {xs : List V} {i : Int} {j : Nat} {P : V → Hp → Prop} (he : EvP te σ H P) (ho : Ev to σ H (.ref l)) (hi : Ev ti σ H (.int i)) (hl : H l = some (.lst xs)) (hj : ixN xs.length i = some j) (k : ∀ y H' H2, Sm H H' → P y H' → Sm H' H2 → H2 l = some (.lst xs) → D.nx σ (upd H2 l (.lst (xs.set j y)))) : tAsg te (gSub to ti rSetL) D σ H :=
  he H (Sm.refl _) _ fun y H1 S1 py => ho H1 S1 _ fun H2 S2 => hi H2 (S1.trans S2) _ fun H3 S3 => ⟨l, xs, i, j, rfl, rfl, (S1.trans (S2.trans S3)).lst hl, hj, k y H1 H3 S1 py (S2.trans S3) ((S1.trans (S2.trans S3)).lst hl)⟩
/-- xs[i] op= e, ints -/
theorem q_augL {te to ti : TE} {l : Addr} {xs : List V} {i : Int} {j : Nat} {m n : Int} {f : Int → Int → Int} (ho : Ev to σ H (.ref l)) (hi : Ev ti σ H (.int i)) (he : Ev te σ H (.int n)) (hl : H l = some (.lst xs)) (hj : ixN xs.length i = some j) (hx : xs[j]? = some (.int m)) (k : ∀ H', Sm H H' → H' l = some (.lst xs) → D.nx σ (upd H' l (.lst (xs.set j (.int (f m n)))))) : tAugS to ti te (rIxL K) (ipI f) rSetL D σ H :=
  ho H (Sm.refl _) _ fun H1 S1 => hi H1 S1 _ fun H2 S2 => ⟨l, xs, i, .int m, rfl, rfl, .inl (.inl ((S1.trans S2).lst hl)), by unfold atI; rw [hj]; exact hx, he H2 (S1.trans S2) _ fun H3 S3 => ⟨m, n, rfl, rfl, l, xs, i, j, rfl, rfl, (S1.trans (S2.trans S3)).lst hl, hj, k H3 (S1.trans (S2.trans S3)) ((S1.trans (S2.trans S3)).lst hl)⟩⟩
/-- x op= e, ints -/
theorem q_aug {te : TE} {i : Nat} {m n : Int} {f : Int → Int → Int} (h0 : σ[i]? = some (some (.int m))) (he : Ev te σ H (.int n)) (k : ∀ H', Sm H H' → D.nx (σ.set i (some (.int (f m n)))) H') : tAug i te (ipI f) D σ H :=
  ⟨_, h0, he H (Sm.refl _) _ fun H1 S1 => ⟨m, n, rfl, rfl, k H1 S1⟩⟩
end
theorem ixN_nat {n i : Nat} (h : i < n) : ixN n (i : Int) = some i := by
  unfold ixN
  rw [if_pos (by omega), if_pos (by omega)]
  rfl
section
variable {σ : L2.St} {H : Hp} {K : PySem.W.Frag} {ta tb te : TE}
/-- sum(xs), numbers -/
theorem ev_sumP {t : TE} {ns : List Int} (h : EvP t σ H fun u H' => ∃ a, u = .ref a ∧ SqL K H' a (ns.map V.int)) : Ev (tCB (rSum K) (tCons t tNil)) σ H (.int ns.sum) := fun H1 S Q q =>
  h H1 S _ fun u H2 S2 ⟨a, e, hx⟩ => ⟨a, ns, by rw [e], hx, q H2 S2⟩
end
/-! ### heaps of which some objects change -/
/-- all that is tracked stays, but for ps -/
def SmE (ps : List Addr) (H H' : Hp) : Prop := ∀ b o, b ∉ ps → H b = some o → H' b = some o ∨ ∃ qs qs' : Array Value, o = .tbl qs ∧ H' b = some (.tbl qs') ∧ TriplesOk qs'.toList
section
variable {ps : List Addr} {H H' H1 : Hp} {K : PySem.W.Frag}
theorem Sm.e (S : Sm H H') : SmE ps H H' := fun b o _ h => S b o h
theorem SmE.refl : SmE ps H H := fun _ _ _ h => .inl h
theorem SmE.trans (a : SmE ps H H1) (b : SmE ps H1 H') : SmE ps H H' := fun c o n h => by
  rcases a c o n h with e | ⟨qs, qs', e1, e2, e3⟩
  · exact b c o n e
  · rcases b c _ n e2 with e | ⟨rs, rs', f1, f2, f3⟩
    · exact .inr ⟨qs, qs', e1, e, e3⟩
    · exact .inr ⟨qs, rs', e1, f2, f3⟩
theorem SmE.upd {p : Addr} {o : HO} (S : SmE ps H H') (h : p ∈ ps) : SmE ps H (upd H' p o) := fun b u n e => by
  have hb : b ≠ p := fun z => n (by rw [z]; exact h)
  rw [upd_ne hb]
  exact S b u n e
theorem SmE.sm (S : SmE ps H H') (h : ∀ p ∈ ps, H p = none) : Sm H H' := fun b o e => S b o (fun m => by rw [h b m] at e; cases e) e
theorem SmE.mono {qs : List Addr} (S : SmE ps H H') (h : ∀ p ∈ ps, p ∈ qs) : SmE qs H H' := fun b o n e => S b o (fun m => n (h b m)) e
theorem SmE.at (S : SmE ps H H') {b : Addr} {o : HO} (n : b ∉ ps) (e : H b = some o) (t : ∀ qs, o ≠ .tbl qs) : H' b = some o := by
  rcases S b o n e with h | ⟨qs, _, h, _⟩
  · exact h
  · exact (t qs h).elim
theorem SmE.lst (S : SmE ps H H') {b : Addr} {xs : List V} (n : b ∉ ps) (e : H b = some (.lst xs)) : H' b = some (.lst xs) := S.at n e fun _ z => by cases z
theorem SmE.tup (S : SmE ps H H') {b : Addr} {xs : List V} (n : b ∉ ps) (e : H b = some (.tup xs)) : H' b = some (.tup xs) := S.at n e fun _ z => by cases z
theorem SmE.free (S : SmE ps H H') {b : Addr} (n : b ∉ ps) (h : H' b = none) : H b = none := by
  cases e : H b with
  | none => rfl
  | some o => rcases S b o n e with z | ⟨_, _, _, z, _⟩ <;> (rw [h] at z; cases z)
theorem SmE.tabG (S : SmE ps H H') {P : Addr} (n : P ∉ ps) (t : GxR.TabG H P) : GxR.TabG H' P := by
  obtain ⟨qs, e, k⟩ := t
  rcases S P _ n e with z | ⟨rs, rs', _, z, z2⟩
  · exact ⟨qs, z, k⟩
  · exact ⟨rs', z, z2⟩
end
/-! ### sorted pairs -/
/-- the pairs' keys -/
def pairK (H : Hp) (v : V) : Int × Int := match v with
  | .ref t => match H t with
    | some (.tup [.int i, .int j]) => (i, j)
    | _ => (0, 0)
  | _ => (0, 0)
theorem pairK_of {H : Hp} {t : Addr} {i j : Int} (h : H t = some (.tup [.int i, .int j])) : pairK H (.ref t) = (i, j) := by
  show (match H t with | some (.tup [.int i, .int j]) => (i, j) | _ => (0, 0)) = (i, j)
  rw [h]
/-- one of rank r, number i, goes ahead of one of rank s, number j -/
def PLt (p q : Int × Int) : Prop := p.1 < q.1 ∨ (p.1 = q.1 ∧ p.2 < q.2)
theorem plt_of {p q : Int × Int} (h : (p.1 < q.1 ∨ (p.1 = q.1 ∧ p.2 ≤ q.2))) (n : p ≠ q) : PLt p q := by
  obtain ⟨a, b⟩ := p
  obtain ⟨c, d⟩ := q
  unfold PLt
  by_cases e : b = d
  · subst e
    rcases h with h | ⟨h, _⟩
    · exact .inl h
    · exact absurd (by simp only at h; rw [h]) n
  · simp only at h ⊢
    omega
theorem paired_self {α β : Type} {f : β → α} {R : α → β → Prop} : ∀ {l : List β}, (∀ y ∈ l, R (f y) y) → Paired R (l.map f) l
  | [], _ => .nil
  | y :: l, h => .cons (h y List.mem_cons_self) (paired_self fun z hz => h z (List.mem_cons_of_mem _ hz))
section
variable {σ : L2.St} {H : Hp} {K : PySem.W.Frag}
/-- sorted(xs), xs new pairs of numbers: their keys, in order -/
theorem evp_sortedP {t : TE} {qs : List (Int × Int)} (h : EvP t σ H fun u H' => ∃ a xs, u = .ref a ∧ H' a = some (.lst xs) ∧ Paired (fun (q : Int × Int) y => ∃ t, y = .ref t ∧ H' t = some (.tup [.int q.1, .int q.2])) qs xs) (nd : qs.Nodup) :
    EvP (tCB (rSortedPO K) (tCons t tNil)) σ H fun u H' => ∃ a xs rs, u = .ref a ∧ H' a = some (.lst xs) ∧ rs.Perm qs ∧ rs.Pairwise PLt ∧ Paired (fun (q : Int × Int) y => ∃ t, y = .ref t ∧ H' t = some (.tup [.int q.1, .int q.2])) rs xs := fun H1 S Q q =>
  h H1 S _ fun u H2 S2 ⟨a, xs, e, hx, hp⟩ => by
    have hmem : ∀ {qs : List (Int × Int)} {xs : List V}, Paired (fun (q : Int × Int) y => ∃ t, y = .ref t ∧ H2 t = some (.tup [.int q.1, .int q.2])) qs xs → qs = xs.map (pairK H2) ∧ ∀ x ∈ xs, ∃ t, x = .ref t ∧ H2 t = some (.tup [.int (pairK H2 x).1, .int (pairK H2 x).2]) := by
      intro qs xs hp
      induction hp with
      | nil => exact ⟨rfl, fun x h => nomatch h⟩
      | cons r _ ih =>
        obtain ⟨t, e, ht⟩ := r
        refine ⟨by rw [List.map_cons, ← ih.1, e, pairK_of ht], fun x hx => ?_⟩
        rcases List.mem_cons.mp hx with z | z
        · refine ⟨t, by rw [z, e], ?_⟩
          rw [z, e, pairK_of ht]
          exact ht
        · exact ih.2 x z
    obtain ⟨eq, hm⟩ := hmem hp
    refine ⟨a, xs, pairK H2, by rw [e], .inl (.inl hx), hm, fun ys p hs hst np => ?_⟩
    have hperm : (ys.map (pairK H2)).Perm qs := by rw [eq]; exact hst.perm.map _
    refine q _ _ (S2.trans (Sm.new np)) ⟨p, ys, ys.map (pairK H2), rfl, upd_same, hperm, ?_, ?_⟩
    · have nd2 : (ys.map (pairK H2)).Nodup := hperm.nodup_iff.mpr nd
      rw [List.pairwise_map]
      rw [List.nodup_iff_pairwise_ne, List.pairwise_map] at nd2
      refine (hs.and nd2).imp fun {x y} z => plt_of ?_ z.2
      have z1 := z.1
      have := SrtO.lexB_no.mp z1
      omega
    · have hy : ∀ y ∈ ys, ∃ t, y = .ref t ∧ H2 t = some (.tup [.int (pairK H2 y).1, .int (pairK H2 y).2]) := fun y hy => hm y (hst.perm.mem_iff.mp hy)
      exact paired_self fun y h => by
        obtain ⟨t, e1, ht⟩ := hy y h
        exact ⟨t, e1, by rw [upd_ne (ne_of_none ht np)]; exact ht⟩
end
end My

set_option Elab.async false
set_option linter.all false
set_option maxRecDepth 100000
set_option maxHeartbeats 400000
/-! The wishes of a side in their turn: who goes ahead is served first. -/
namespace My
theorem take_filter {α : Type} {lt : α → α → Bool} (irr : ∀ a, lt a a = false) (asym : ∀ a b, lt a b = true → lt b a = false) : ∀ {l : List α} {i : Nat} {m : α}, l.Pairwise (fun x y => lt x y = true) → l[i]? = some m → l.filter (fun x => lt x m) = l.take i
  | [], _, _, _, h => by simp at h
  | x :: l, 0, m, hp, h => by
    have e : x = m := Option.some.inj h
    subst e
    rw [List.pairwise_cons] at hp
    rw [List.take_zero, List.filter_eq_nil_iff]
    intro y hy
    rcases List.mem_cons.mp hy with z | z
    · rw [z, irr]
      exact Bool.false_ne_true
    · rw [asym _ _ (hp.1 y z)]
      exact Bool.false_ne_true
  | x :: l, i + 1, m, hp, h => by
    rw [List.pairwise_cons] at hp
    have h' : l[i]? = some m := by simpa using h
    rw [List.filter_cons, if_pos (hp.1 m (List.mem_of_getElem? h')), List.take_succ_cons, take_filter irr asym hp.2 h']
/-- how a wish is ranked, its number behind -/
def keyP (ws : List Wish) (i : Nat) : Int × Int := (rankOf (wAt ws i), (i : Int))
/-- those of side b who would deal at p, in their turn -/
structure Turn (ws : List Wish) (b : Bool) (p : Int) (ms : List Nat) : Prop where
  perm : ms.Perm (kept (inB ws b p) ws.length)
  srt : ms.Pairwise fun i j => PLt (keyP ws i) (keyP ws j)
theorem turn_of {ws : List Wish} {b : Bool} {p : Int} {rs : List (Int × Int)} (hp : rs.Perm ((kept (inB ws b p) ws.length).map (keyP ws))) (hs : rs.Pairwise PLt) : ∃ ms, Turn ws b p ms ∧ rs = ms.map (keyP ws) := by
  have e : rs = (rs.map fun q => q.2.toNat).map (keyP ws) := by
    rw [List.map_map]
    refine (List.map_id rs).symm.trans (List.map_congr_left fun q hq => ?_)
    obtain ⟨i, _, rfl⟩ := List.mem_map.mp (hp.mem_iff.mp hq)
    rfl
  refine ⟨rs.map fun q => q.2.toNat, ⟨?_, ?_⟩, e⟩
  · have h := hp.map fun q => q.2.toNat
    rw [List.map_map] at h
    have e2 : (kept (inB ws b p) ws.length).map ((fun q : Int × Int => q.2.toNat) ∘ keyP ws) = kept (inB ws b p) ws.length := by
      refine (List.map_congr_left fun q hq => ?_).trans (List.map_id _)
      rfl
    rw [e2] at h
    exact h
  · rw [e, List.pairwise_map] at hs
    exact hs
theorem nodup_keys {ws : List Wish} {pz : Nat → Bool} {n : Nat} : ((kept pz n).map (keyP ws)).Nodup := by
  rw [List.nodup_iff_pairwise_ne, List.pairwise_map]
  unfold kept
  refine (List.pairwise_lt_range.filter _).imp fun {a b} h e => ?_
  have e2 : (a : Int) = (b : Int) := congrArg Prod.snd e
  omega
section
variable {ws : List Wish} {b : Bool} {p : Int} {ms : List Nat}
theorem Turn.mem (t : Turn ws b p ms) {i : Nat} (h : i ∈ ms) : i < ws.length ∧ inB ws b p i = true := kept_lt (t.perm.mem_iff.mp h)
theorem Turn.has (t : Turn ws b p ms) {i : Nat} (h : i < ws.length) (h2 : inB ws b p i = true) : i ∈ ms := t.perm.mem_iff.mpr (List.mem_filter.mpr ⟨List.mem_range.mpr h, h2⟩)
theorem Turn.len (t : Turn ws b p ms) : ms.length ≤ ws.length := by
  rw [t.perm.length_eq]
  exact kept_len
theorem Turn.nodup (t : Turn ws b p ms) : ms.Nodup := by
  refine t.perm.nodup_iff.mpr ?_
  unfold kept
  exact List.nodup_range.filter _
theorem Turn.before (t : Turn ws b p ms) {i m : Nat} (h : ms[i]? = some m) : ((ms.take i).map (amtAt ws)).sum = aheadN ws m ws.length := by
  have hm := t.mem (List.mem_of_getElem? h)
  have hs : ms.Pairwise fun x y => decide (keyAt ws x < keyAt ws y) = true := by
    refine t.srt.imp_of_mem fun {x y} hx hy q => ?_
    have hx' := (t.mem hx).1
    have hy' := (t.mem hy).1
    refine decide_eq_true ((key_iff hx' hy').mpr ?_)
    unfold PLt keyP at q
    simp only at q
    omega
  have e := take_filter (lt := fun x y => decide (keyAt ws x < keyAt ws y)) (fun a => by simp) (fun a b z => by simp only [decide_eq_true_eq, decide_eq_false_iff_not] at z ⊢; omega) hs h
  rw [← e]
  have hp := (t.perm.filter fun x => decide (keyAt ws x < keyAt ws m)).map (amtAt ws)
  rw [sum_perm hp]
  unfold kept aheadN
  rw [List.filter_filter, S_filter]
  refine S_congr fun j hj => ⟨?_, fun _ => rfl⟩
  rw [Bool.and_comm]
  exact goes_iff hj hm.1 hm.2
theorem Turn.due (t : Turn ws b p ms) {i m : Nat} (h : ms[i]? = some m) : due ws p m = max 0 (min (amtAt ws m) (deal ws p - ((ms.take i).map (amtAt ws)).sum)) := by
  have hm := t.mem (List.mem_of_getElem? h)
  unfold My.due
  rw [if_pos (Bool.and_eq_true_iff.mp hm.2).2, t.before h]
theorem take_sum {f : Nat → Int} {i m : Nat} (h : ms[i]? = some m) : ((ms.take (i + 1)).map f).sum = ((ms.take i).map f).sum + f m := by
  rw [take_snoc h, List.map_append, List.sum_append]
  simp
end
theorem due_off {ws : List Wish} {p : Int} {k : Nat} (h1 : inB ws true p k = false) (h2 : inB ws false p k = false) : due ws p k = 0 := by
  refine due_worse ?_
  unfold inB at h1 h2
  cases e : (wAt ws k).buy with
  | true => rw [e] at h1; simpa using h1
  | false => rw [e] at h2; simpa using h2
end My

set_option Elab.async false
set_option linter.all false
set_option maxRecDepth 100000
set_option maxHeartbeats 400000
/-! The turns of the two sides. -/
namespace My
open PySem PySem.Spec PyProof.Rows L2
theorem Wishes.at {K : PySem.W.Frag} {H : Hp} {xs : List V} {ws : List Wish} {i : Nat} {x : V} (h : Wishes K H xs ws) (hi : xs[i]? = some x) : i < ws.length ∧ ∃ t, x = .ref t ∧ SqT K H t (wAt ws i).row := by
  have h1 : i < ws.length := by
    rw [← h.length]
    exact (List.getElem?_eq_some_iff.mp hi).1
  obtain ⟨v, hv, t, e, ht⟩ := h.get (wAt_get h1)
  rw [hi] at hv
  cases hv
  exact ⟨h1, t, e, ht⟩
/-! ### buyers_in_turn, sellers_in_turn -/
def natVs (ms : List Nat) : List V := ms.map fun (i : Nat) => V.int (i : Int)
def spTurn (K : PySem.W.Frag) (b : Bool) : Sp := fun vs H Q _ => ∃ (a : Addr) (ws : List Wish) (p : Int), vs = [.ref a, .int p] ∧ WishL K H a ws ∧ Goods ws ∧ ws.length ≤ 1000 ∧
  ∀ l H' ms, Sm H H' → H l = none → H' l = some (.lst (natVs ms)) → Turn ws b p ms → Q (.ref l) H'
theorem evp_turn {K : PySem.W.Frag} {b : Bool} {σ : L2.St} {H : Hp} {ta tb : TE} {E : XK} {a : Addr} {ws : List Wish} {p : Int} (ha : Ev ta σ H (.ref a)) (hb : Ev tb σ H (.int p)) (hW : WishL K H a ws) (hg : Goods ws) (hn : ws.length ≤ 1000) :
    EvP (tCall (spTurn K b) [] E (tCons ta (tCons tb tNil))) σ H fun v H' => ∃ l ms, v = .ref l ∧ H l = none ∧ H' l = some (.lst (natVs ms)) ∧ Turn ws b p ms :=
  evp_call (evl_cons ha (evl_cons hb evl_nil)) fun H1 S Q q => ⟨a, ws, p, rfl, hW.sm S, hg, hn, fun l H' ms S' nl hl h => q _ _ S' ⟨l, ms, rfl, S.free nl, hl, h⟩⟩
theorem in_buy (ws : List Wish) (p : Int) (i : Nat) : (decide (sideS (wAt ws i).buy = (PySem.Str.ofString "buy")) && decide (p ≤ (wAt ws i).lim)) = inB ws true p i := by
  rw [side_buy]
  unfold inB elig
  cases (wAt ws i).buy <;> simp
theorem in_sell (ws : List Wish) (p : Int) (i : Nat) : (decide (sideS (wAt ws i).buy = (PySem.Str.ofString "sell")) && decide ((wAt ws i).lim ≤ p)) = inB ws false p i := by
  rw [side_sell]
  unfold inB elig
  cases (wAt ws i).buy <;> simp
theorem rank_buy {ws : List Wish} {p : Int} {i : Nat} (h : inB ws true p i = true) : -(wAt ws i).lim = (keyP ws i).1 := by
  have e : (wAt ws i).buy = true := of_decide_eq_true (Bool.and_eq_true_iff.mp h).1
  show _ = rankOf (wAt ws i)
  unfold rankOf
  rw [e]
  rfl
theorem rank_sell {ws : List Wish} {p : Int} {i : Nat} (h : inB ws false p i = true) : (wAt ws i).lim = (keyP ws i).1 := by
  have e : (wAt ws i).buy = false := of_decide_eq_true (Bool.and_eq_true_iff.mp h).1
  show _ = rankOf (wAt ws i)
  unfold rankOf
  rw [e]
  rfl
/-- pairs of numbers -/
def PairsAt (H : Hp) (q : Int × Int) (y : V) : Prop := ∃ t, y = .ref t ∧ H t = some (.tup [.int q.1, .int q.2])
theorem paired_mapL {α β γ : Type} {f : α → γ} {R : γ → β → Prop} : ∀ {l : List α} {m : List β}, Paired (fun a b => R (f a) b) l m → Paired R (l.map f) m
  | _, _, .nil => .nil
  | _, _, .cons r t => .cons r (paired_mapL t)
theorem PairsAt.sm {H H' : Hp} (S : Sm H H') : ∀ {qs : List (Int × Int)} {ys : List V}, Paired (PairsAt H) qs ys → Paired (PairsAt H') qs ys
  | _, _, .nil => .nil
  | _, _, .cons ⟨t, e, h⟩ r => .cons ⟨t, e, S.tup h⟩ (PairsAt.sm S r)
theorem paired_get {α β : Type} {R : α → β → Prop} : ∀ {l : List α} {m : List β} {i : Nat} {y : β}, Paired R l m → m[i]? = some y → ∃ x, l[i]? = some x ∧ R x y
  | _, _, _, _, .nil, h => by simp at h
  | _, _, 0, _, .cons r _, h => by
    have e := Option.some.inj h
    subst e
    exact ⟨_, rfl, r⟩
  | _, _, i + 1, y, .cons _ t, h => by
    obtain ⟨x, h1, h2⟩ := paired_get (i := i) (y := y) t (by simpa using h)
    exact ⟨x, by simpa using h1, h2⟩
/-- [number for rank, number in sorted(turns)] -/
theorem evp_seconds {K : PySem.W.Frag} {σ : L2.St} {H : Hp} {a : Addr} {tl : TE} {i j : Nat} {qs : List (Int × Int)} (hl : Ev tl σ H (.ref a)) {xs : List V} (hx : H a = some (.lst xs)) (hp : Paired (PairsAt H) qs xs) (nd : qs.Nodup) (hz : qs.length ≤ 1000)
    (hw : ∀ x y, wipe (((wipe σ [i, j]).set i (some x)).set j (some y)) [i, j] = wipe σ [i, j]) (hv : ∀ x y, (((wipe σ [i, j]).set i (some x)).set j (some y))[j]? = some (some y)) :
    EvP (tLc (iList K (tCB (rSortedPO K) (tCons tl tNil))) (gTup K 2 (gCons (gName i) (gCons (gName j) gNil))) tYes (tVar j) [i, j]) σ H fun u H' => ∃ (D : Addr) (rs : List (Int × Int)), u = .ref D ∧ H D = none ∧ H' D = some (.lst (rs.map fun q => V.int q.2)) ∧ rs.Perm qs ∧ rs.Pairwise PLt := by
  refine (evp_lcL (K := K) (δ := List (Int × Int)) (R := fun rs xs H' => rs.Perm qs ∧ rs.Pairwise PLt ∧ Paired (PairsAt H') rs xs) (pz := fun _ _ => true) (P := fun rs i y _ => y = .int (rs.getD i (0, 0)).2)
    ((evp_sortedP (K := K) (qs := qs) (hl.pp fun H' S => ⟨a, xs, rfl, S.lst hx, PairsAt.sm S hp⟩) nd).to fun v H' S ⟨b, ys, rs, e, hb, h1, h2, h3⟩ => ⟨b, ys, rs, e, .inl (.inl hb), h1, h2, h3⟩)
    (fun d xs H H' S ⟨h1, h2, h3⟩ => ⟨h1, h2, PairsAt.sm S h3⟩) (fun _ _ _ _ _ _ e => e) (fun d xs H' ⟨h1, h2, h3⟩ => ?_) (fun d xs k x H2 ⟨h1, h2, h3⟩ hk S => ?_)).to fun v H' S ⟨D, zs, ys, rs, e, nD, hD, ⟨h1, h2, h3⟩, h4⟩ => ⟨D, rs, e, nD, ?_, h1, h2⟩
  · rw [← Paired.length h3, h1.length_eq]
    omega
  · obtain ⟨q, hq, t, rfl, ht⟩ := paired_get h3 hk
    refine ⟨_, evg_tup (.inl (.inl ht)) rfl (evgs_cons evg_name (evgs_cons evg_name evgs_nil)), hw _ _, evt_yes rfl, fun _ => ((ev_var (hv _ _)).p).to fun v H' S e => ?_⟩
    rw [e, List.getD_eq_getElem?_getD, hq]
    rfl
  · rw [hD, paired_map h4, ← Paired.length h3]
    congr 2
    unfold kept
    rw [List.filter_eq_self.mpr fun _ _ => rfl]
    refine List.ext_getElem? fun k => ?_
    rw [List.getElem?_map, List.getElem?_map]
    by_cases hk : k < rs.length
    · rw [List.getElem?_range hk, List.getElem?_eq_getElem hk]
      show some (V.int (rs.getD k (0, 0)).2) = _
      rw [List.getD_eq_getElem?_getD, List.getElem?_eq_getElem hk]
      rfl
    · rw [List.getElem?_eq_none (by rw [List.length_range]; omega), List.getElem?_eq_none (by omega)]
      rfl
/-! ### dealing out -/
def dues (ws : List Wish) (p : Int) : List Int := (List.range ws.length).map (due ws p)
theorem dues_len {ws : List Wish} {p : Int} : (dues ws p).length = ws.length := by
  unfold dues
  rw [List.length_map, List.length_range]
theorem dues_at {ws : List Wish} {p : Int} {k : Nat} (h : k < ws.length) : (dues ws p).getD k 0 = due ws p k := by
  unfold dues
  rw [List.getD_eq_getElem?_getD, List.getElem?_map, List.getElem?_range h]
  rfl
theorem dues_pcs {ws : List Wish} {p : Int} (hg : Goods ws) : Pcs ws (dues ws p) := ⟨dues_len, fun k hk => by
  rw [dues_at hk]
  exact ⟨due_nn, due_le hg hk⟩⟩
theorem eq_of_getD {xs ys : List Int} (hl : xs.length = ys.length) (h : ∀ k, k < xs.length → xs.getD k 0 = ys.getD k 0) : xs = ys := by
  refine List.ext_getElem? fun k => ?_
  by_cases hk : k < xs.length
  · have := h k hk
    rw [List.getD_eq_getElem?_getD, List.getD_eq_getElem?_getD, List.getElem?_eq_getElem hk, List.getElem?_eq_getElem (by omega)] at this
    rw [List.getElem?_eq_getElem hk, List.getElem?_eq_getElem (by omega)]
    exact congrArg some this
  · rw [List.getElem?_eq_none (by omega), List.getElem?_eq_none (by omega)]
theorem getD_set {xs : List Int} {j k : Nat} {z : Int} (hj : j < xs.length) : (xs.set j z).getD k 0 = if k = j then z else xs.getD k 0 := by
  rw [List.getD_eq_getElem?_getD, List.getD_eq_getElem?_getD]
  by_cases h : k = j
  · subst h
    rw [if_pos rfl, List.getElem?_set_self hj]
    rfl
  · rw [if_neg h, List.getElem?_set_ne (Ne.symm h)]
theorem natVs_get {ms : List Nat} {i : Nat} {x : V} (h : (natVs ms)[i]? = some x) : ∃ m, ms[i]? = some m ∧ x = .int (m : Int) := by
  unfold natVs at h
  rw [List.getElem?_map] at h
  obtain ⟨m, h1, h2⟩ := Option.map_eq_some_iff.mp h
  exact ⟨m, h1, h2.symm⟩
section
variable {σ : L2.St} {H : Hp} {K : PySem.W.Frag} {ta tb te : TE} {D : Ends} {u : TS}
theorem rep0 (n : Nat) : (List.replicate (n : Int).toNat [V.int 0]).flatten = (List.replicate n (0 : Int)).map V.int := by
  rw [Int.toNat_natCast]
  induction n with
  | zero => rfl
  | succ n ih => rw [List.replicate_succ, List.flatten_cons, ih]; rfl
/-- [0] * n -/
theorem evp_rep0 {n : Nat} (hb : Ev tb σ H (.int (n : Int))) (hz : n ≤ 100000) : EvP (tOp rRep (tLst (tCons (tC (.int 0)) tNil)) tb) σ H fun v H' => ∃ l, v = .ref l ∧ H l = none ∧ H' l = some (.lst ((List.replicate n (0 : Int)).map V.int)) := fun H1 S Q q =>
  ⟨by show 1 ≤ sizeLine; decide, fun l nl => hb _ (S.trans (Sm.new nl)) _ fun H3 S3 => ⟨l, (n : Int), [.int 0], rfl, rfl, S3.lst upd_same, by omega, by omega, by
    have h1 : 100000 ≤ sizeLine := by decide
    show 1 * (n : Int).toNat ≤ sizeLine
    omega, fun p np => q _ _ ((Sm.new nl).trans (S3.trans (Sm.new np))) ⟨p, rfl, S.free ((Sm.new nl).free (S3.free np)), by rw [upd_same, rep0]⟩⟩⟩
/-- side, limit, amount = a wish -/
theorem qs_unw {w : Wish} {i j k : Nat} (h : EvP te σ H fun v H' => WishV K H' v w) (kk : ∀ H', Sm H H' → u D (((σ.set i (some (.str w.side))).set j (some (.int w.lim))).set k (some (.int w.amt))) H') :
    tSeq (tAsg te (gTup K 3 (gCons (gName i) (gCons (gName j) (gCons (gName k) gNil))))) u D σ H :=
  h H (Sm.refl _) _ fun v H2 S2 ⟨t, e, ht⟩ => ⟨t, _, e, ht, rfl, _, _, rfl, _, _, rfl, _, _, rfl, rfl, kk H2 S2⟩
/-- for .. in a tuple that is just made -/
theorem q_forTP {g : TG} {tb : TS} {R : List V → Hp → Prop} (h : EvP te σ H fun u H' => ∃ a xs, u = .ref a ∧ H' a = some (.tup xs) ∧ R xs H') (k : ∀ a xs H', Sm H H' → H' a = some (.tup xs) → R xs H' → tFor (iTup K (tC (.ref a))) g tb D σ H') : tFor (iTup K te) g tb D σ H :=
  h H (Sm.refl _) _ fun u H2 S2 ⟨a, xs, e, hx, hR⟩ => by
    obtain ⟨a', e', k'⟩ := k a xs H2 S2 hx hR
    cases e'
    exact ⟨a, e, k'⟩
theorem q_forTup {g : TG} {tb : TS} {a : Addr} {xs : List V} (Pv : Nat → L2.St → Hp → Prop) (hx : SqT K H a xs) (h0 : Pv 0 σ H) (hl : ∀ i σ' H', i ≤ xs.length → Pv i σ' H' → SqT K H' a xs)
    (hs : ∀ i x σ' H', xs[i]? = some x → Pv i σ' H' → ∃ σ2, EvG g x σ' H' σ2 ∧ ∀ H3, Sm H' H3 → tb { D with nx := Pv (i + 1), ct := Pv (i + 1), bk := D.nx } σ2 H3) (hd : ∀ σ' H', Pv xs.length σ' H' → D.nx σ' H') : tFor (iTup K (tC (.ref a))) g tb D σ H :=
  ⟨a, rfl, ⟨xs, hx⟩, for_it walk_tup Pv h0 hl (fun i x σ' H1 H3 hi hP hY => by
    obtain ⟨e4, h1⟩ := hY
    subst e4
    obtain ⟨σ2, eg, k⟩ := hs i x σ' _ h1 hP
    exact eg _ (Sm.refl _) _ k) hd⟩
end
end My

set_option Elab.async false
set_option linter.all false
set_option maxRecDepth 100000
set_option maxHeartbeats 400000
/-! Copies that are handed in; sides' sums; evened pieces; regrets. -/
namespace My
open PySem PySem.Spec PyProof.Rows L2
section
variable {σ : L2.St} {H : Hp} {K : PySem.W.Frag} {ta tb te : TE} {v : V}
theorem ev_callA {sp : Sp} {E : XK} {t : TA} {R : List V → Hp → Prop} (ha : EvA t σ H R) (hr : ∀ vs H1, Sm H H1 → R vs H1 → ∀ Q : VK, (∀ H2, Sm H1 H2 → Q v H2) → sp vs H1 Q E) : Ev (tCall sp [] E t) σ H v := fun H1 S Q q =>
  ha H1 S _ fun us H2 S2 p => by rw [List.append_nil]; exact hr us H2 (S.trans S2) p Q fun H3 S3 => q H3 (S2.trans S3)
/-- the term list(x) -/
abbrev tCopy (K : PySem.W.Frag) (te : TE) : TE := tCB (fun xs H Q => ∃ p ys, xs = [.ref p] ∧ (SqL K H p ys ∨ SqT K H p ys) ∧ ∀ l, H l = none → Q (.ref l) (upd H l (.lst ys))) (tCons te tNil)
theorem evp_copyW {a : Addr} {ws : List Wish} (h : Ev te σ H (.ref a)) (hW : WishL K H a ws) : EvP (tCopy K te) σ H fun v H' => ∃ l, v = .ref l ∧ WishL K H' l ws := by
  obtain ⟨xs, hx, hw⟩ := hW
  exact (evp_listOf h hx).to fun v H' S ⟨l, e, h⟩ => ⟨l, e, xs, .inl (.inl h), hw.sm S⟩
/-- .. new -/
theorem evp_copyN {a : Addr} {xs : List V} (ha : Ev te σ H (.ref a)) (hx : SqL K H a xs) : EvP (tCopy K te) σ H fun u H' => ∃ l, u = .ref l ∧ H l = none ∧ H' l = some (.lst xs) :=
  evp_cb (evl_cons ha evl_nil) fun H1 S Q q => ⟨a, xs, rfl, .inl (S.sql hx), fun l nl => q _ _ (Sm.new nl) ⟨l, rfl, S.free nl, upd_same⟩⟩
theorem evp_copyWN {a : Addr} {ws : List Wish} (h : Ev te σ H (.ref a)) (hW : WishL K H a ws) : EvP (tCopy K te) σ H fun v H' => ∃ l, v = .ref l ∧ H l = none ∧ WishL K H' l ws := by
  obtain ⟨xs, hx, hw⟩ := hW
  exact (evp_copyN h hx).to fun v H' S ⟨l, e, n, h⟩ => ⟨l, e, n, xs, .inl (.inl h), hw.sm S⟩
theorem wl_stab' {ws : List Wish} : Stab fun v H' => ∃ l, v = V.ref l ∧ WishL K H' l ws := fun v H H' S ⟨l, e, h⟩ => ⟨l, e, h.sm S⟩
theorem EvA.to {ta : TA} {P R : List V → Hp → Prop} (h : EvA ta σ H P) (k : ∀ v H', Sm H H' → P v H' → R v H') : EvA ta σ H R := fun H1 S Q q => h H1 S Q fun v H2 S2 p => q v H2 S2 (k v H2 (S.trans S2) p)
theorem lst_stab {xs : List V} : Stab fun v H' => ∃ l, v = V.ref l ∧ H' l = some (.lst xs) := fun v H H' S ⟨l, e, h⟩ => ⟨l, e, S.lst h⟩
/-- (list(wishes), list(xs)) as arguments -/
theorem eva_copies {a b : Addr} {ws : List Wish} {xs : List V} {ta tb : TE} (ha : Ev ta σ H (.ref a)) (hW : WishL K H a ws) (hb : Ev tb σ H (.ref b)) (hx : H b = some (.lst xs)) :
    EvA (tCons (tCopy K ta) (tCons (tCopy K tb) tNil)) σ H fun us H' => ∃ l d, us = [.ref l, .ref d] ∧ WishL K H' l ws ∧ H' d = some (.lst xs) :=
  (eva_consP (evp_copyW ha hW) wl_stab' (eva_consP (evp_listOf hb (.inl (.inl hx))) lst_stab eva_nil)).to fun us H' S h => by
    obtain ⟨v, r, rfl, ⟨l, rfl, h1⟩, v2, r2, rfl, ⟨d, rfl, h2⟩, rfl⟩ := h
    exact ⟨l, d, rfl, h1, h2⟩
/-- .. with a value between -/
theorem eva_copies3 {a b : Addr} {ws : List Wish} {xs : List V} {ta tb tc : TE} {y : V} (ha : Ev ta σ H (.ref a)) (hW : WishL K H a ws) (hc : Ev tc σ H y) (hb : Ev tb σ H (.ref b)) (hx : H b = some (.lst xs)) :
    EvA (tCons (tCopy K ta) (tCons tc (tCons (tCopy K tb) tNil))) σ H fun us H' => ∃ l d, us = [.ref l, y, .ref d] ∧ WishL K H' l ws ∧ H' d = some (.lst xs) :=
  (eva_consP (evp_copyW ha hW) wl_stab' (eva_cons hc (eva_consP (evp_listOf hb (.inl (.inl hx))) lst_stab eva_nil))).to fun us H' S h => by
    obtain ⟨v, r, rfl, ⟨l, rfl, h1⟩, r1, rfl, v2, r2, rfl, ⟨d, rfl, h2⟩, rfl⟩ := h
    exact ⟨l, d, rfl, h1, h2⟩
/-- [list(wishes), list(ns)] -/
theorem evp_handed {a b : Addr} {ws : List Wish} {xs : List V} {ta tb : TE} (ha : Ev ta σ H (.ref a)) (hW : WishL K H a ws) (hb : Ev tb σ H (.ref b)) (hx : H b = some (.lst xs)) :
    EvP (tLst (tCons (tCopy K ta) (tCons (tCopy K tb) tNil))) σ H fun u H' => ∃ h l d, u = .ref h ∧ H' h = some (.lst [.ref l, .ref d]) ∧ WishL K H' l ws ∧ H' d = some (.lst xs) :=
  (evp_lst K (eva_copies ha hW hb hx) (fun vs H' ⟨l, d, e, _⟩ => by rw [e]; show 2 ≤ sizeLine; decide) (fun vs H H' S ⟨l, d, e, h1, h2⟩ => ⟨l, d, e, h1.sm S, S.lst h2⟩)).to fun v H' S ⟨h, vs, e, hh, l, d, e2, h1, h2⟩ => ⟨h, l, d, e, by rw [hh, e2], h1, h2⟩
theorem shaped_wi (ws : List Wish) (ms : List Int) : SeqAt.shaped (.list [.list (ws.map Wish.data), .list (ms.map PyData.int)]) = true := by
  have := depth_wishes ws
  simp [SeqAt.shaped, PyData.canLay0, PyData.canLayAll0, PyData.depth, PyData.depthAll, canLay_wishes, canLay_ints, depth_ints]
  omega
theorem dp_wi {h l d : Addr} {ws : List Wish} {ms : List Int} (hh : SqL K H h [.ref l, .ref d]) (hW : WishL K H l ws) (hd : SqL K H d (ms.map V.int)) : Dp K H (.ref h) (.list [.list (ws.map Wish.data), .list (ms.map PyData.int)]) :=
  .lst hh (.cons hW.dp (.cons (.lst hd (dp_ints ms)) .nil))
/-- handed == [wishes, ns] -/
theorem ev_handed {h l d a b : Addr} {ws : List Wish} {ms : List Int} {ta tb tc : TE} (hh : H h = some (.lst [.ref l, .ref d])) (hl : WishL K H l ws) (hd : H d = some (.lst (ms.map V.int))) (hW : WishL K H a ws) (hb : H b = some (.lst (ms.map V.int)))
    (ec : Ev tc σ H (.ref h)) (ea : Ev ta σ H (.ref a)) (eb : Ev tb σ H (.ref b)) : Ev (tOp (rEqD K) tc (tLst (tCons ta (tCons tb tNil)))) σ H (.bl true) :=
  Ev.to (ev_eqD (d := .list [.list (ws.map Wish.data), .list (ms.map PyData.int)]) (ec.d (dp_wi (.inl (.inl hh)) hl (.inl (.inl hd)))) ((evp_lstV (K := K) (evl_cons ea (evl_cons eb evl_nil)) (by show 2 ≤ sizeLine; decide)).to fun v H' S ⟨d, e, hd⟩ => by
    rw [e]
    exact dp_wi hd (hW.sm S) (.inl (.inl (S.lst hb)))) (shaped_wi ws ms) (shaped_wi ws ms)) (by rw [eqv_self (shaped_wi ws ms)])
/-- handed != [wishes, ns] -/
theorem ev_handedN {h l d a b : Addr} {ws : List Wish} {ms : List Int} {ta tb tc : TE} (hh : H h = some (.lst [.ref l, .ref d])) (hl : WishL K H l ws) (hd : H d = some (.lst (ms.map V.int))) (hW : WishL K H a ws) (hb : H b = some (.lst (ms.map V.int)))
    (ec : Ev tc σ H (.ref h)) (ea : Ev ta σ H (.ref a)) (eb : Ev tb σ H (.ref b)) : Ev (tOp (rNeD K) tc (tLst (tCons ta (tCons tb tNil)))) σ H (.bl false) :=
  Ev.to (ev_neD (d := .list [.list (ws.map Wish.data), .list (ms.map PyData.int)]) (ec.d (dp_wi (.inl (.inl hh)) hl (.inl (.inl hd)))) ((evp_lstV (K := K) (evl_cons ea (evl_cons eb evl_nil)) (by show 2 ≤ sizeLine; decide)).to fun v H' S ⟨d, e, hd⟩ => by
    rw [e]
    exact dp_wi hd (hW.sm S) (.inl (.inl (S.lst hb)))) (shaped_wi ws ms) (shaped_wi ws ms)) (by rw [eqv_self (shaped_wi ws ms)]; rfl)
end
/-! ### the sides' sums -/
def onSide (ws : List Wish) (b : Bool) (j : Nat) : Bool := decide ((wAt ws j).buy = b)
def sideSum (ws : List Wish) (ns : List Int) (b : Bool) (n : Nat) : Int := S (onSide ws b) (fun k => ns.getD k 0) n
theorem sideSum_succ {ws : List Wish} {ns : List Int} {b : Bool} {n : Nat} : sideSum ws ns b (n + 1) = sideSum ws ns b n + (if (wAt ws n).buy = b then ns.getD n 0 else 0) := by
  unfold sideSum
  rw [S_succ]
  unfold onSide
  by_cases h : (wAt ws n).buy = b
  · rw [if_pos h, if_pos (decide_eq_true h)]
  · rw [if_neg h, if_neg (by simpa using h)]
theorem side_test (w : Wish) (b : Bool) : decide (sideS w.buy = sideS b) = decide (w.buy = b) := by cases w.buy <;> cases b <;> decide
theorem sum_kept {ws : List Wish} {ns : List Int} {b : Bool} {n : Nat} : ((kept (onSide ws b) n).map fun k => ns.getD k 0).sum = sideSum ws ns b n := S_filter
theorem sideSum_mono {ws : List Wish} {ns : List Int} {b : Bool} {n : Nat} (h : ∀ k, k < n → 0 ≤ ns.getD k 0) : ∀ i, i ≤ n → 0 ≤ sideSum ws ns b i ∧ sideSum ws ns b i ≤ sideSum ws ns b n := by
  induction n with
  | zero => exact fun i hi => by rw [show i = 0 by omega]; exact ⟨Int.le_refl 0, Int.le_refl 0⟩
  | succ n ih =>
    intro i hi
    have h1 := ih (fun k hk => h k (by omega))
    have h2 := h n (by omega)
    by_cases e : i = n + 1
    · subst e
      have h3 := (h1 n (Nat.le_refl n)).1
      rw [sideSum_succ]
      split <;> omega
    · have h3 := h1 i (by omega)
      rw [sideSum_succ (n := n)]
      split <;> omega
theorem sideSum_app {ws : List Wish} {ns ms : List Int} {b : Bool} : ∀ {n : Nat}, (∀ k, k < n → ns.getD k 0 = ms.getD k 0) → sideSum ws ns b n = sideSum ws ms b n
  | 0, _ => rfl
  | n + 1, h => by rw [sideSum_succ, sideSum_succ, sideSum_app fun k hk => h k (by omega), h n (by omega)]
theorem getD_app_lt {xs ys : List Int} {k : Nat} (h : k < xs.length) : (xs ++ ys).getD k 0 = xs.getD k 0 := by
  rw [List.getD_eq_getElem?_getD, List.getElem?_append_left h, ← List.getD_eq_getElem?_getD]
theorem getD_app_at {xs : List Int} {z : Int} {n : Nat} (h : xs.length = n) : (xs ++ [z]).getD n 0 = z := by
  rw [List.getD_eq_getElem?_getD, List.getElem?_append_right (by omega), h, Nat.sub_self]
  rfl
theorem sideSum_snoc {ws : List Wish} {ms : List Int} {b : Bool} {n : Nat} {z : Int} (h : ms.length = n) : sideSum ws (ms ++ [z]) b (n + 1) = sideSum ws ms b n + (if (wAt ws n).buy = b then z else 0) := by
  rw [sideSum_succ, getD_app_at h, sideSum_app (ms := ms) fun k hk => getD_app_lt (by omega)]
/-- pieces that are even -/
def EvenP (ws : List Wish) (ns : List Int) : Prop := sideSum ws ns true ws.length = sideSum ws ns false ws.length
/-! ### regrets -/
def betAt (w : Wish) (p : Int) : Int := if w.buy = true then w.lim - p else p - w.lim
theorem gain_one (w : Wish) (p : Int) : gainAt w p 1 = betAt w p := by
  unfold gainAt betAt
  split <;> rw [Int.mul_one]
def regrB (w : Wish) (p m : Int) : Bool := (decide (0 < betAt w p) && decide (m < w.amt)) || (decide (betAt w p < 0) && decide (0 < m))
def regrAt (ws : List Wish) (p : Int) (ns : List Int) (k : Nat) : Bool := regrB (wAt ws k) p (ns.getD k 0)
def spPS (K : PySem.W.Frag) : Sp := fun vs H Q _ => ∃ (a b : Addr) (ws : List Wish) (ns : List Int) (c : Bool), vs = [.ref a, .ref b, .str (sideS c)] ∧ WishL K H a ws ∧ SqL K H b (ns.map V.int) ∧ ns.length = ws.length ∧ ws.length ≤ 1000 ∧ ∀ H', Sm H H' → Q (.int (sideSum ws ns c ws.length)) H'
theorem ev_ps {K : PySem.W.Frag} {σ : L2.St} {H : Hp} {ta tb tc : TE} {E : XK} {a b : Addr} {ws : List Wish} {ns : List Int} {c : Bool} {z : Str} (ha : Ev ta σ H (.ref a)) (hb : Ev tb σ H (.ref b)) (hc : Ev tc σ H (.str z)) (hz : z = sideS c) (hW : WishL K H a ws) (hS : SqL K H b (ns.map V.int)) (hl : ns.length = ws.length) (hn : ws.length ≤ 1000) :
    Ev (tCall (spPS K) [] E (tCons ta (tCons tb (tCons tc tNil)))) σ H (.int (sideSum ws ns c ws.length)) :=
  ev_call (evl_cons ha (evl_cons hb (evl_cons hc evl_nil))) fun H1 S Q q => ⟨a, b, ws, ns, c, by rw [hz], hW.sm S, S.sql hS, hl, hn, q⟩
/-! ### rows of pieces that do not go with the wishes -/
def BadRow (K : PySem.W.Frag) (ws : List Wish) (xs : List V) (H : Hp) : Prop := (∀ v ∈ xs, Kn K v H) ∧ (xs.length ≠ ws.length ∨ ∃ k v, k < ws.length ∧ xs[k]? = some v ∧ numV 0 (amtAt ws k) v = false) ∧ xs.length ≤ ws.length + 1
theorem BadRow.sm {K : PySem.W.Frag} {ws : List Wish} {xs : List V} {H H' : Hp} (S : Sm H H') (h : BadRow K ws xs H) : BadRow K ws xs H' := ⟨fun v hv => (h.1 v hv).sm S, h.2⟩
theorem kn_ints {K : PySem.W.Frag} {H : Hp} {ns : List Int} : ∀ v ∈ ns.map V.int, Kn K v H := fun v hv => by
  obtain ⟨n, _, rfl⟩ := List.mem_map.mp hv
  exact kn_int
theorem mem_cutV {xs : List V} {lo hi : Option Int} {v : V} (h : v ∈ cutV xs lo hi) : v ∈ xs := List.mem_of_mem_drop (List.mem_of_mem_take h)
theorem cutV_from1 (xs : List V) (h : 0 < xs.length) : (cutV xs (some 1) none).length = xs.length - 1 := by
  have e := HT.sIx_nat xs.length 0 1
  unfold cutV
  rw [List.length_take, List.length_drop, HT.sIx_none, show (some (1 : Int)) = some ((1 : Nat) : Int) from rfl, e]
  omega
theorem cutV_upto (xs : List V) (j : Nat) (h : j ≤ xs.length) : cutV xs none (some (j : Int)) = xs.take j := by
  have e := HT.sIx_nat xs.length xs.length j
  unfold cutV
  rw [HT.sIx_none, e, List.drop_zero, Nat.sub_zero, Nat.min_eq_left h]
theorem cutV_behind (xs : List V) (j : Nat) (h : j ≤ xs.length) : cutV xs (some (j : Int)) none = xs.drop j := by
  have e := HT.sIx_nat xs.length 0 j
  unfold cutV
  rw [HT.sIx_none, e, Nat.min_eq_left h]
  exact List.take_of_length_le (by rw [List.length_drop]; omega)
theorem badrow_at {K : PySem.W.Frag} {H : Hp} {ws : List Wish} {ns : List Int} {j : Nat} {v : V} (hp : Pcs ws ns) (hj : j < ws.length) (hk : Kn K v H) (hno : numV 0 (amtAt ws j) v = false) : BadRow K ws ((ns.map V.int).take j ++ [v] ++ (ns.map V.int).drop (j + 1)) H := by
  have hbl : (ns.map V.int).length = ws.length := by rw [List.length_map, hp.len]
  refine ⟨fun u hu => ?_, .inr ⟨j, v, hj, ?_, hno⟩, ?_⟩
  · rcases List.mem_append.mp hu with h | h
    · rcases List.mem_append.mp h with h | h
      · exact kn_ints u (List.mem_of_mem_take h)
      · rw [List.mem_singleton.mp h]
        exact hk
    · exact kn_ints u (List.mem_of_mem_drop h)
  · have e1 : ((ns.map V.int).take j).length = j := by rw [List.length_take, hbl]; omega
    rw [List.append_assoc, List.getElem?_append_right (by omega), e1, Nat.sub_self]
    rfl
  · rw [List.length_append, List.length_append, List.length_take, List.length_drop, hbl]
    show min j ws.length + 1 + (ws.length - (j + 1)) ≤ ws.length + 1
    omega
/-- a def of wishes and pieces that refuses what does not go with them: R, what it answers -/
def spRow (K : PySem.W.Frag) (C : Addr) (R : List Wish → List Int → V) : Sp := fun vs H Q E => ∃ (a b : Addr) (ws : List Wish) (xs : List V), vs = [.ref a, .ref b] ∧ WishL K H a ws ∧ Goods ws ∧ ws.length ≤ 1000 ∧ H b = some (.lst xs) ∧
  ((BadRow K ws xs H ∧ ∀ H', Sm H H' → E (.ref C) none H') ∨ ∃ ns, xs = ns.map V.int ∧ Pcs ws ns ∧ ∀ H', Sm H H' → Q (R ws ns) H')
end My

set_option Elab.async false
set_option linter.all false
set_option maxRecDepth 100000
set_option maxHeartbeats 400000
/-! The price by an old one; at a price that clears nobody regrets. -/
namespace My
/-- the price that clears, nearest to the old one -/
def Near (ws : List Wish) (o p : Int) : Prop := ∃ lo hi, IsLow ws lo ∧ IsHigh ws hi ∧ p = (if (if hi < o then hi else o) > lo then (if hi < o then hi else o) else lo)
theorem near_all {ws : List Wish} {o p : Int} (hg : Goods ws) (h0 : 0 ≤ o) (h1 : o ≤ 1000000000) (h : Near ws o p) : (0 ≤ p ∧ p ≤ 1000000000) ∧ clearsB ws p = true ∧ (p < o → clearsB ws (p + 1) = false) ∧ (o < p → clearsB ws (p - 1) = false) ∧ (clearsB ws o = true → p = o) ∧
    ∀ z, 0 ≤ z → z ≤ 1000000000 → clearsB ws z = true → (if p - o < 0 then -(p - o) else p - o) ≤ (if z - o < 0 then -(z - o) else z - o) := by
  obtain ⟨lo, hi, hlo, hhi, e⟩ := h
  have hle := low_le_high hg hlo hhi
  have l0 := hlo.p0
  have l1 := hhi.p1
  have hp : (p = o ∧ lo ≤ o ∧ o ≤ hi) ∨ (p = hi ∧ hi < o) ∨ (p = lo ∧ o < lo) := by
    by_cases a : hi < o
    · rw [if_pos a] at e
      by_cases b : hi > lo
      · rw [if_pos b] at e
        exact .inr (.inl ⟨e, a⟩)
      · rw [if_neg b] at e
        exact .inr (.inl ⟨by omega, a⟩)
    · rw [if_neg a] at e
      by_cases b : o > lo
      · rw [if_pos b] at e
        exact .inl ⟨e, by omega, by omega⟩
      · rw [if_neg b] at e
        by_cases c : o < lo
        · exact .inr (.inr ⟨e, c⟩)
        · exact .inl ⟨by omega, by omega, by omega⟩
  have cl : ∀ z, 0 ≤ z → z ≤ 1000000000 → clearsB ws z = decide (lo ≤ z ∧ z ≤ hi) := fun z a b => clears_between hg hlo hhi a b
  refine ⟨by omega, ?_, fun a => ?_, fun a => ?_, fun a => ?_, fun z z0 z1 a => ?_⟩
  · rw [cl p (by omega) (by omega)]
    exact decide_eq_true (by omega)
  · rw [cl _ (by omega) (by omega)]
    exact decide_eq_false (by omega)
  · rw [cl _ (by omega) (by omega)]
    exact decide_eq_false (by omega)
  · rw [cl _ h0 h1] at a
    have := of_decide_eq_true a
    omega
  · rw [cl _ z0 z1] at a
    have := of_decide_eq_true a
    split <;> split <;> omega
/-! ### _law_refused -/

theorem better_iff {w : Wish} {p : Int} : better p w = true ↔ 0 < betAt w p := by
  unfold better betAt
  cases w.buy with
  | true => simp only [if_true, decide_eq_true_eq]; omega
  | false => simp only [Bool.false_eq_true, if_false, decide_eq_true_eq]; omega
theorem elig_iff {w : Wish} {p : Int} : elig p w = false ↔ betAt w p < 0 := by
  unfold elig betAt
  cases w.buy with
  | true => simp only [if_true, decide_eq_false_iff_not]; omega
  | false => simp only [Bool.false_eq_true, if_false, decide_eq_false_iff_not]; omega
/-- whoever has a better limit has all, whoever has a worse one nought -/
structure Content (w : Wish) (p m : Int) : Prop where
  m0 : 0 ≤ m
  m1 : m ≤ w.amt
  all : 0 < betAt w p → m = w.amt
  none : betAt w p < 0 → m = 0
theorem due_content {ws : List Wish} {p : Int} {k : Nat} (hg : Goods ws) (hc : clearsB ws p = true) (hk : k < ws.length) : Content (wAt ws k) p (due ws p k) :=
  ⟨due_nn, due_le hg hk, fun h => due_better hg hc hk (better_iff.mpr h), fun h => due_worse (elig_iff.mpr h)⟩
theorem Content.regr {w : Wish} {p m : Int} (h : Content w p m) : regrB w p m = false := by
  unfold regrB
  by_cases h1 : 0 < betAt w p
  · rw [h.all h1, decide_eq_false (show ¬ betAt w p < 0 by omega), decide_eq_false (show ¬ w.amt < w.amt by omega)]
    simp
  · by_cases h2 : betAt w p < 0
    · rw [h.none h2, decide_eq_false h1]
      simp
    · rw [decide_eq_false h1, decide_eq_false h2]
      rfl
theorem no_regrets {ws : List Wish} {p : Int} (hg : Goods ws) (hc : clearsB ws p = true) : kept (regrAt ws p (dues ws p)) ws.length = [] := by
  unfold kept
  rw [List.filter_eq_nil_iff]
  intro k hk
  have hk' := List.mem_range.mp hk
  unfold regrAt
  rw [dues_at hk', (due_content hg hc hk').regr]
  exact Bool.false_ne_true
theorem gain_bet (w : Wish) (p m : Int) : gainAt w p m = betAt w p * m := by
  unfold gainAt betAt
  split <;> rfl
theorem Content.best {w : Wish} {p m : Int} (h : Content w p m) (hw : w.Good) : gainAt w p w.amt ≤ betAt w p * m ∧ gainAt w p 0 ≤ betAt w p * m := by
  have a0 := hw.a0
  rw [gain_bet, gain_bet, Int.mul_zero]
  by_cases h1 : 0 < betAt w p
  · rw [h.all h1]
    exact ⟨Int.le_refl _, Int.mul_nonneg (by omega) (by omega)⟩
  · by_cases h2 : betAt w p < 0
    · rw [h.none h2, Int.mul_zero]
      exact ⟨Int.mul_nonpos_of_nonpos_of_nonneg (by omega) (by omega), Int.le_refl _⟩
    · rw [show betAt w p = 0 by omega, Int.zero_mul, Int.zero_mul]
      exact ⟨Int.le_refl _, Int.le_refl _⟩
theorem sideSum_dues {ws : List Wish} {p : Int} (hg : Goods ws) (b : Bool) : sideSum ws (dues ws p) b ws.length = deal ws p := by
  rw [← dealt_side hg b p]
  exact S_congr fun j hj => ⟨rfl, fun _ => dues_at hj⟩
end My

set_option Elab.async false
set_option linter.all false
set_option maxRecDepth 100000
set_option maxHeartbeats 400000
/-! Buyers and sellers paired by rising numbers. -/
namespace My
abbrev Deal := Nat × Nat × Int
/-- those of a side that have pieces -/
def onB (ws : List Wish) (ns : List Int) (b : Bool) (k : Nat) : Bool := decide ((wAt ws k).buy = b) && decide (0 < ns.getD k 0)
def dl (ws : List Wish) (ns : List Int) (b : Bool) : List Nat := kept (onB ws ns b) ws.length
theorem dl_mem {ws : List Wish} {ns : List Int} {b : Bool} {k : Nat} (h : k ∈ dl ws ns b) : k < ws.length ∧ (wAt ws k).buy = b ∧ 0 < ns.getD k 0 := by
  have h1 := kept_lt h
  have h2 := Bool.and_eq_true_iff.mp h1.2
  exact ⟨h1.1, of_decide_eq_true h2.1, of_decide_eq_true h2.2⟩
theorem dl_has {ws : List Wish} {ns : List Int} {b : Bool} {k : Nat} (h1 : k < ws.length) (h2 : (wAt ws k).buy = b) (h3 : 0 < ns.getD k 0) : k ∈ dl ws ns b :=
  List.mem_filter.mpr ⟨List.mem_range.mpr h1, Bool.and_eq_true_iff.mpr ⟨decide_eq_true h2, decide_eq_true h3⟩⟩
theorem dl_lt {ws : List Wish} {ns : List Int} {b : Bool} : (dl ws ns b).Pairwise (· < ·) := List.pairwise_lt_range.filter _
theorem dl_ix {ws : List Wish} {ns : List Int} {b : Bool} {i j x y : Nat} (h1 : (dl ws ns b)[i]? = some x) (h2 : (dl ws ns b)[j]? = some y) (h : i < j) : x < y := by
  obtain ⟨a1, b1⟩ := List.getElem?_eq_some_iff.mp h1
  obtain ⟨a2, b2⟩ := List.getElem?_eq_some_iff.mp h2
  have := List.pairwise_iff_getElem.mp (dl_lt (ws := ws) (ns := ns) (b := b)) i j a1 a2 h
  omega
theorem dl_ne {ws : List Wish} {ns : List Int} {b : Bool} {i j x y : Nat} (h1 : (dl ws ns b)[i]? = some x) (h2 : (dl ws ns b)[j]? = some y) (h : i ≠ j) : x ≠ y := by
  rcases Nat.lt_or_gt_of_ne h with z | z
  · exact Nat.ne_of_lt (dl_ix h1 h2 z)
  · exact Nat.ne_of_gt (dl_ix h2 h1 z)
theorem dl_at {ws : List Wish} {ns : List Int} {b : Bool} {i x : Nat} (h : (dl ws ns b)[i]? = some x) : x < ws.length ∧ (wAt ws x).buy = b ∧ 0 < ns.getD x 0 := dl_mem (List.mem_of_getElem? h)
theorem dl_find {ws : List Wish} {ns : List Int} {b : Bool} {k : Nat} (h : k ∈ dl ws ns b) : ∃ j : Nat, (dl ws ns b)[j]? = some k := List.mem_iff_getElem?.mp h
/-- what the deals tell of a wish -/
def got (ds : List Deal) (k : Nat) : Int := (ds.map fun d => (if d.1 = k then d.2.2 else 0) + (if d.2.1 = k then d.2.2 else 0)).sum
theorem got_snoc {ds : List Deal} {d : Deal} {k : Nat} : got (ds ++ [d]) k = got ds k + ((if d.1 = k then d.2.2 else 0) + (if d.2.1 = k then d.2.2 else 0)) := by
  unfold got
  rw [List.map_append, List.sum_append]
  simp
theorem got_nn {ds : List Deal} (h : ∀ d ∈ ds, 1 ≤ d.2.2) (k : Nat) : 0 ≤ got ds k := by
  induction ds with
  | nil => exact Int.le_refl 0
  | cons d ds ih =>
    have h1 := h d List.mem_cons_self
    have h2 := ih fun e he => h e (List.mem_cons_of_mem _ he)
    unfold got at h2 ⊢
    rw [List.map_cons, List.sum_cons]
    split <;> split <;> omega
/-- a deal of a buyer and a seller that have pieces -/
structure DealOk (ws : List Wish) (ns : List Int) (d : Deal) : Prop where
  b : d.1 < ws.length ∧ (wAt ws d.1).buy = true ∧ 0 < ns.getD d.1 0
  s : d.2.1 < ws.length ∧ (wAt ws d.2.1).buy = false ∧ 0 < ns.getD d.2.1 0
  m : 1 ≤ d.2.2
/-- neither number falls, one of both rises -/
def Rise (d e : Deal) : Prop := d.1 ≤ e.1 ∧ d.2.1 ≤ e.2.1 ∧ (d.1 < e.1 ∨ d.2.1 < e.2.1)
/-- what pairs tells -/
structure Paird (ws : List Wish) (ns : List Int) (ds : List Deal) : Prop where
  ok : ∀ d ∈ ds, DealOk ws ns d
  ris : ds.Pairwise Rise
  sum : ∀ k, k < ws.length → got ds k = ns.getD k 0
/-- along the way -/
structure PInv (ws : List Wish) (ns rs : List Int) (ds : List Deal) (at_ i : Nat) : Prop where
  len : rs.length = ws.length
  nn : ∀ k, k < ws.length → 0 ≤ rs.getD k 0
  acc : ∀ k, k < ws.length → rs.getD k 0 + got ds k = ns.getD k 0
  ev : sideSum ws rs true ws.length = sideSum ws rs false ws.length
  bz : ∀ j b, (dl ws ns true)[j]? = some b → j < i → rs.getD b 0 = 0
  sz : ∀ j s, (dl ws ns false)[j]? = some s → j < at_ → rs.getD s 0 = 0
  sp : ∀ j s, (dl ws ns false)[j]? = some s → at_ ≤ j → 0 < rs.getD s 0
  ok : ∀ d ∈ ds, DealOk ws ns d
  ris : ds.Pairwise Rise
  lastB : ∀ d ∈ ds, ∀ b, (dl ws ns true)[i]? = some b → d.1 ≤ b
  lastS : ∀ d ∈ ds, ∀ s, (dl ws ns false)[at_]? = some s → d.2.1 ≤ s
  strict : ∀ d ∈ ds, ∀ b s, (dl ws ns true)[i]? = some b → (dl ws ns false)[at_]? = some s → 0 < rs.getD b 0 → d.1 < b ∨ d.2.1 < s
theorem sideSum_set {ws : List Wish} {rs : List Int} {b : Bool} {k : Nat} {z : Int} (hk : k < rs.length) : ∀ n, k < n → sideSum ws (rs.set k z) b n = sideSum ws rs b n + (if (wAt ws k).buy = b then z - rs.getD k 0 else 0)
  | 0, h => absurd h (Nat.not_lt_zero k)
  | n + 1, h => by
    rw [sideSum_succ, sideSum_succ, getD_set hk]
    by_cases e : k = n
    · subst e
      rw [if_pos rfl, sideSum_app (ms := rs) fun j hj => by rw [getD_set hk, if_neg (by omega)]]
      split <;> omega
    · rw [if_neg (show ¬ n = k from fun z => e z.symm), sideSum_set hk n (by omega)]
      omega
theorem sideSum_ge {ws : List Wish} {rs : List Int} {b : Bool} {k : Nat} : ∀ n, (∀ j, j < n → 0 ≤ rs.getD j 0) → k < n → (wAt ws k).buy = b → rs.getD k 0 ≤ sideSum ws rs b n
  | 0, _, h, _ => absurd h (Nat.not_lt_zero k)
  | n + 1, nn, h, hb => by
    have hn := nn n (by omega)
    rw [sideSum_succ]
    by_cases e : k = n
    · subst e
      have := (sideSum_mono (ws := ws) (ns := rs) (b := b) (n := k) (fun j hj => nn j (by omega)) k (Nat.le_refl k)).1
      rw [if_pos hb]
      omega
    · have ih := sideSum_ge n (fun j hj => nn j (by omega)) (by omega) hb
      split <;> omega
theorem sideSum_zero {ws : List Wish} {rs : List Int} {b : Bool} : ∀ n, (∀ j, j < n → (wAt ws j).buy = b → rs.getD j 0 = 0) → sideSum ws rs b n = 0
  | 0, _ => rfl
  | n + 1, h => by
    rw [sideSum_succ, sideSum_zero n fun j hj => h j (by omega)]
    split
    · rename_i e
      rw [h n (by omega) e]
      rfl
    · rfl
section
variable {ws : List Wish} {ns rs : List Int} {ds : List Deal} {at_ i : Nat}
theorem PInv.start (hp : Pcs ws ns) (he : EvenP ws ns) : PInv ws ns ns [] 0 0 where
  len := hp.len
  nn := fun k hk => (hp.ok k hk).1
  acc := fun k _ => Int.add_zero _
  ev := he
  bz := fun _ _ _ h => absurd h (Nat.not_lt_zero _)
  sz := fun _ _ _ h => absurd h (Nat.not_lt_zero _)
  sp := fun _ _ h _ => (dl_at h).2.2
  ok := fun _ h => nomatch h
  ris := .nil
  lastB := fun _ h => nomatch h
  lastS := fun _ h => nomatch h
  strict := fun _ h => nomatch h
/-- no pieces of one who has none -/
theorem PInv.off (I : PInv ws ns rs ds at_ i) {k : Nat} (hk : k < ws.length) (h : ¬ 0 < ns.getD k 0) : rs.getD k 0 = 0 := by
  have h1 := I.nn k hk
  have h2 := I.acc k hk
  have h3 := got_nn (fun d hd => (I.ok d hd).m) k
  omega
/-- while a buyer has some left, so has a seller -/
theorem PInv.seller (I : PInv ws ns rs ds at_ i) {b : Nat} (hb : (dl ws ns true)[i]? = some b) (h : 0 < rs.getD b 0) : ∃ s, (dl ws ns false)[at_]? = some s := by
  by_cases hl : at_ < (dl ws ns false).length
  · exact ⟨_, List.getElem?_eq_getElem hl⟩
  · exfalso
    have hb' := dl_at hb
    have z : sideSum ws rs false ws.length = 0 := sideSum_zero _ fun j hj hs => by
      by_cases hn : 0 < ns.getD j 0
      · obtain ⟨m, hm⟩ := dl_find (dl_has hj hs hn)
        have := (List.getElem?_eq_some_iff.mp hm).1
        exact I.sz m j hm (by omega)
      · exact I.off hj hn
    have g := sideSum_ge (ws := ws) (rs := rs) (b := true) ws.length I.nn hb'.1 hb'.2.1
    have := I.ev
    omega
/-- one deal -/
theorem PInv.step (I : PInv ws ns rs ds at_ i) {b s : Nat} (hb : (dl ws ns true)[i]? = some b) (hs : (dl ws ns false)[at_]? = some s) (h : 0 < rs.getD b 0) {m : Int} (hm : m = min (rs.getD b 0) (rs.getD s 0)) :
    1 ≤ m ∧ (rs.set b (rs.getD b 0 - m)).getD s 0 = rs.getD s 0 ∧ PInv ws ns ((rs.set b (rs.getD b 0 - m)).set s (rs.getD s 0 - m)) (ds ++ [(b, s, m)]) (if rs.getD s 0 - m = 0 then at_ + 1 else at_) i ∧ ((rs.set b (rs.getD b 0 - m)).set s (rs.getD s 0 - m)).getD b 0 = rs.getD b 0 - m := by
  have hb' := dl_at hb
  have hs' := dl_at hs
  have hbs : b ≠ s := fun e => by
    have h1 := hb'.2.1
    rw [e, hs'.2.1] at h1
    cases h1
  have sp := I.sp at_ s hs (Nat.le_refl _)
  have m1 : 1 ≤ m := by omega
  have bl : b < rs.length := by rw [I.len]; exact hb'.1
  have sl : s < rs.length := by rw [I.len]; exact hs'.1
  have sl' : s < (rs.set b (rs.getD b 0 - m)).length := by rw [List.length_set]; exact sl
  have at_s : (rs.set b (rs.getD b 0 - m)).getD s 0 = rs.getD s 0 := by rw [getD_set bl, if_neg (Ne.symm hbs)]
  have val : ∀ k, ((rs.set b (rs.getD b 0 - m)).set s (rs.getD s 0 - m)).getD k 0 = if k = s then rs.getD s 0 - m else if k = b then rs.getD b 0 - m else rs.getD k 0 := fun k => by
    rw [getD_set sl', getD_set bl]
  have new : DealOk ws ns (b, s, m) := ⟨hb', hs', m1⟩
  have ind : ∀ d ∈ ds ++ [(b, s, m)], d ∈ ds ∨ d = (b, s, m) := fun d hd => by
    rcases List.mem_append.mp hd with z | z
    · exact .inl z
    · exact .inr (List.mem_singleton.mp z)
  refine ⟨m1, at_s, ⟨?_, ?_, ?_, ?_, ?_, ?_, ?_, ?_, ?_, ?_, ?_, ?_⟩, by rw [val, if_neg hbs, if_pos rfl]⟩
  · rw [List.length_set, List.length_set, I.len]
  · intro k hk
    have := I.nn k hk
    rw [val]
    split
    · omega
    · split <;> omega
  · intro k hk
    have := I.acc k hk
    rw [val, got_snoc]
    dsimp only
    by_cases e1 : k = s
    · subst e1
      rw [if_pos rfl, if_neg hbs, if_pos rfl]
      omega
    · rw [if_neg e1]
      by_cases e2 : k = b
      · subst e2
        rw [if_pos rfl, if_pos rfl, if_neg (fun z => e1 z.symm)]
        omega
      · rw [if_neg e2, if_neg (fun z => e2 z.symm), if_neg (fun z => e1 z.symm)]
        omega
  · have := I.ev
    rw [sideSum_set sl' _ hs'.1, sideSum_set bl _ hb'.1, sideSum_set sl' _ hs'.1, sideSum_set bl _ hb'.1, at_s, hb'.2.1, hs'.2.1]
    simp only [if_true, Bool.false_eq_true, Bool.true_eq_false, if_false]
    omega
  · intro j c hj hji
    have hc := dl_at hj
    have n1 : c ≠ b := dl_ne hj hb (by omega)
    have n2 : c ≠ s := fun e => by
      have := hc.2.1
      rw [e, hs'.2.1] at this
      cases this
    rw [val, if_neg n2, if_neg n1]
    exact I.bz j c hj hji
  · intro j c hj hja
    have hc := dl_at hj
    have n1 : c ≠ b := fun e => by
      have := hc.2.1
      rw [e, hb'.2.1] at this
      cases this
    rw [val]
    by_cases e : j = at_
    · subst e
      have ec : c = s := Option.some.inj (hj.symm.trans hs)
      subst ec
      rw [if_pos rfl]
      by_cases z : rs.getD c 0 - m = 0
      · exact z
      · rw [if_neg z] at hja
        omega
    · have hja' : j < at_ := by
        split at hja <;> omega
      rw [if_neg (dl_ne hj hs e), if_neg n1]
      exact I.sz j c hj hja'
  · intro j c hj hja
    have hc := dl_at hj
    have n1 : c ≠ b := fun e => by
      have := hc.2.1
      rw [e, hb'.2.1] at this
      cases this
    rw [val]
    by_cases e : j = at_
    · subst e
      have ec : c = s := Option.some.inj (hj.symm.trans hs)
      subst ec
      rw [if_pos rfl]
      by_cases z : rs.getD c 0 - m = 0
      · rw [if_pos z] at hja
        omega
      · omega
    · have hja' : at_ ≤ j := by
        split at hja <;> omega
      rw [if_neg (dl_ne hj hs e), if_neg n1]
      exact I.sp j c hj hja'
  · intro d hd
    rcases ind d hd with z | z
    · exact I.ok d z
    · rw [z]
      exact new
  · rw [List.pairwise_append]
    refine ⟨I.ris, List.pairwise_singleton _ _, fun d hd e he => ?_⟩
    rw [List.mem_singleton.mp he]
    exact ⟨I.lastB d hd b hb, I.lastS d hd s hs, I.strict d hd b s hb hs h⟩
  · intro d hd c hc
    have ec : c = b := Option.some.inj (hc.symm.trans hb)
    subst ec
    rcases ind d hd with z | z
    · exact I.lastB d z c hb
    · rw [z]
      exact Nat.le_refl _
  · intro d hd c hc
    have hle : s ≤ c := by
      by_cases z : rs.getD s 0 - m = 0
      · rw [if_pos z] at hc
        exact Nat.le_of_lt (dl_ix hs hc (Nat.lt_succ_self _))
      · rw [if_neg z] at hc
        exact Nat.le_of_eq (Option.some.inj (hs.symm.trans hc))
    rcases ind d hd with z | z
    · exact Nat.le_trans (I.lastS d z s hs) hle
    · rw [z]
      exact hle
  · intro d hd c e hc he hpos
    have ec : c = b := Option.some.inj (hc.symm.trans hb)
    subst ec
    rw [val, if_neg hbs, if_pos rfl] at hpos
    have z : rs.getD s 0 - m = 0 := by omega
    rw [if_pos z] at he
    have hlt := dl_ix hs he (Nat.lt_succ_self _)
    rcases ind d hd with y | y
    · have := I.lastS d y s hs
      exact .inr (by omega)
    · rw [y]
      exact .inr hlt
/-- the next buyer -/
theorem PInv.next (I : PInv ws ns rs ds at_ i) {b : Nat} (hb : (dl ws ns true)[i]? = some b) (h : rs.getD b 0 = 0) : PInv ws ns rs ds at_ (i + 1) where
  len := I.len
  nn := I.nn
  acc := I.acc
  ev := I.ev
  bz := fun j c hj hji => by
    by_cases e : j = i
    · subst e
      rw [← Option.some.inj (hb.symm.trans hj)]
      exact h
    · exact I.bz j c hj (by omega)
  sz := I.sz
  sp := I.sp
  ok := I.ok
  ris := I.ris
  lastB := fun d hd c hc => Nat.le_of_lt (Nat.lt_of_le_of_lt (I.lastB d hd b hb) (dl_ix hb hc (Nat.lt_succ_self _)))
  lastS := I.lastS
  strict := fun d hd c s hc _ _ => .inl (Nat.lt_of_le_of_lt (I.lastB d hd b hb) (dl_ix hb hc (Nat.lt_succ_self _)))
theorem PInv.fin (I : PInv ws ns rs ds at_ (dl ws ns true).length) : Paird ws ns ds := by
  have zb : ∀ k, k < ws.length → (wAt ws k).buy = true → rs.getD k 0 = 0 := fun k hk hb => by
    by_cases hn : 0 < ns.getD k 0
    · obtain ⟨m, hm⟩ := dl_find (dl_has hk hb hn)
      exact I.bz m k hm (List.getElem?_eq_some_iff.mp hm).1
    · exact I.off hk hn
  have z : sideSum ws rs true ws.length = 0 := sideSum_zero _ zb
  have z2 := I.ev
  refine ⟨I.ok, I.ris, fun k hk => ?_⟩
  have h1 := I.acc k hk
  have h2 := I.nn k hk
  have h3 : rs.getD k 0 = 0 := by
    cases hb : (wAt ws k).buy with
    | true => exact zb k hk hb
    | false =>
      have := sideSum_ge (ws := ws) (rs := rs) (b := false) ws.length I.nn hk hb
      omega
  omega
end
theorem rising_len : ∀ {l : List Nat} {lo N : Nat}, l.Pairwise (· < ·) → (∀ x ∈ l, lo ≤ x ∧ x < N) → l.length ≤ N - lo
  | [], _, _, _, _ => Nat.zero_le _
  | x :: l, lo, N, hp, h => by
    rw [List.pairwise_cons] at hp
    have hx := h x List.mem_cons_self
    have ih := rising_len (lo := x + 1) (N := N) hp.2 fun y hy => ⟨hp.1 y hy, (h y (List.mem_cons_of_mem _ hy)).2⟩
    rw [List.length_cons]
    omega
theorem deals_len {ws : List Wish} {ns : List Int} {ds : List Deal} (ok : ∀ d ∈ ds, DealOk ws ns d) (ris : ds.Pairwise Rise) : ds.length ≤ 2 * ws.length := by
  have h := rising_len (l := ds.map fun d => d.1 + d.2.1) (lo := 0) (N := 2 * ws.length) ?_ ?_
  · rw [List.length_map] at h
    exact h
  · rw [List.pairwise_map]
    exact ris.imp fun {a b} z => by
      have := z.1
      have := z.2.1
      rcases z.2.2 with z | z <;> omega
  · intro x hx
    obtain ⟨d, hd, rfl⟩ := List.mem_map.mp hx
    have h1 := (ok d hd).b.1
    have h2 := (ok d hd).s.1
    exact ⟨Nat.zero_le _, by omega⟩
end My

set_option Elab.async false
set_option linter.all false
set_option maxRecDepth 100000
set_option maxHeartbeats 400000
/-! What pairs asks and gives. -/
namespace My
open PySem PySem.Spec PyProof.Rows L2
/-- a tuple that tells a deal -/
def DealAt (H : Hp) (d : Deal) (y : V) : Prop := ∃ t, y = .ref t ∧ H t = some (.tup [.int (d.1 : Int), .int (d.2.1 : Int), .int d.2.2])
theorem DealAt.tq {K : PySem.W.Frag} {H H' : Hp} (S : Tq K H H') : ∀ {ds : List Deal} {ys : List V}, Paired (DealAt H) ds ys → Paired (DealAt H') ds ys
  | _, _, .nil => .nil
  | _, _, .cons ⟨t, e, h⟩ r => .cons ⟨t, e, S.tup _ _ h⟩ (DealAt.tq S r)
theorem DealAt.sm {H H' : Hp} (S : Sm H H') : ∀ {ds : List Deal} {ys : List V}, Paired (DealAt H) ds ys → Paired (DealAt H') ds ys
  | _, _, .nil => .nil
  | _, _, .cons ⟨t, e, h⟩ r => .cons ⟨t, e, S.tup h⟩ (DealAt.sm S r)
section
variable {σ : L2.St} {H : Hp} {K : PySem.W.Frag} {ta tb tc te : TE} {D : Ends} {u t : TS}
def spDl (K : PySem.W.Frag) : Sp := fun vs H Q _ => ∃ (a b : Addr) (ws : List Wish) (ns : List Int) (c : Bool), vs = [.ref a, .ref b, .str (sideS c)] ∧ WishL K H a ws ∧ SqL K H b (ns.map V.int) ∧ ns.length = ws.length ∧ ws.length ≤ 1000 ∧
  ∀ l H', Sm H H' → H l = none → H' l = some (.lst (natVs (dl ws ns c))) → Q (.ref l) H'
theorem evp_dl {E : XK} {a b : Addr} {ws : List Wish} {ns : List Int} {c : Bool} {z : Str} (ha : Ev ta σ H (.ref a)) (hb : Ev tb σ H (.ref b)) (hc : Ev tc σ H (.str z)) (hz : z = sideS c) (hW : WishL K H a ws) (hS : SqL K H b (ns.map V.int)) (hl : ns.length = ws.length) (hn : ws.length ≤ 1000) :
    EvP (tCall (spDl K) [] E (tCons ta (tCons tb (tCons tc tNil)))) σ H fun v H' => ∃ l, v = .ref l ∧ H l = none ∧ H' l = some (.lst (natVs (dl ws ns c))) :=
  evp_call (evl_cons ha (evl_cons hb (evl_cons hc evl_nil))) fun H1 S Q q => ⟨a, b, ws, ns, c, by rw [hz], hW.sm S, S.sql hS, hl, hn, fun l H' S' nl hl => q _ _ S' ⟨l, rfl, S.free nl, hl⟩⟩
def spPairs (K : PySem.W.Frag) (C1 C2 : Addr) : Sp := fun vs H Q E => ∃ (a b : Addr) (ws : List Wish) (xs : List V), vs = [.ref a, .ref b] ∧ WishL K H a ws ∧ Goods ws ∧ ws.length ≤ 1000 ∧ H b = some (.lst xs) ∧
  ((BadRow K ws xs H ∧ ∀ H', Sm H H' → E (.ref C1) none H') ∨ ∃ ns, xs = ns.map V.int ∧ Pcs ws ns ∧ ((¬ EvenP ws ns ∧ ∀ H', Sm H H' → E (.ref C2) none H') ∨ (EvenP ws ns ∧ ∀ l H' ds ys, Sm H H' → H l = none → H' l = some (.lst ys) → Paired (DealAt H') ds ys → Paird ws ns ds → Q (.ref l) H')))
/-- if not f(..): suite; f may raise -/
theorem qs_ifNotS {sp : Sp} {E : L2.St → XK} {tr : TA} {vs : List V} (ha : EvL tr σ H vs) (h : ∀ H1, Sm H H1 → sp vs H1 (fun v H2 => ∃ b, v = .bl b ∧ (b = false → t { D with nx := u D } σ H2) ∧ (b = true → u D σ H2)) (E σ)) : tSeq (tIfS (tNot (tB (tCallS sp E tr))) t tNext) u D σ H :=
  ha H (Sm.refl _) _ fun us H2 S2 p => by
    subst p
    have q := h H2 S2
    have e : (fun v H2 => ∃ b, v = V.bl b ∧ (b = false → t { D with nx := u D } σ H2) ∧ (b = true → u D σ H2)) = fun (x : V) H1 => ∃ b, x = .bl b ∧ (if (!b) = true then t { D with nx := u D } σ H1 else tNext { D with nx := u D } σ H1) := by
      funext v H2
      refine propext ⟨fun ⟨b, e, h1, h2⟩ => ⟨b, e, ?_⟩, fun ⟨b, e, h⟩ => ⟨b, e, fun z => ?_, fun z => ?_⟩⟩
      · cases b with
        | false => exact h1 rfl
        | true => exact h2 rfl
      · subst z; exact h
      · subst z; exact h
    rw [e] at q
    exact q
end
/-! ### deals, read -/
theorem offs {k b s : Nat} {A B L N g m : Int} (hne : s ≠ b) (h0 : L = N - g) (hA : k = b → A = L) (hB : k = s → B = L) : (if k = s then B - m else if k = b then A - m else L) = N - (g + ((if b = k then m else 0) + (if s = k then m else 0))) := by
  by_cases e1 : k = s
  · have := hB e1
    rw [if_pos e1, if_neg (show ¬ b = k from fun z => hne (by rw [z, e1])), if_pos e1.symm]
    omega
  · rw [if_neg e1, if_neg (show ¬ s = k from fun z => e1 z.symm)]
    by_cases e2 : k = b
    · have := hA e2
      rw [if_pos e2, if_pos e2.symm]
      omega
    · rw [if_neg e2, if_neg (show ¬ b = k from fun z => e2 z.symm)]
      omega
theorem rep_at {n k : Nat} : (List.replicate n (0 : Int)).getD k 0 = 0 := by
  rw [List.getD_eq_getElem?_getD, List.getElem?_replicate]
  split <;> rfl
section
variable {σ : L2.St} {H : Hp} {K : PySem.W.Frag} {ta tb tc te : TE} {D : Ends} {u t : TS}
theorem even_set {ws : List Wish} {ms : List Int} {k : Nat} {z : Int} (hl : ms.length = ws.length) (h : EvenP ws ms) (hk : k < ws.length) (hz : z ≠ ms.getD k 0) : ¬ EvenP ws (ms.set k z) := by
  unfold EvenP at h ⊢
  rw [sideSum_set (by omega) _ hk, sideSum_set (by omega) _ hk]
  cases (wAt ws k).buy with
  | true =>
    simp only [if_true, Bool.true_eq_false, if_false]
    omega
  | false =>
    simp only [if_true, Bool.false_eq_true, if_false]
    omega
/-- two of unlike sides get as much more, or two of a side the one what the other gives -/
theorem even_two {ws : List Wish} {ms : List Int} {k j : Nat} {y z : Int} (hl : ms.length = ws.length) (h : EvenP ws ms) (hk : k < ws.length) (hj : j < ws.length) (hne : j ≠ k)
    (hd : (if (wAt ws k).buy = (wAt ws j).buy then (y - ms.getD k 0) + (z - ms.getD j 0) else (y - ms.getD k 0) - (z - ms.getD j 0)) = 0) : EvenP ws ((ms.set k y).set j z) := by
  have e : (ms.set k y).getD j 0 = ms.getD j 0 := by rw [getD_set (by omega), if_neg hne]
  unfold EvenP at h ⊢
  rw [sideSum_set (by rw [List.length_set]; omega) _ hj, sideSum_set (by omega) _ hk, sideSum_set (by rw [List.length_set]; omega) _ hj, sideSum_set (by omega) _ hk, e]
  cases hb : (wAt ws k).buy <;> cases hc : (wAt ws j).buy <;> rw [hb, hc] at hd <;> simp only [if_true, Bool.true_eq_false, Bool.false_eq_true, if_false] at hd ⊢ <;> omega
theorem pcs_set {ws : List Wish} {ms : List Int} {k : Nat} {z : Int} (h : Pcs ws ms) (hk : k < ws.length) (h0 : 0 ≤ z) (h1 : z ≤ amtAt ws k) : Pcs ws (ms.set k z) :=
  ⟨by rw [List.length_set, h.len], fun j hj => by
    rw [getD_set (by rw [h.len]; exact hk)]
    split
    · rename_i e
      rw [e]
      exact ⟨h0, h1⟩
    · exact h.ok j hj⟩
/-- t[:2] -/
theorem evp_cut2 {a : Addr} {x y z : V} (ha : Ev ta σ H (.ref a)) (hS : SqT K H a [x, y, z]) : EvP (tSl (rSlT K) ta tNoPart (tPart (tC (.int 2)))) σ H fun v H' => ∃ b, v = .ref b ∧ SqT K H' b [x, y] := fun H1 S Q q =>
  ha H1 S _ fun H2 S2 => ⟨2, rfl, a, [x, y, z], rfl, (S.trans S2).sqt hS, (by show ¬ (HT.sIx 3 0 none = 0 ∧ HT.sIx 3 3 (some 2) = 3); decide), fun p np => q _ _ (S2.trans (Sm.new np)) ⟨p, rfl, .inl (.inl (by rw [upd_same]; rfl))⟩⟩
theorem shaped_two (i j : Int) : SeqAt.shaped (.tuple [.int i, .int j]) = true := shaped_intsT [i, j]
theorem eqv_two {i j k l : Int} (h : i ≠ k ∨ j ≠ l) : PyData.eqv (.tuple [.int i, .int j]) (.tuple [.int k, .int l]) = false := by
  simp only [PyData.eqv, PyData.eqvAll, Bool.and_true]
  rcases h with h | h <;> simp [h]
/-- for .. in a tuple in hand -/
theorem q_forTE {g : TG} {tb : TS} {a : Addr} {xs : List V} (Pv : Nat → L2.St → Hp → Prop) (h : Ev te σ H (.ref a)) (hx : SqT K H a xs) (h0 : ∀ H', Sm H H' → Pv 0 σ H') (hl : ∀ i σ' H', i ≤ xs.length → Pv i σ' H' → SqT K H' a xs)
    (hs : ∀ i x σ' H', xs[i]? = some x → Pv i σ' H' → ∃ σ2, EvG g x σ' H' σ2 ∧ ∀ H3, Sm H' H3 → tb { D with nx := Pv (i + 1), ct := Pv (i + 1), bk := D.nx } σ2 H3) (hd : ∀ σ' H', Pv xs.length σ' H' → D.nx σ' H') : tFor (iTup K te) g tb D σ H :=
  h H (Sm.refl _) _ fun H2 S2 => ⟨a, rfl, ⟨xs, S2.sqt hx⟩, for_it walk_tup Pv (h0 H2 S2) hl (fun i x σ' H1 H3 hi hP hY => by
    obtain ⟨e4, h1⟩ := hY
    subst e4
    obtain ⟨σ2, eg, k⟩ := hs i x σ' _ h1 hP
    exact eg _ (Sm.refl _) _ k) hd⟩
theorem deal_get {ds : List Deal} {ys : List V} {i : Nat} (h : Paired (DealAt H) ds ys) (hi : i < ds.length) : ∃ d t, ds[i]? = some d ∧ ys[i]? = some (.ref t) ∧ H t = some (.tup [.int (d.1 : Int), .int (d.2.1 : Int), .int d.2.2]) := by
  have hl := Paired.length h
  have hy : i < ys.length := by omega
  obtain ⟨d, h1, t, e, ht⟩ := paired_get h (List.getElem?_eq_getElem hy)
  exact ⟨d, t, h1, by rw [List.getElem?_eq_getElem hy, e], ht⟩
theorem rise_at {ds : List Deal} {i : Nat} {d e : Deal} (h : ds.Pairwise Rise) (h1 : ds[i]? = some d) (h2 : ds[i + 1]? = some e) : Rise d e := by
  obtain ⟨a1, b1⟩ := List.getElem?_eq_some_iff.mp h1
  obtain ⟨a2, b2⟩ := List.getElem?_eq_some_iff.mp h2
  have := List.pairwise_iff_getElem.mp h i (i + 1) a1 a2 (Nat.lt_succ_self i)
  rw [b1, b2] at this
  exact this
theorem got_take {ds : List Deal} {i : Nat} {d : Deal} {k : Nat} (h : ds[i]? = some d) : got (ds.take (i + 1)) k = got (ds.take i) k + ((if d.1 = k then d.2.2 else 0) + (if d.2.1 = k then d.2.2 else 0)) := by
  rw [take_snoc h, got_snoc]
/-- an if that stores one name anew, at a block's end -/
theorem q_ifsetP {c : TT} {b : Bool} {i : Nat} {old : V} {P : V → Hp → Prop} (h : EvT c σ H b) (ho : σ[i]? = some (some old)) (hv : b = true → EvP te σ H P) (hn : b = false → ∀ H', Sm H H' → P old H') (k : ∀ v H', Sm H H' → P v H' → D.nx (σ.set i (some v)) H') :
    tIfS c (tAsg te (gName i)) tNext D σ H := qs_ifsetP (u := tNext) h ho hv hn k
/-- two numbers of a list of our own are stored anew -/
theorem q_put2 {H0 : Hp} {to1 ti1 te1 to2 ti2 te2 : TE} {f : Addr} {ns : List Int} {k j : Nat} {y z : Int} (S : Sm H0 H) (nf : H0 f = none) (hf : H f = some (.lst (ns.map V.int))) (hk : k < ns.length) (hj : j < ns.length)
    (e1 : Ev te1 σ H (.int y)) (o1 : Ev to1 σ H (.ref f)) (i1 : Ev ti1 σ H (.int (k : Int)))
    (e2 : ∀ H', Sm H0 H' → H' f = some (.lst ((ns.set k y).map V.int)) → Ev te2 σ H' (.int z)) (o2 : ∀ H', Ev to2 σ H' (.ref f)) (i2 : ∀ H', Sm H0 H' → Ev ti2 σ H' (.int (j : Int)))
    (q : ∀ H', Sm H0 H' → H' f = some (.lst (((ns.set k y).set j z).map V.int)) → D.nx σ H') : tSeq (tAsg te1 (gSub to1 ti1 rSetL)) (tAsg te2 (gSub to2 ti2 rSetL)) D σ H := by
  refine q_seq (q_put (P := fun v _ => v = .int y) e1.p o1 i1 hf (by rw [List.length_map]; exact ixN_nat hk) fun v H5 H6 S5 ey S6 hf6 => ?_)
  subst ey
  rw [show (ns.map V.int).set k (.int y) = (ns.set k y).map V.int from (List.map_set ..).symm]
  have S06 := (S.trans (S5.trans S6)).mut (o := .lst ((ns.set k y).map V.int)) nf
  have hf6' : upd H6 f (.lst ((ns.set k y).map V.int)) f = some (.lst ((ns.set k y).map V.int)) := upd_same
  generalize upd H6 f (.lst ((ns.set k y).map V.int)) = H7 at S06 hf6'
  have hj2 : j < (ns.set k y).length := by rw [List.length_set]; exact hj
  dsimp only
  refine q_put (P := fun v _ => v = .int z) (e2 H7 S06 hf6').p (o2 H7) (i2 H7 S06) hf6' (by rw [List.length_map]; exact ixN_nat hj2) fun v H8 H9 S8 ey S9 hf9 => ?_
  subst ey
  rw [show ((ns.set k y).map V.int).set j (.int z) = ((ns.set k y).set j z).map V.int from (List.map_set ..).symm]
  exact q _ ((S06.trans (S8.trans S9)).mut nf) upd_same
/-- list(t), t a tuple -/
theorem evp_listOfT {a : Addr} {xs : List V} (ha : Ev te σ H (.ref a)) (hx : SqT K H a xs) : EvP (tCopy K te) σ H fun u H' => ∃ l, u = .ref l ∧ H' l = some (.lst xs) :=
  evp_cb (evl_cons ha evl_nil) fun H1 S Q q => ⟨a, xs, rfl, .inr (S.sqt hx), fun l nl => q _ _ (Sm.new nl) ⟨l, rfl, upd_same⟩⟩
/-- an if whose suite stores one name anew, of which P holds either way; then the rest -/
theorem qs_ifP {c : TT} {b : Bool} {i : Nat} {old : V} {P : V → Hp → Prop} (h : EvT c σ H b) (ho : σ[i]? = some (some old)) (h1 : b = true → ∀ H', Sm H H' → ∀ D' : Ends, (∀ v H2, Sm H' H2 → P v H2 → D'.nx (σ.set i (some v)) H2) → t D' σ H') (h2 : b = false → ∀ H', Sm H H' → P old H')
    (k : ∀ v H', Sm H H' → P v H' → u D (σ.set i (some v)) H') : tSeq (tIfS c t tNext) u D σ H :=
  qs_if h (fun e H' S => h1 e H' S { D with nx := u D } fun v H2 S2 p => k v H2 (S.trans S2) p) fun e H' S => by
    have q := k old H' S (h2 e H' S)
    have es : σ.set i (some old) = σ := by
      refine List.ext_getElem? fun j => ?_
      by_cases hj : j = i
      · subst hj
        rw [List.getElem?_set_self (List.getElem?_eq_some_iff.mp ho).1, ho]
      · rw [List.getElem?_set_ne (Ne.symm hj)]
    rw [es] at q
    exact q
/-- an if whose suite stores some names anew; R holds of the slots and the heap either way; then the rest -/
theorem qs_ifQ {c : TT} {b : Bool} (R : L2.St → Hp → Prop) (h : EvT c σ H b) (h1 : b = true → ∀ H', Sm H H' → ∀ D' : Ends, (∀ σ2 H2, R σ2 H2 → D'.nx σ2 H2) → D'.rt = D.rt → t D' σ H') (h2 : b = false → ∀ H', Sm H H' → R σ H')
    (k : ∀ σ2 H2, R σ2 H2 → u D σ2 H2) : tSeq (tIfS c t tNext) u D σ H :=
  qs_if h (fun e H' S => h1 e H' S { D with nx := u D } k rfl) fun e H' S => k σ H' (h2 e H' S)
end
end My

set_option Elab.async false
set_option linter.all false
set_option maxRecDepth 100000
set_option maxHeartbeats 400000
/-! A class with methods that may raise: rules; a book. -/
namespace My
open PySem PySem.Spec PyProof.Rows L2
/-! ### a method, a class as the top has left them -/
structure DnM (K : PySem.W.Frag) (C : Addr) (x q : Str) (st : Stmt) (ps : List Str) (f : Addr) (fd : FuncData) : Prop where
  F : Fun K x q st f fd
  b : Binds K fd ps []
  m : Meth K C x f
structure DnI (K : PySem.W.Frag) (C : Addr) (x q : Str) (st : Stmt) (ps : List Str) (f : Addr) (fd : FuncData) : Prop where
  F : Fun K x q st f fd
  b : Binds K fd ps []
  m : Mk K C f
/-! ### calls -/
theorem passN0 {X : Cx} (E : L2.St → XK) (σ : L2.St) : PassesAt CX0 X σ (E σ) := fun _ _ _ _ _ _ h => h.elim
theorem passNL {X : Cx} (σ : L2.St) : PassesAt (L2.CX X.prog X.w) X σ E0 := fun _ _ _ _ _ _ h => by
  obtain ⟨_, _, _, _, _, _, _, _, _, _, _, _, z⟩ := h
  exact z.elim
theorem passNN {X : Cx} (σ : L2.St) : PassesAt (L2N.CX X.prog X.w) X σ E0 := fun _ _ _ _ _ _ h => by
  obtain ⟨_, _, _, _, _, _, _, _, _, _, _, _, z⟩ := h
  exact z.elim
theorem takesN0 {X : Cx} : L2N.Takes X (fun _ _ _ _ => False) := fun _ _ x => by
  obtain ⟨_, _, _, _, _, _, _, _, _, _, _, _, _, _, _, _, z⟩ := x
  exact z.elim
section
variable {X : Cx} {CX : CXT} {k : Nat} {f C : Addr} {fd : FuncData} {ps : List Str} {sp : Sp} {E : L2.St → XK} {x m : Str} {p pos apos : Pos} {e o : Expr} {es : List Expr} {ta : TE} {t : TA}
/-- o.m(e, ..) -/
theorem pe_methS {pl : Sem Bool} (he : PE X o ta) (c : Cls X.K C) (hm : Meth X.K C m f) (F : FnOk X.prog X.w X.K X.mg X.base CX k f fd ps sp) (hr : Room k X.A) (hb : Binds X.K fd ps []) (hx : ∀ σ, PassesAt CX X σ (E σ)) (ha : PA X (e :: es) t)
    (hst : starEach (e :: es) X.env = (false, eval e X.env) :: starEach es X.env := by rfl) (hpl : (backTo pos (starEach es X.env)).any (·.1) = false := by rfl)
    (ht : eval (.Call (.Attribute o m apos) (e :: es) [] pos) X.env = (do
      let ov ← eval o X.env
      standAt apos.atName
      let (f, first) ← holding [ov] (getMethod ov m pl)
      callWith pos f first (backTo pos (starEach (e :: es) X.env)) (backToKw pos (keywordEach [] X.env))) := by rfl) :
    PE X (.Call (.Attribute o m apos) (e :: es) [] pos) (L2H.tMethH C m sp E ta t) := by
  refine ⟨fun pins s σ H Q I h => ?_⟩
  refine PySem.W.methodCall_KW (pl := pl) (thn (he.run pins s σ H _ I h) fun u s1 ⟨x, H1, I1, rx, a, dx, fs, ex, ea, l, q⟩ => ?_) ht
  subst ex
  obtain rfl : u = Value.ref a := rx
  refine getmeth_ok I1 ea c hm l ?_
  refine PySem.W.callWith_K (first := [.ref a]) (h₀ := X.base) I.ok.mod.kin hm.kp (thn (ha.run pos pins s1 σ H1 _ I1 q) fun us s2 ⟨vs, H2, I2, r, q2⟩ => ⟨I2.kIn, ?_⟩) hst hpl
  exact run_fnS (us := .ref a :: us) (vs := .ref a :: vs) F hr hb (hx σ) I2 (.cons rfl r) q2
/-- o.m() -/
theorem pe_methS0 {pl : Sem Bool} (he : PE X o ta) (c : Cls X.K C) (hm : Meth X.K C m f) (F : FnOk X.prog X.w X.K X.mg X.base CX k f fd ps sp) (hr : Room k X.A) (hb : Binds X.K fd ps []) (hx : ∀ σ, PassesAt CX X σ (E σ))
    (ht : eval (.Call (.Attribute o m apos) [] [] pos) X.env = (do
      let ov ← eval o X.env
      standAt apos.atName
      let (f, first) ← holding [ov] (getMethod ov m pl)
      callWith pos f first (backTo pos (starEach [] X.env)) (backToKw pos (keywordEach [] X.env))) := by rfl) :
    PE X (.Call (.Attribute o m apos) [] [] pos) (L2H.tMethH C m sp E ta tNil) := by
  refine ⟨fun pins s σ H Q I h => ?_⟩
  refine PySem.W.methodCall_KW (pl := pl) (thn (he.run pins s σ H _ I h) fun u s1 ⟨x, H1, I1, rx, a, dx, fs, ex, ea, l, q⟩ => ?_) ht
  subst ex
  obtain rfl : u = Value.ref a := rx
  refine getmeth_ok I1 ea c hm l ?_
  exact PySem.W.callWith_K0 (first := [.ref a]) I1.kIn hm.kp (run_fnS (us := [.ref a]) (vs := [.ref a]) F hr hb (hx σ) I1 (.cons rfl .nil) q)
/-- C(..), which may raise -/
def tMakeS (C : Addr) (sp : Sp) (E : L2.St → XK) (t : TA) : TE := fun σ H Q => t σ H fun vs H1 => ∀ x dx, H1 x = none → H1 dx = none → dx ≠ x →
  sp (.ref x :: vs) (upd (upd H1 dx (.own x)) x (.ins C dx [])) (fun v H2 => v = .non ∧ Q (.ref x) H2) (E σ)
theorem run_makeS {pins : List (Addr × Obj)} {σ : L2.St} {H : Hp} {s : Shared} {Q : VK} {us : List Value} {vs : List V} (M : Mk X.K C f) (F : FnOk X.prog X.w X.K X.mg X.base CX k f fd ps sp) (hr : Room (k + 1) X.A) (hb : Binds X.K fd ps [])
    (hx : PassesAt CX X σ (E σ)) (I : Inv X pins σ H s) (r : Vals vs us)
    (h : ∀ x dx, H x = none → H dx = none → dx ≠ x → sp (.ref x :: vs) (upd (upd H dx (.own x)) x (.ins C dx [])) (fun v H2 => v = .non ∧ Q (.ref x) H2) (E σ)) :
    wpAny (model X.prog X.w) X.A (call (.ref C) us) (EP X pins σ Q) X.xe s := by
  have hq := h (s.heap.objs.size + 1) s.heap.objs.size (I.hok.fresh (Nat.le_succ _)) (I.hok.fresh (Nat.le_refl _)) (Nat.ne_of_lt (Nat.lt_succ_self _))
  have I2 := Inv.made (C := C) I
  have r2 : Vals (V.ref (s.heap.objs.size + 1) :: vs) (Value.ref (s.heap.objs.size + 1) :: us) := .cons rfl r
  have hl : (Value.ref (s.heap.objs.size + 1) :: us).length = ps.length := by
    have e := r2.length
    rw [F.len _ _ _ _ hq] at e
    exact e.symm
  have b := hb _ (Value.ref (s.heap.objs.size + 1) :: us) I2.kIn (by rw [List.append_nil]; exact hl)
  rw [List.append_nil] at b
  refine wpAny_call (make_map (f := f) I.kIn M.makes M.init (beq_iff_eq.mp M.fn) (codeAny_mono (F.run _ X.stack _ _ ⟨Value.ref (s.heap.objs.size + 1) :: us, []⟩ (Value.ref (s.heap.objs.size + 1) :: us) _ _ (E σ) (hr.make C us [])
    (I2.env0.make C us []) b r2 hq) fun r s' hq' => ?_))
  cases r with
  | error e => exact hx pins _ _ e s' I2 hq'
  | ok fl =>
    cases fl with
    | ret u =>
      obtain ⟨v, H', I3, rv, ev, q3⟩ := I2.after hq'
      subst ev
      exact ⟨rv, ⟨V.ref (s.heap.objs.size + 1), H', I3, rfl, q3⟩⟩
    | next => exact False.elim hq'
    | brk => exact False.elim hq'
    | cont => exact False.elim hq'
theorem pe_makeS (M : Mk X.K C f) (F : FnOk X.prog X.w X.K X.mg X.base CX k f fd ps sp) (hr : Room (k + 1) X.A) (hg : Gl X x) (hm : X.mg x = some (.ref C)) (hb : Binds X.K fd ps []) (hx : ∀ σ, PassesAt CX X σ (E σ))
    (ha : PA X (e :: es) t) (hdb : (x == ("__debug__" : Str)) = false := by decide) (he : starEach (e :: es) X.env = (false, eval e X.env) :: starEach es X.env := by rfl) (hpl : (backTo pos (starEach es X.env)).any (·.1) = false := by rfl) :
    PE X (.Call (.Name x p) (e :: es) [] pos) (tMakeS C sp E t) := by
  refine ⟨fun pins s σ H Q I h => ?_⟩
  refine wpAny_Call_Name_kw (ld_glob I hg hm ?_ hdb)
  refine PySem.W.callWith_K (h₀ := X.base) I.ok.mod.kin M.kp (thn (ha.run pos pins s σ H _ I h) fun us s1 ⟨vs, H1, I1, r, q⟩ => ⟨I1.kIn, ?_⟩) he hpl
  exact run_makeS M F hr hb (hx σ) I1 r q
end
/-! ### defs that raise where the error's context is known; defs called where one is handled -/
section
variable {P : Program} {w : World} {K : PySem.W.Frag} {mg : Str → Option Value} {base : Heap}
theorem okN {x qual : Str} {st : Stmt} {f : Addr} {fd : FuncData} {N ps : List Str} {k : Nat} {sp : Sp} (F : Fun K x qual st f fd) (S : FnScope N ps (defScope st)) (len : ∀ vs H Q E, sp vs H Q E → vs.length = ps.length)
    (hbody : ∀ (cdv : Value) (A : Around) (outer : List Env) (s : Shared) (H : Hp) (vs : List V) (Q : VK) (E : XK), Room k (A.deeper (envOfC qual (defScope st) s.heap.objs.size f cdv)) → sp vs H Q E →
      ∃ t, PSs (cxOf (L2N.CX P w) P w K mg base N qual (defScope st) f cdv A outer s H E) (defBody st) t ∧ t { nx := fun _ H' => Q .non H', rt := Q } (start N vs) H) : FnOk P w K mg base (L2N.CX P w) (k + 1) f fd ps sp := by
  obtain ⟨oc, od, kV, doc, pm, an, cdv, ct, osl, rfl, lk, hcd⟩ := F.ex
  exact fn_of lk hcd S len fun A outer s H vs Q E hr hsp => hbody cdv A outer s H vs Q E hr hsp
theorem okH {CX : CXT} {x qual : Str} {st : Stmt} {f : Addr} {fd : FuncData} {N ps : List Str} {k : Nat} {sp : Sp} (F : Fun K x qual st f fd) (S : FnScope N ps (defScope st)) (len : ∀ vs H Q E, sp vs H Q E → vs.length = ps.length)
    (hbody : ∀ (cdv : Value) (A : Around) (outer : List Env) (s : Shared) (H : Hp) (vs : List V) (Q : VK) (E : XK) (p : Addr × Obj), L2H.Hot1 A p → L2H.RoomH k (A.deeper (envOfC qual (defScope st) s.heap.objs.size f cdv)) → sp vs H Q E →
      ∃ t, PSs (L2H.cxH CX P w K mg base N qual (defScope st) f cdv A outer s H E p) (defBody st) t ∧ t { nx := fun _ H' => Q .non H', rt := Q } (start N vs) H) : L2H.FnH P w K mg base CX (k + 1) f fd ps sp := by
  obtain ⟨oc, od, kV, doc, pm, an, cdv, ct, osl, rfl, lk, hcd⟩ := F.ex
  exact L2H.fn_ofH lk hcd S len fun A outer s H vs Q E p hot hr hsp => hbody cdv A outer s H vs Q E p hot hr hsp
/-- what is known with the context is known without -/
theorem FnOk.noCtx {k : Nat} {f : Addr} {fd : FuncData} {ps : List Str} {sp : Sp} (F : FnOk P w K mg base (L2N.CX P w) k f fd ps sp) : FnOk P w K mg base (L2.CX P w) k f fd ps sp :=
  ⟨F.len, fun A outer s H args us vs Q E hr e0 hb r h => codeAny_mono (F.run A outer s H args us vs Q E hr e0 hb r h) fun r s' hq => by
    cases r with
    | error e =>
      obtain ⟨a, B, H', cls, d, e1, fl, rest⟩ := hq
      exact ⟨a, B, H', cls, d, e1, L2H.flyingZ_imp (fun _ z => z.zc) fl, rest⟩
    | ok fl => cases fl <;> exact hq⟩
/-- a def in which nothing is raised, where errors may be -/
theorem FnOk.calm {CX : CXT} {k : Nat} {f : Addr} {fd : FuncData} {ps : List Str} {sp : Sp} (F : FnOk P w K mg base CX0 k f fd ps sp) : FnOk P w K mg base CX k f fd ps sp :=
  ⟨F.len, fun A outer s H args us vs Q E hr e0 hb r h => codeAny_mono (F.run A outer s H args us vs Q E hr e0 hb r h) fun r s' hq => by
    cases r with
    | error e => exact False.elim hq
    | ok fl => cases fl <;> exact hq⟩
end
/-! ### heaps of which a known set of objects changes -/
/-- from the objects fp, which may change, to fp': new ones may have come in; all else stays, and all tuples -/
structure Fr (K : PySem.W.Frag) (fp fp' : List Addr) (H H' : Hp) : Prop where
  e : SmE fp H H'
  n : ∀ a ∈ fp', a ∈ fp ∨ H a = none
  t : Tq K H H'
theorem Sm.fr {K : PySem.W.Frag} {H H' : Hp} (S : Sm H H') {fp : List Addr} : Fr K fp fp H H' := ⟨S.e, fun _ h => .inl h, S.tq⟩
theorem Fr.trans {K : PySem.W.Frag} {fp fp1 fp2 : List Addr} {H H1 H2 : Hp} (a : Fr K fp fp1 H H1) (b : Fr K fp1 fp2 H1 H2) : Fr K fp fp2 H H2 :=
  ⟨fun c o n h => by
      have n1 : c ∉ fp1 := fun m => (a.n c m).elim n fun z => by rw [h] at z; cases z
      rcases a.e c o n h with e | ⟨qs, qs', e1, e2, e3⟩
      · exact b.e c o n1 e
      · rcases b.e c _ n1 e2 with e | ⟨rs, rs', f1, f2, f3⟩
        · exact .inr ⟨qs, qs', e1, e, e3⟩
        · exact .inr ⟨qs, rs', e1, f2, f3⟩,
    fun c h => by
      rcases b.n c h with h1 | h1
      · exact a.n c h1
      · by_cases hc : c ∈ fp
        · exact .inl hc
        · exact .inr (a.e.free hc h1), a.t.trans b.t⟩
/-- a set of objects that may change grows by what is new -/
theorem Fr.grow {K : PySem.W.Frag} {fp fp' : List Addr} {H H' : Hp} {l : Addr} (a : Fr K fp fp' H H') (h : H l = none) : Fr K fp (l :: fp') H H' :=
  ⟨a.e, fun c hc => (List.mem_cons.mp hc).elim (fun e => .inr (e ▸ h)) (a.n c), a.t⟩
/-- one of the objects, a list, is stored anew -/
theorem Fr.put {K : PySem.W.Frag} {fp : List Addr} {H : Hp} {l : Addr} {xs ys : List V} (h : l ∈ fp) (hl : H l = some (.lst xs)) : Fr K fp fp H (upd H l (.lst ys)) :=
  ⟨SmE.refl.upd h, fun _ h => .inl h, tq_lst hl⟩
theorem tq_ins {K : PySem.W.Frag} {H : Hp} {p C dx : Addr} {fs gs : List (Str × V)} (h : H p = some (.ins C dx fs)) : Tq K H (upd H p (.ins C dx gs)) :=
  ⟨fun a r q => by
    rcases q with (q | ⟨o, q⟩) | q
    · exact .inl (.inl (by rw [upd_ne (fun e => by rw [e, h] at q; cases q)]; exact q))
    · exact .inl (.inr ⟨o, by rw [upd_ne (fun e => by rw [e, h] at q; cases q)]; exact q⟩)
    · exact .inr q, fun a r e => by rw [upd_ne (fun z => by rw [z, h] at e; cases e)]; exact e⟩
theorem Fr.ins {K : PySem.W.Frag} {fp : List Addr} {H : Hp} {p C dx : Addr} {fs gs : List (Str × V)} (h : p ∈ fp) (hp : H p = some (.ins C dx fs)) : Fr K fp fp H (upd H p (.ins C dx gs)) :=
  ⟨SmE.refl.upd h, fun _ h => .inl h, tq_ins hp⟩
theorem Fr.mono {K : PySem.W.Frag} {fp fp' gp : List Addr} {H H' : Hp} (a : Fr K fp fp' H H') (h : ∀ x ∈ fp, x ∈ gp) : Fr K gp (gp ++ fp') H H' :=
  ⟨a.e.mono h, fun c hc => (List.mem_append.mp hc).elim .inl fun z => (a.n c z).elim (fun y => .inl (h c y)) .inr, a.t⟩
/-! ### a book -/
def bflds (z : Int) (lw ll lp : Addr) : List (Str × V) := [("price", .int z), ("_wishes", .ref lw), ("_left", .ref ll), ("_paid", .ref lp)]
section
variable {z y : Int} {lw ll lp : Addr} {m : Str} {v : V}
theorem bf_init : putF "_paid" (.ref lp) (putF "_left" (.ref ll) (putF "_wishes" (.ref lw) (putF "price" (.int z) []))) = bflds z lw ll lp := by
  have h1 : ¬ (("price" : Str) = "_wishes") := by decide +kernel
  have h2 : ¬ (("price" : Str) = "_left") := by decide +kernel
  have h3 : ¬ (("price" : Str) = "_paid") := by decide +kernel
  have h4 : ¬ (("_wishes" : Str) = "_left") := by decide +kernel
  have h5 : ¬ (("_wishes" : Str) = "_paid") := by decide +kernel
  have h6 : ¬ (("_left" : Str) = "_paid") := by decide +kernel
  simp only [putF, h1, h2, h3, h4, h5, h6, if_false]
  rfl
theorem bf_put : putF "price" (.int y) (bflds z lw ll lp) = bflds y lw ll lp := by
  unfold bflds putF
  rw [if_pos rfl]
theorem bf_lookup : (bflds z lw ll lp).lookup m = if m = "_paid" then some (.ref lp) else if m = "_left" then some (.ref ll) else if m = "_wishes" then some (.ref lw) else if m = "price" then some (.int z) else none := by
  rw [← bf_init]
  simp only [lookup_putF]
  rfl
theorem bf_price : (bflds z lw ll lp).lookup ("price" : Str) = some (.int z) := by
  rw [bf_lookup, if_neg (by decide +kernel), if_neg (by decide +kernel), if_neg (by decide +kernel), if_pos rfl]
theorem bf_wishes : (bflds z lw ll lp).lookup ("_wishes" : Str) = some (.ref lw) := by
  rw [bf_lookup, if_neg (by decide +kernel), if_neg (by decide +kernel), if_pos rfl]
theorem bf_left : (bflds z lw ll lp).lookup ("_left" : Str) = some (.ref ll) := by
  rw [bf_lookup, if_neg (by decide +kernel), if_pos rfl]
theorem bf_paid : (bflds z lw ll lp).lookup ("_paid" : Str) = some (.ref lp) := by
  rw [bf_lookup, if_pos rfl]
theorem bf_no (h1 : ¬ m = "_paid" := by decide +kernel) (h2 : ¬ m = "_left" := by decide +kernel) (h3 : ¬ m = "_wishes" := by decide +kernel) (h4 : ¬ m = "price" := by decide +kernel) : (bflds z lw ll lp).lookup m = none := by
  rw [bf_lookup, if_neg h1, if_neg h2, if_neg h3, if_neg h4]
end
structure Book where
  price : Int
  ws : List Wish
  left : List Int
  paid : List Int
abbrev Book.lf (B : Book) (k : Nat) : Int := B.left.getD k 0
abbrev Book.pd (B : Book) (k : Nat) : Int := B.paid.getD k 0
abbrev Book.n (B : Book) : Nat := B.ws.length
/-- what holds of a book between its deeds -/
structure Book.Ok (B : Book) : Prop where
  p0 : 0 ≤ B.price
  p1 : B.price ≤ 1000000000
  g : Goods B.ws
  l : Pcs B.ws B.left
  d : B.paid.length = B.ws.length
  nn : ∀ k, k < B.ws.length → 0 ≤ B.pd k
/-- a book's objects -/
structure BookAt (K : PySem.W.Frag) (C : Addr) (H : Hp) (p lw ll lp : Addr) (B : Book) : Prop where
  ob : ∃ dx, H p = some (.ins C dx (bflds B.price lw ll lp))
  w : ∃ xs, H lw = some (.lst xs) ∧ Wishes K H xs B.ws
  l : H ll = some (.lst (B.left.map V.int))
  d : H lp = some (.lst (B.paid.map V.int))
  n1 : lw ≠ ll
  n2 : lw ≠ lp
  n3 : ll ≠ lp
abbrev bfp (p lw ll lp : Addr) : List Addr := [p, lw, ll, lp]
section
variable {K : PySem.W.Frag} {C : Addr} {H H' : Hp} {p lw ll lp : Addr} {B : Book}
theorem BookAt.sm (S : Sm H H') (b : BookAt K C H p lw ll lp B) : BookAt K C H' p lw ll lp B := by
  obtain ⟨⟨dx, h1⟩, ⟨xs, h2, h3⟩, h4, h5, n1, n2, n3⟩ := b
  exact ⟨⟨dx, S.at h1 fun _ z => by cases z⟩, ⟨xs, S.lst h2, h3.sm S⟩, S.lst h4, S.lst h5, n1, n2, n3⟩
theorem BookAt.fr {fp fp' : List Addr} (F : Fr K fp fp' H H') (b : BookAt K C H p lw ll lp B) (n : ∀ a ∈ bfp p lw ll lp, a ∉ fp) : BookAt K C H' p lw ll lp B := by
  obtain ⟨⟨dx, h1⟩, ⟨xs, h2, h3⟩, h4, h5, n1, n2, n3⟩ := b
  exact ⟨⟨dx, F.e.at (n _ (by simp)) h1 fun _ z => by cases z⟩, ⟨xs, F.e.lst (n _ (by simp)) h2, h3.tk F.t.tk⟩, F.e.lst (n _ (by simp)) h4, F.e.lst (n _ (by simp)) h5, n1, n2, n3⟩
theorem BookAt.p1 (b : BookAt K C H p lw ll lp B) : p ≠ lw ∧ p ≠ ll ∧ p ≠ lp := by
  obtain ⟨⟨dx, h1⟩, ⟨xs, h2, h3⟩, h4, h5, n1, n2, n3⟩ := b
  exact ⟨fun e => (by rw [e, h2] at h1; cases h1), fun e => (by rw [e, h4] at h1; cases h1), fun e => (by rw [e, h5] at h1; cases h1)⟩
theorem BookAt.there (b : BookAt K C H p lw ll lp B) : ∀ a ∈ bfp p lw ll lp, H a ≠ none := by
  obtain ⟨⟨dx, h1⟩, ⟨xs, h2, h3⟩, h4, h5, n1, n2, n3⟩ := b
  intro a ha e
  simp only [List.mem_cons, List.not_mem_nil, or_false] at ha
  rcases ha with h | h | h | h <;> subst h
  · rw [h1] at e; cases e
  · rw [h2] at e; cases e
  · rw [h4] at e; cases e
  · rw [h5] at e; cases e
theorem BookAt.notab (b : BookAt K C H p lw ll lp B) {P : Addr} (t : GxR.TabG H P) : P ∉ bfp p lw ll lp := by
  obtain ⟨qs, e, _⟩ := t
  obtain ⟨⟨dx, h1⟩, ⟨xs, h2, h3⟩, h4, h5, n1, n2, n3⟩ := b
  intro ha
  simp only [List.mem_cons, List.not_mem_nil, or_false] at ha
  rcases ha with h | h | h | h <;> subst h
  · rw [h1] at e; cases e
  · rw [h2] at e; cases e
  · rw [h4] at e; cases e
  · rw [h5] at e; cases e
theorem BookAt.tup (b : BookAt K C H p lw ll lp B) {t : Addr} {r : List V} (e : H t = some (.tup r)) : t ∉ bfp p lw ll lp := by
  obtain ⟨⟨dx, h1⟩, ⟨xs, h2, h3⟩, h4, h5, n1, n2, n3⟩ := b
  intro ha
  simp only [List.mem_cons, List.not_mem_nil, or_false] at ha
  rcases ha with h | h | h | h <;> subst h
  · rw [h1] at e; cases e
  · rw [h2] at e; cases e
  · rw [h4] at e; cases e
  · rw [h5] at e; cases e
end
/-! ### readings -/
section
variable {σ : L2.St} {H : Hp} {v : V} {ta te : TE} {t : TA} {D : Ends} {u : TS} {K : PySem.W.Frag} {C p : Addr} {m : Str} {sp : Sp} {E : L2.St → XK} {vs : List V}
theorem ev_fld {f : Str} {dx : Addr} {fs : List (Str × V)} (ha : Ev ta σ H (.ref p)) (hp : H p = some (.ins C dx fs)) (c : Cls K C) (n : NoAttr K C f) (hl : fs.lookup f = some v) : Ev (tFld K ta f) σ H v := fun H1 S Q q =>
  ha H1 S _ fun H2 S2 => ⟨p, C, dx, fs, v, rfl, (S.trans S2).at hp (fun _ z => by cases z), c, n, hl, q H2 S2⟩
theorem meth_of {Q : VK} {dx : Addr} {fs : List (Str × V)} (ho : Ev ta σ H (.ref p)) (hp : H p = some (.ins C dx fs)) (hm : fs.lookup m = none) (ha : EvL t σ H vs) (h : ∀ H1, Sm H H1 → sp (.ref p :: vs) H1 Q (E σ)) : L2H.tMethH C m sp E ta t σ H Q :=
  ho H (Sm.refl _) _ fun H1 S1 => ⟨p, dx, fs, rfl, S1.at hp (fun _ z => by cases z), hm, ha H1 S1 _ fun us H2 S2 e => by subst e; exact h H2 (S1.trans S2)⟩
theorem evp_meth {P : V → Hp → Prop} {dx : Addr} {fs : List (Str × V)} (ho : Ev ta σ H (.ref p)) (hp : H p = some (.ins C dx fs)) (hm : fs.lookup m = none) (ha : EvL t σ H vs) (h : ∀ H1, Sm H H1 → ∀ Q : VK, (∀ u H2, Sm H1 H2 → P u H2 → Q u H2) → sp (.ref p :: vs) H1 Q (E σ)) :
    EvP (L2H.tMethH C m sp E ta t) σ H P := fun H1 S Q q =>
  ho H1 S _ fun H2 S2 => ⟨p, dx, fs, rfl, (S.trans S2).at hp (fun _ z => by cases z), hm, ha H2 (S.trans S2) _ fun us H3 S3 e => by
    subst e; exact h H3 (S.trans (S2.trans S3)) Q fun u H4 S4 => q u H4 (S2.trans (S3.trans S4))⟩
theorem ev_meth {dx : Addr} {fs : List (Str × V)} (ho : Ev ta σ H (.ref p)) (hp : H p = some (.ins C dx fs)) (hm : fs.lookup m = none) (ha : EvL t σ H vs) (h : ∀ H1, Sm H H1 → ∀ Q : VK, (∀ H2, Sm H1 H2 → Q v H2) → sp (.ref p :: vs) H1 Q (E σ)) :
    Ev (L2H.tMethH C m sp E ta t) σ H v := fun H1 S Q q =>
  ho H1 S _ fun H2 S2 => ⟨p, dx, fs, rfl, (S.trans S2).at hp (fun _ z => by cases z), hm, ha H2 (S.trans S2) _ fun us H3 S3 e => by
    subst e; exact h H3 (S.trans (S2.trans S3)) Q fun H4 S4 => q H4 (S2.trans (S3.trans S4))⟩
/-- o.f = e -/
theorem q_fld {f : Str} {dx : Addr} {fs : List (Str × V)} {P : V → Hp → Prop} (he : EvP te σ H P) (ho : Ev ta σ H (.ref p)) (hp : H p = some (.ins C dx fs)) (c : Cls K C) (n : NoAttr K C f) (hz : fs.length < 1000)
    (k : ∀ y H1 H2, Sm H H1 → P y H1 → Sm H1 H2 → H2 p = some (.ins C dx fs) → D.nx σ (upd H2 p (.ins C dx (putF f y fs)))) : sFld K ta te f D σ H :=
  he H (Sm.refl _) _ fun y H1 S1 py => ho H1 S1 _ fun H2 S2 => ⟨p, C, dx, fs, rfl, (S1.trans S2).at hp (fun _ z => by cases z), c, n, hz, k y H1 H2 S1 py S2 ((S1.trans S2).at hp fun _ z => by cases z)⟩
end
end My

set_option Elab.async false
set_option linter.all false
set_option maxRecDepth 100000
set_option maxHeartbeats 400000
/-! What a book's deeds come to. -/
namespace My
open PySem PySem.Spec PyProof.Rows L2
/-! ### deeds -/
def Book.add (B : Book) (w : Wish) : Book := { B with ws := B.ws ++ [w], left := B.left ++ [w.amt], paid := B.paid ++ [0] }
def Book.drop (B : Book) (k : Nat) : Book := { B with left := B.left.set k 0 }
def Book.settle (B : Book) (k : Nat) (m : Int) : Book := { B with left := B.left.set k (B.lf k - m), paid := B.paid.set k (B.pd k + m * B.price) }
def Book.to (B : Book) (p : Int) : Book := { B with price := p }
def Book.deal1 (B : Book) (d : Deal) : Book := (B.settle d.1 d.2.2).settle d.2.1 d.2.2
def Book.deals (B : Book) (ds : List Deal) : Book := ds.foldl Book.deal1 B
structure Book.Len (B : Book) : Prop where
  l : B.left.length = B.n
  d : B.paid.length = B.n
theorem Book.Ok.len {B : Book} (h : B.Ok) : B.Len := ⟨h.l.len, h.d⟩
section
variable {B : Book} {k j : Nat} {m : Int} {d : Deal} {ds : List Deal}
theorem Book.Len.settle (h : B.Len) : (B.settle k m).Len := ⟨by show (B.left.set _ _).length = _; rw [List.length_set]; exact h.l, by show (B.paid.set _ _).length = _; rw [List.length_set]; exact h.d⟩
theorem Book.Len.deal1 (h : B.Len) : (B.deal1 d).Len := h.settle.settle
theorem Book.Len.drop (h : B.Len) : (B.drop k).Len := ⟨by show (B.left.set _ _).length = _; rw [List.length_set]; exact h.l, h.d⟩
theorem Book.deals_snoc : B.deals (ds ++ [d]) = (B.deals ds).deal1 d := by unfold Book.deals; rw [List.foldl_append]; rfl
theorem Book.deals_ws : ∀ (ds : List Deal) (B : Book), (B.deals ds).ws = B.ws ∧ (B.deals ds).price = B.price
  | [], _ => ⟨rfl, rfl⟩
  | d :: ds, B => by
    have h := Book.deals_ws ds (B.deal1 d)
    exact h
theorem Book.deals_n (ds : List Deal) (B : Book) : (B.deals ds).n = B.n := by unfold Book.n; rw [(Book.deals_ws ds B).1]
theorem Book.Len.deals : ∀ (ds : List Deal) {B : Book}, B.Len → (B.deals ds).Len
  | [], _, h => h
  | d :: ds, B, h => Book.Len.deals ds (B := B.deal1 d) h.deal1
theorem settle_lf (h : B.Len) (hk : k < B.n) : (B.settle k m).lf j = B.lf j - (if k = j then m else 0) := by
  show (B.left.set k (B.lf k - m)).getD j 0 = _
  rw [getD_set (by rw [h.l]; exact hk)]
  by_cases e : j = k
  · subst e; rw [if_pos rfl, if_pos rfl]
  · rw [if_neg e, if_neg (Ne.symm e)]
    show B.lf j = B.lf j - 0
    omega
theorem settle_pd (h : B.Len) (hk : k < B.n) : (B.settle k m).pd j = B.pd j + (if k = j then m else 0) * B.price := by
  show (B.paid.set k (B.pd k + m * B.price)).getD j 0 = _
  rw [getD_set (by rw [h.d]; exact hk)]
  by_cases e : j = k
  · subst e; rw [if_pos rfl, if_pos rfl]
  · rw [if_neg e, if_neg (Ne.symm e), Int.zero_mul, Int.add_zero]
theorem deal1_lf (h : B.Len) (h1 : d.1 < B.n) (h2 : d.2.1 < B.n) : (B.deal1 d).lf j = B.lf j - ((if d.1 = j then d.2.2 else 0) + (if d.2.1 = j then d.2.2 else 0)) := by
  unfold Book.deal1
  rw [settle_lf h.settle h2, settle_lf h h1]
  omega
theorem deal1_pd (h : B.Len) (h1 : d.1 < B.n) (h2 : d.2.1 < B.n) : (B.deal1 d).pd j = B.pd j + ((if d.1 = j then d.2.2 else 0) + (if d.2.1 = j then d.2.2 else 0)) * B.price := by
  unfold Book.deal1
  rw [settle_pd h.settle h2, settle_pd h h1, Int.add_mul]
  show _ + _ * B.price = _
  omega
theorem deals_at : ∀ (ds : List Deal) {B : Book}, B.Len → (∀ d ∈ ds, d.1 < B.n ∧ d.2.1 < B.n) → ∀ j, (B.deals ds).lf j = B.lf j - got ds j ∧ (B.deals ds).pd j = B.pd j + got ds j * B.price
  | [], B, _, _, j => by
    show B.lf j = B.lf j - 0 ∧ B.pd j = B.pd j + 0 * B.price
    rw [Int.zero_mul]
    omega
  | d :: ds, B, h, hd, j => by
    have h1 := hd d List.mem_cons_self
    have ih := deals_at ds (B := B.deal1 d) h.deal1 (fun e he => hd e (List.mem_cons_of_mem _ he)) j
    have e : got (d :: ds) j = ((if d.1 = j then d.2.2 else 0) + (if d.2.1 = j then d.2.2 else 0)) + got ds j := by
      unfold got
      rw [List.map_cons, List.sum_cons]
    refine ⟨ih.1.trans ?_, ih.2.trans ?_⟩
    · rw [deal1_lf h h1.1 h1.2, e]
      omega
    · rw [deal1_pd h h1.1 h1.2, e, Int.add_mul _ (got ds j)]
      show _ + _ * B.price = _
      omega
end
/-! ### what stands -/
def Book.nums (B : Book) : List Nat := kept (fun k => decide (0 < B.lf k)) B.n
/-- a wish, with what is left -/
def Book.wl (B : Book) (k : Nat) : Wish := { wAt B.ws k with amt := B.lf k }
def Book.stands (B : Book) : List Wish := B.nums.map B.wl
def Book.num (B : Book) (i : Nat) : Nat := B.nums.getD i 0
section
variable {B : Book} {k j i : Nat}
theorem nums_mem : k ∈ B.nums ↔ k < B.n ∧ 0 < B.lf k := by
  unfold Book.nums kept
  rw [List.mem_filter, List.mem_range, decide_eq_true_iff]
theorem nums_lt : B.nums.Pairwise (· < ·) := List.pairwise_lt_range.filter _
theorem nums_nd : B.nums.Nodup := nums_lt.imp fun h => Nat.ne_of_lt h
theorem nums_le : B.nums.length ≤ B.n := kept_len
theorem stands_len : B.stands.length = B.nums.length := by unfold Book.stands; rw [List.length_map]
theorem num_get (h : i < B.nums.length) : B.nums[i]? = some (B.num i) := by
  unfold Book.num
  rw [List.getD_eq_getElem?_getD, List.getElem?_eq_getElem h]
  rfl
theorem num_mem (h : i < B.nums.length) : B.num i ∈ B.nums := List.mem_of_getElem? (num_get h)
theorem num_at (h : i < B.nums.length) : B.num i < B.n ∧ 0 < B.lf (B.num i) := nums_mem.mp (num_mem h)
theorem num_inj (hi : i < B.nums.length) (hj : j < B.nums.length) (h : B.num i = B.num j) : i = j := by
  have e1 := num_get hi
  have e2 := num_get hj
  rw [h] at e1
  exact (List.getElem?_inj hi nums_nd).mp (e1.trans e2.symm)
theorem num_mono (hi : i < B.nums.length) (hj : j < B.nums.length) (h : i < j) : B.num i < B.num j := by
  have := List.pairwise_iff_getElem.mp (nums_lt (B := B)) i j hi hj h
  have e1 := num_get hi
  have e2 := num_get hj
  rw [List.getElem?_eq_getElem hi] at e1
  rw [List.getElem?_eq_getElem hj] at e2
  rw [Option.some.inj e1, Option.some.inj e2] at this
  exact this
theorem num_find (h : k ∈ B.nums) : ∃ i, i < B.nums.length ∧ B.num i = k := by
  obtain ⟨i, hi, e⟩ := List.mem_iff_getElem.mp h
  refine ⟨i, hi, ?_⟩
  have e1 := num_get hi
  rw [List.getElem?_eq_getElem hi, e] at e1
  exact (Option.some.inj e1).symm
theorem stands_at (h : i < B.nums.length) : wAt B.stands i = B.wl (B.num i) := by
  unfold wAt Book.stands
  rw [List.getD_eq_getElem?_getD, List.getElem?_map, num_get h]
  rfl
theorem wl_buy : (B.wl k).buy = (wAt B.ws k).buy := rfl
theorem wl_lim : (B.wl k).lim = (wAt B.ws k).lim := rfl
theorem wl_good (h : B.Ok) (hk : k < B.n) (hl : 0 < B.lf k) : (B.wl k).Good := by
  have g := wAt_good h.g hk
  have l := h.l.ok k hk
  refine ⟨g.l0, g.l1, ?_, ?_⟩
  · show 1 ≤ B.lf k
    omega
  · show B.lf k ≤ 1000000
    have h1 : B.lf k ≤ amtAt B.ws k := l.2
    have h2 : amtAt B.ws k ≤ 1000000 := g.a1
    omega
theorem stands_good (h : B.Ok) : Goods B.stands := fun w hw => by
  unfold Book.stands at hw
  obtain ⟨k, hk, rfl⟩ := List.mem_map.mp hw
  have := nums_mem.mp hk
  exact wl_good h this.1 this.2
end
/-! ### a ring -/
/-- a deal of what stands, by the book's numbers -/
def Book.ren (B : Book) (d : Deal) : Deal := (B.num d.1, B.num d.2.1, d.2.2)
structure Rung (B : Book) (p : Int) (ds : List Deal) : Prop where
  near : Near B.stands B.price p
  pr : Paird B.stands (dues B.stands p) ds
def Book.told (B : Book) (ds : List Deal) : List Deal := ds.map B.ren
def Book.rung (B : Book) (p : Int) (ds : List Deal) : Book := (B.to p).deals (B.told ds)
theorem got_ren {B : Book} {i : Nat} (hi : i < B.nums.length) : ∀ {ds : List Deal}, (∀ d ∈ ds, d.1 < B.nums.length ∧ d.2.1 < B.nums.length) → got (B.told ds) (B.num i) = got ds i
  | [], _ => rfl
  | d :: ds, h => by
    have h1 := h d List.mem_cons_self
    have ih := got_ren hi (ds := ds) fun e he => h e (List.mem_cons_of_mem _ he)
    unfold got Book.told at ih ⊢
    rw [List.map_cons, List.map_cons, List.map_cons, List.sum_cons, List.sum_cons, ih]
    show ((if B.num d.1 = B.num i then d.2.2 else 0) + (if B.num d.2.1 = B.num i then d.2.2 else 0)) + _ = _
    have e1 : (B.num d.1 = B.num i) = (d.1 = i) := propext ⟨num_inj h1.1 hi, fun e => by rw [e]⟩
    have e2 : (B.num d.2.1 = B.num i) = (d.2.1 = i) := propext ⟨num_inj h1.2 hi, fun e => by rw [e]⟩
    simp only [e1, e2]
theorem got_off {B : Book} {k : Nat} (hk : k ∉ B.nums) : ∀ {ds : List Deal}, (∀ d ∈ ds, d.1 < B.nums.length ∧ d.2.1 < B.nums.length) → got (B.told ds) k = 0
  | [], _ => rfl
  | d :: ds, h => by
    have h1 := h d List.mem_cons_self
    have ih := got_off hk (ds := ds) fun e he => h e (List.mem_cons_of_mem _ he)
    unfold got Book.told at ih ⊢
    rw [List.map_cons, List.map_cons, List.sum_cons, ih]
    show ((if B.num d.1 = k then d.2.2 else 0) + (if B.num d.2.1 = k then d.2.2 else 0)) + 0 = 0
    rw [if_neg (fun e : B.num d.1 = k => hk (by rw [← e]; exact num_mem h1.1)), if_neg (fun e : B.num d.2.1 = k => hk (by rw [← e]; exact num_mem h1.2))]
    rfl
section
variable {B : Book} {p : Int} {ds : List Deal}
theorem Rung.ix (r : Rung B p ds) : ∀ d ∈ ds, d.1 < B.nums.length ∧ d.2.1 < B.nums.length := fun d hd => by
  have h := r.pr.ok d hd
  rw [← stands_len]
  exact ⟨h.b.1, h.s.1⟩
theorem told_mem {d : Deal} (h : d ∈ B.told ds) : ∃ e ∈ ds, d = B.ren e := by
  obtain ⟨e, he, z⟩ := List.mem_map.mp h
  exact ⟨e, he, z.symm⟩
theorem Rung.lt (r : Rung B p ds) : ∀ d ∈ B.told ds, d.1 < B.n ∧ d.2.1 < B.n := fun d hd => by
  obtain ⟨e, he, rfl⟩ := told_mem hd
  have h := r.ix e he
  exact ⟨(num_at h.1).1, (num_at h.2).1⟩
theorem Rung.m1 (r : Rung B p ds) : ∀ d ∈ B.told ds, 1 ≤ d.2.2 := fun d hd => by
  obtain ⟨e, he, rfl⟩ := told_mem hd
  exact (r.pr.ok e he).m
/-- how many pieces a wish got -/
theorem Rung.got (r : Rung B p ds) (i : Nat) (hi : i < B.nums.length) : got (B.told ds) (B.num i) = due B.stands p i := by
  rw [got_ren hi r.ix, r.pr.sum i (by rw [stands_len]; exact hi), dues_at (by rw [stands_len]; exact hi)]
theorem Rung.got_le (r : Rung B p ds) (h : B.Ok) (k : Nat) (hk : k < B.n) : 0 ≤ My.got (B.told ds) k ∧ My.got (B.told ds) k ≤ B.lf k := by
  refine ⟨got_nn r.m1 k, ?_⟩
  by_cases hm : k ∈ B.nums
  · obtain ⟨i, hi, rfl⟩ := num_find hm
    have e := due_le (p := p) (stands_good h) (k := i) (by rw [stands_len]; exact hi)
    have e2 : amtAt B.stands i = B.lf (B.num i) := by unfold amtAt; rw [stands_at hi]; rfl
    rw [r.got i hi]
    omega
  · rw [got_off hm r.ix]
    exact (h.l.ok k hk).1
theorem Book.to_len (h : B.Len) : (B.to p).Len := ⟨h.l, h.d⟩
theorem Rung.lf (r : Rung B p ds) (h : B.Ok) (k : Nat) : (B.rung p ds).lf k = B.lf k - My.got (B.told ds) k := (deals_at (B.told ds) (B := B.to p) (Book.to_len h.len) r.lt k).1
theorem Rung.pd (r : Rung B p ds) (h : B.Ok) (k : Nat) : (B.rung p ds).pd k = B.pd k + My.got (B.told ds) k * p := (deals_at (B.told ds) (B := B.to p) (Book.to_len h.len) r.lt k).2
theorem rung_ws : (B.rung p ds).ws = B.ws := (Book.deals_ws (B.told ds) (B.to p)).1
theorem rung_n : (B.rung p ds).n = B.n := by unfold Book.n; rw [rung_ws]
theorem rung_price : (B.rung p ds).price = p := (Book.deals_ws (B.told ds) (B.to p)).2
theorem Rung.p01 (r : Rung B p ds) (h : B.Ok) : 0 ≤ p ∧ p ≤ 1000000000 := (near_all (stands_good h) h.p0 h.p1 r.near).1
theorem Rung.clr (r : Rung B p ds) (h : B.Ok) : clearsB B.stands p = true := (near_all (stands_good h) h.p0 h.p1 r.near).2.1
theorem Rung.okk (r : Rung B p ds) (h : B.Ok) : (B.rung p ds).Ok := by
  have hl := Book.Len.deals (B.told ds) (Book.to_len (p := p) h.len)
  have p01 := r.p01 h
  refine ⟨by rw [rung_price]; exact p01.1, by rw [rung_price]; exact p01.2, by rw [rung_ws]; exact h.g, ⟨hl.l, fun k hk => ?_⟩, hl.d, fun k hk => ?_⟩
  · rw [rung_ws] at hk
    have e1 := r.lf h k
    have e2 := r.got_le h k hk
    have e3 := h.l.ok k hk
    have e4 : amtAt (B.rung p ds).ws k = amtAt B.ws k := by rw [rung_ws]
    have e5 : (B.rung p ds).left.getD k 0 = B.lf k - My.got (B.told ds) k := e1
    have e6 : B.lf k ≤ amtAt B.ws k := e3.2
    rw [e4, e5]
    omega
  · rw [rung_ws] at hk
    rw [r.pd h k]
    have e1 := h.nn k hk
    have e2 := Int.mul_nonneg (r.got_le h k hk).1 p01.1
    omega
theorem Book.Ok.add {w : Wish} (h : B.Ok) (hw : w.Good) : (B.add w).Ok := by
  refine ⟨h.p0, h.p1, fun v hv => ?_, ⟨?_, fun k hk => ?_⟩, ?_, fun k hk => ?_⟩
  · rcases List.mem_append.mp hv with z | z
    · exact h.g v z
    · rw [List.mem_singleton.mp z]; exact hw
  · show (B.left ++ [w.amt]).length = (B.ws ++ [w]).length
    rw [List.length_append, List.length_append, h.l.len]
    rfl
  · have hk' : k < B.ws.length + 1 := by
      have : k < (B.ws ++ [w]).length := hk
      rw [List.length_append] at this
      exact this
    have hl := h.l.len
    by_cases e : k < B.ws.length
    · have e1 : amtAt (B.ws ++ [w]) k = amtAt B.ws k := by
        unfold amtAt wAt
        rw [List.getD_eq_getElem?_getD, List.getD_eq_getElem?_getD, List.getElem?_append_left e]
      show 0 ≤ (B.left ++ [w.amt]).getD k 0 ∧ (B.left ++ [w.amt]).getD k 0 ≤ amtAt (B.ws ++ [w]) k
      rw [e1, getD_app_lt (by omega)]
      exact h.l.ok k e
    · have e2 : k = B.ws.length := by omega
      subst e2
      have e1 : amtAt (B.ws ++ [w]) B.ws.length = w.amt := by
        unfold amtAt wAt
        rw [List.getD_eq_getElem?_getD, List.getElem?_append_right (Nat.le_refl _), Nat.sub_self]
        rfl
      show 0 ≤ (B.left ++ [w.amt]).getD B.ws.length 0 ∧ (B.left ++ [w.amt]).getD B.ws.length 0 ≤ amtAt (B.ws ++ [w]) B.ws.length
      rw [e1, getD_app_at hl]
      have := hw.a0
      omega
  · show (B.paid ++ [0]).length = (B.ws ++ [w]).length
    rw [List.length_append, List.length_append, h.d]
    rfl
  · have hk' : k < B.ws.length + 1 := by
      have : k < (B.ws ++ [w]).length := hk
      rw [List.length_append] at this
      exact this
    show 0 ≤ (B.paid ++ [0]).getD k 0
    by_cases e : k < B.ws.length
    · rw [getD_app_lt (by rw [h.d]; exact e)]
      exact h.nn k e
    · rw [show k = B.ws.length by omega, getD_app_at h.d]
      exact Int.le_refl 0
theorem drop_lf {k j : Nat} (h : B.Len) (hk : k < B.n) : (B.drop k).lf j = if j = k then 0 else B.lf j := by
  show (B.left.set k 0).getD j 0 = _
  rw [getD_set (by rw [h.l]; exact hk)]
theorem Book.Ok.drop {k : Nat} (h : B.Ok) (hk : k < B.n) : (B.drop k).Ok := by
  refine ⟨h.p0, h.p1, h.g, ⟨h.len.drop.l, fun j hj => ?_⟩, h.d, h.nn⟩
  have e := h.l.ok j hj
  show 0 ≤ (B.left.set k 0).getD j 0 ∧ (B.left.set k 0).getD j 0 ≤ amtAt B.ws j
  rw [getD_set (by rw [h.len.l]; exact hk)]
  split
  · have := (wAt_good h.g hj).a0
    have e2 : 1 ≤ amtAt B.ws j := this
    omega
  · exact e
theorem Book.ok0 {p : Int} (h0 : 0 ≤ p) (h1 : p ≤ 1000000000) : (⟨p, [], [], []⟩ : Book).Ok :=
  ⟨h0, h1, (fun _ h => nomatch h), ⟨rfl, fun k hk => absurd hk (Nat.not_lt_zero k)⟩, rfl, fun k hk => absurd hk (Nat.not_lt_zero k)⟩
/-- a ring's pieces are even -/
theorem dues_even {ws : List Wish} {p : Int} (hg : Goods ws) : EvenP ws (dues ws p) := by
  unfold EvenP
  rw [sideSum_dues hg, sideSum_dues hg]
end
end My

set_option Elab.async false
set_option linter.all false
set_option maxRecDepth 100000
set_option maxHeartbeats 400000
/-! What a book's defs promise, and how they are used. -/
namespace My
open PySem PySem.Spec PyProof.Rows L2
theorem putF_len (f : Str) (v : V) : ∀ fs : List (Str × V), (putF f v fs).length ≤ fs.length + 1
  | [] => Nat.le_refl 1
  | (g, x) :: r => by
    unfold putF
    split
    · exact Nat.le_succ _
    · exact Nat.succ_le_succ (putF_len f v r)
theorem side_sideV (b : Bool) : sideV (.str (sideS b)) = true := by cases b <;> decide
/-- e.f, the fragment told -/
theorem pe_fldK {X : Cx} {K : PySem.W.Frag} {e : Expr} {ta : TE} {f : Str} {pos : Pos} (hK : X.K = K) (he : PE X e ta) (hb : attributeBase e f X.env (eval e X.env) = eval e X.env) : PE X (.Attribute e f pos) (tFld K ta f) := by
  subst hK
  exact pe_fld he hb
/-! ### statements with calls that may raise -/
section
variable {σ : L2.St} {H : Hp} {v x : V} {ta te to : TE} {t tr : TA} {D : Ends} {u : TS} {K : PySem.W.Frag} {C p dx : Addr} {m : Str} {sp : Sp} {E : L2.St → XK} {vs : List V} {fs : List (Str × V)} {i j : Nat}
theorem qs_setM (ho : Ev ta σ H (.ref p)) (hp : H p = some (.ins C dx fs)) (hm : fs.lookup m = none) (ha : EvL t σ H vs) (h : ∀ H1, Sm H H1 → sp (.ref p :: vs) H1 (fun v H2 => u D (σ.set i (some v)) H2) (E σ)) :
    tSeq (tAsg (L2H.tMethH C m sp E ta t) (gName i)) u D σ H := meth_of ho hp hm ha h
theorem qs_dropM (ho : Ev ta σ H (.ref p)) (hp : H p = some (.ins C dx fs)) (hm : fs.lookup m = none) (ha : EvL t σ H vs) (h : ∀ H1, Sm H H1 → sp (.ref p :: vs) H1 (fun _ H2 => u D σ H2) (E σ)) :
    tSeq (tDrop (L2H.tMethH C m sp E ta t)) u D σ H := meth_of ho hp hm ha h
theorem q_dropM (ho : Ev ta σ H (.ref p)) (hp : H p = some (.ins C dx fs)) (hm : fs.lookup m = none) (ha : EvL t σ H vs) (h : ∀ H1, Sm H H1 → sp (.ref p :: vs) H1 (fun _ H2 => D.nx σ H2) (E σ)) :
    tDrop (L2H.tMethH C m sp E ta t) D σ H := meth_of ho hp hm ha h
theorem q_retM (ho : Ev ta σ H (.ref p)) (hp : H p = some (.ins C dx fs)) (hm : fs.lookup m = none) (ha : EvL t σ H vs) (h : ∀ H1, Sm H H1 → sp (.ref p :: vs) H1 D.rt (E σ)) :
    tRet (L2H.tMethH C m sp E ta t) D σ H := meth_of ho hp hm ha h
/-- try: x = o.m(..) except .. as ..: suite -/
theorem qs_tryM {c : Value} {ts : Addr → Value → Option Addr → TS} {Wout : WX} (ho : Ev ta σ H (.ref p)) (hp : H p = some (.ins C dx fs)) (hm : fs.lookup m = none) (ha : EvL t σ H vs)
    (h : ∀ H1, Sm H H1 → sp (.ref p :: vs) H1 (fun v H2 => u D (σ.set j (some v)) H2) (fun cls d H2 => wAs K c i ts Wout { D with nx := u D } cls d σ H2)) :
    tSeq (fun D σ H => tAsg (L2H.tMethH C m sp (WE (wAs K c i ts Wout D)) ta t) (gName j) D σ H) u D σ H := meth_of (E := fun σ cls d H2 => wAs K c i ts Wout { D with nx := u D } cls d σ H2) ho hp hm ha h
theorem qs_tryDM {c : Value} {ts : Addr → Value → Option Addr → TS} {Wout : WX} (ho : Ev ta σ H (.ref p)) (hp : H p = some (.ins C dx fs)) (hm : fs.lookup m = none) (ha : EvL t σ H vs)
    (h : ∀ H1, Sm H H1 → sp (.ref p :: vs) H1 (fun _ H2 => u D σ H2) (fun cls d H2 => wAs K c i ts Wout { D with nx := u D } cls d σ H2)) :
    tSeq (fun D σ H => tDrop (L2H.tMethH C m sp (WE (wAs K c i ts Wout D)) ta t) D σ H) u D σ H := meth_of (E := fun σ cls d H2 => wAs K c i ts Wout { D with nx := u D } cls d σ H2) ho hp hm ha h
/-- .. at a block's end -/
theorem q_tryDM {c : Value} {ts : Addr → Value → Option Addr → TS} {Wout : WX} (ho : Ev ta σ H (.ref p)) (hp : H p = some (.ins C dx fs)) (hm : fs.lookup m = none) (ha : EvL t σ H vs)
    (h : ∀ H1, Sm H H1 → sp (.ref p :: vs) H1 (fun _ H2 => D.nx σ H2) (fun cls d H2 => wAs K c i ts Wout D cls d σ H2)) :
    (fun D σ H => tDrop (L2H.tMethH C m sp (WE (wAs K c i ts Wout D)) ta t) D σ H) D σ H := meth_of (E := fun σ cls d H2 => wAs K c i ts Wout D cls d σ H2) ho hp hm ha h
/-- g = f(..), f may raise -/
theorem qs_asgS {g : TG} (ha : EvL tr σ H vs) (h : ∀ H1, Sm H H1 → sp vs H1 (fun v H2 => g v σ H2 (u D)) (E σ)) : tSeq (tAsg (tCallS sp E tr) g) u D σ H :=
  ha H (Sm.refl _) _ fun us H2 S2 e => by subst e; exact h H2 S2
/-- o.f = g(..), g may raise -/
theorem qs_fldS {f : Str} (ha : EvL tr σ H vs) (c : Cls K C) (n : NoAttr K C f) (hi : σ[i]? = some (some (.ref p)))
    (h : ∀ H1, Sm H H1 → ∀ Q : VK, (∀ y H2 dx fs, H2 p = some (.ins C dx fs) → fs.length < 1000 → u D σ (upd H2 p (.ins C dx (putF f y fs))) → Q y H2) → sp vs H1 Q (E σ)) : tSeq (sFld K (tVar i) (tCallS sp E tr) f) u D σ H :=
  ha H (Sm.refl _) _ fun us H2 S2 e => by
    subst e
    exact h H2 S2 _ fun y H3 dx fs hp hz k => ⟨_, hi, p, C, dx, fs, rfl, hp, c, n, hz, k⟩
/-- return x[o.m(..)] -/
theorem q_retIxM {r : R2} (hx : Ev te σ H x) (ho : Ev ta σ H (.ref p)) (hp : H p = some (.ins C dx fs)) (hm : fs.lookup m = none) (ha : EvL t σ H vs) (h : ∀ H1, Sm H H1 → sp (.ref p :: vs) H1 (fun y H2 => r x y H2 D.rt) (E σ)) :
    tRet (tOp r te (L2H.tMethH C m sp E ta t)) D σ H :=
  hx H (Sm.refl _) _ fun H1 S1 => meth_of (ho.mono S1) (S1.at hp fun _ z => by cases z) hm (fun H2 S2 => ha H2 (S1.trans S2)) fun H2 S2 => h H2 (S1.trans S2)
end
theorem Fr.shrink {K : PySem.W.Frag} {fp fp' gp : List Addr} {H H' : Hp} (a : Fr K fp fp' H H') (h : ∀ x ∈ gp, x ∈ fp') : Fr K fp gp H H' := ⟨a.e, fun c hc => a.n c (h c hc), a.t⟩
theorem Fr.sm {K : PySem.W.Frag} {fp fp' : List Addr} {H H1 H2 : Hp} (a : Fr K fp fp' H H1) (S : Sm H1 H2) : Fr K fp fp' H H2 := ⟨a.e.trans S.e, a.n, a.t.trans S.tq⟩
theorem Fr.ahead {K : PySem.W.Frag} {fp fp' : List Addr} {H H1 H2 : Hp} (S : Sm H H1) (a : Fr K fp fp' H1 H2) : Fr K fp fp' H H2 := S.fr.trans a
/-- o.f = [], o new -/
theorem q_fldNew {K : PySem.W.Frag} {σ : L2.St} {H H0 : Hp} {ta : TE} {D : Ends} {C p dx : Addr} {f : Str} {fs : List (Str × V)} {fp : List Addr} (F : Fr K [p] fp H0 H) (hp : H p = some (.ins C dx fs)) (c : Cls K C) (n : NoAttr K C f) (hz : fs.length < 1000) (ho : Ev ta σ H (.ref p))
    (k : ∀ l H', l ≠ p → H l = none → H0 l = none → Fr K [p] (l :: fp) H0 H' → H' l = some (.lst []) → H' p = some (.ins C dx (putF f (.ref l) fs)) → (∀ b xs, H b = some (.lst xs) → H' b = some (.lst xs)) → D.nx σ H') : sFld K ta (tLst tNil) f D σ H :=
  q_fld evp_lst0 ho hp c n hz fun y H4 H5 S4 hy S5 hp5 => by
    obtain ⟨l, rfl, nl, hl⟩ := hy
    have nlp : l ≠ p := fun e => by rw [e, hp] at nl; cases nl
    have nl0 : H0 l = none := F.e.free (fun m => nlp (List.mem_singleton.mp m)) nl
    have F5 : Fr K [p] fp H0 H5 := F.sm (S4.trans S5)
    have F6 : Fr K [p] fp H0 (upd H5 p (.ins C dx (putF f (.ref l) fs))) := ⟨F5.e.upd List.mem_cons_self, F5.n, F5.t.trans (tq_ins hp5)⟩
    refine k l _ nlp nl nl0 (F6.grow nl0) ?_ upd_same ?_
    · rw [upd_ne nlp]
      exact S5.lst hl
    · intro b xs hb
      rw [upd_ne (fun e => by rw [e, hp] at hb; cases hb)]
      exact (S4.trans S5).lst hb
/-! ### more of heaps of which a known set changes -/
theorem SmE.sql {K : PySem.W.Frag} {ps : List Addr} {H H' : Hp} {a : Addr} {xs : List V} (S : SmE ps H H') (n : a ∉ ps) (h : SqL K H a xs) : SqL K H' a xs := by
  rcases h with (h | ⟨o, h⟩) | h
  · exact .inl (.inl (S.lst n h))
  · exact .inl (.inr ⟨o, S.at n h fun _ z => by cases z⟩)
  · exact .inr h
theorem Fr.weak {K : PySem.W.Frag} {fp gp : List Addr} {H H' : Hp} (a : Fr K fp fp H H') (h : ∀ x ∈ fp, x ∈ gp) : Fr K gp gp H H' := ⟨a.e.mono h, fun _ m => .inl m, a.t⟩
theorem kept_all {n : Nat} : kept (fun _ => true) n = List.range n := List.filter_eq_self.mpr fun _ _ => rfl
theorem range_num {B : Book} : (List.range B.nums.length).map B.num = B.nums := by
  refine List.ext_getElem? fun i => ?_
  by_cases h : i < B.nums.length
  · rw [List.getElem?_map, List.getElem?_range h, num_get h]
    rfl
  · rw [List.getElem?_eq_none (by rw [List.length_map, List.length_range]; omega), List.getElem?_eq_none (by omega)]
theorem range_wl {B : Book} : (List.range B.nums.length).map (fun i => B.wl (B.num i)) = B.stands :=
  (List.map_map (f := B.num) (g := B.wl) (l := List.range B.nums.length)).symm.trans (by rw [range_num]; rfl)
theorem wishes_paired {K : PySem.W.Frag} {H : Hp} : ∀ {ws : List Wish} {ys : List V}, Paired (fun w y => WishV K H y w) ws ys → Wishes K H ys ws
  | _, _, .nil => .nil
  | _, _, .cons r t => .cons r (wishes_paired t)
/-- a number of a list of natural numbers -/
theorem ev_natIx {K : PySem.W.Frag} {σ : L2.St} {H : Hp} {ta tb : TE} {a : Addr} {ms : List Nat} {i m : Nat} (ha : Ev ta σ H (.ref a)) (hb : Ev tb σ H (.int (i : Int))) (hS : H a = some (.lst (natVs ms))) (hi : ms[i]? = some m) : Ev (tOp (rIxL K) ta tb) σ H (.int (m : Int)) :=
  ev_ixL ha hb (.inl (.inl hS)) (at_of (j := i) rfl (by unfold natVs; rw [List.getElem?_map, hi]; rfl))
/-! ### promises -/
/-- what stands, as a book tells it: a pair of the number and the wish with what is left -/
def RowAt (H : Hp) (B : Book) (k : Nat) (y : V) : Prop := ∃ t z, y = .ref t ∧ H t = some (.tup [.int (k : Int), .ref z]) ∧ H z = some (.tup (B.wl k).row)
theorem RowAt.tq {K : PySem.W.Frag} {H H' : Hp} (S : Tq K H H') {B : Book} {k : Nat} {y : V} (h : RowAt H B k y) : RowAt H' B k y := let ⟨t, z, e, h1, h2⟩ := h; ⟨t, z, e, S.tup _ _ h1, S.tup _ _ h2⟩
def Rows' (H : Hp) (B : Book) (ys : List V) : Prop := Paired (RowAt H B) B.nums ys
theorem Rows'.tq {K : PySem.W.Frag} {H H' : Hp} (S : Tq K H H') {B : Book} {ys : List V} (h : Rows' H B ys) : Rows' H' B ys := Paired.mapR (fun _ _ z => z.tq S) h
def rowData (B : Book) (k : Nat) : PyData := .tuple [.int (k : Int), (B.wl k).data]
theorem dpRows {K : PySem.W.Frag} {H : Hp} {B : Book} : ∀ {ks : List Nat} {ys : List V}, Paired (RowAt H B) ks ys → DpAll K H ys (ks.map (rowData B))
  | _, _, .nil => .nil
  | _, _, .cons ⟨t, z, e, h1, h2⟩ r => by
    refine .cons ?_ (dpRows r)
    rw [e]
    exact .tup (.inl (.inl h1)) (.cons (.int _) (.cons (WishV.dp ⟨z, rfl, .inl (.inl h2)⟩) .nil))
theorem depth_rows (B : Book) : ∀ ks : List Nat, PyData.depthAll (ks.map (rowData B)) ≤ 2
  | [] => by simp [PyData.depthAll]
  | k :: ks => by
    have h := depth_rows B ks
    simp only [List.map_cons, PyData.depthAll]
    unfold rowData at h ⊢
    simp only [PyData.depth, PyData.depthAll, depth_wish]
    omega
theorem canLay_rows (B : Book) : ∀ ks : List Nat, PyData.canLayAll0 (ks.map (rowData B)) = true
  | [] => by simp [PyData.canLayAll0]
  | k :: ks => by
    have h := canLay_rows B ks
    unfold rowData at h ⊢
    simp [PyData.canLayAll0, PyData.canLay0, canLay_wish, h]
theorem shaped_rows (B : Book) (ks : List Nat) : SeqAt.shaped (.list (ks.map (rowData B))) = true := by
  have h := depth_rows B ks
  unfold SeqAt.shaped
  rw [Bool.and_eq_true, decide_eq_true_eq]
  refine ⟨by simp only [PyData.canLay0, canLay_rows], ?_⟩
  simp only [PyData.depth]
  omega
def spInit (K : PySem.W.Frag) (C CB : Addr) : Sp := fun vs H Q E => ∃ (p dx : Addr) (v : V), vs = [.ref p, v] ∧ H p = some (.ins C dx []) ∧ Kn K v H ∧
  ((numV 0 1000000000 v = false ∧ ∀ H', Sm H H' → E (.ref CB) none H') ∨
   ∃ o, v = .int o ∧ 0 ≤ o ∧ o ≤ 1000000000 ∧ ∀ H' lw ll lp, Fr K [p] (bfp p lw ll lp) H H' → BookAt K C H' p lw ll lp ⟨o, [], [], []⟩ → Q .non H')
/-- _known: the number of a wish comes back -/
def spKnown (K : PySem.W.Frag) (C CN : Addr) : Sp := fun vs H Q E => ∃ (p lw ll lp : Addr) (B : Book) (v : V), vs = [.ref p, v] ∧ BookAt K C H p lw ll lp B ∧ Kn K v H ∧
  ((numV 0 ((B.n : Int) - 1) v = false ∧ ∀ H', Sm H H' → E (.ref CN) none H') ∨ (numV 0 ((B.n : Int) - 1) v = true ∧ ∀ H', Sm H H' → Q v H'))
/-- left, paid -/
def spRead (K : PySem.W.Frag) (C CN : Addr) (f : Book → Nat → Int) : Sp := fun vs H Q E => ∃ (p lw ll lp : Addr) (B : Book) (v : V), vs = [.ref p, v] ∧ BookAt K C H p lw ll lp B ∧ B.Len ∧ Kn K v H ∧
  ((numV 0 ((B.n : Int) - 1) v = false ∧ ∀ H', Sm H H' → E (.ref CN) none H') ∨ ∃ k : Nat, v = .int (k : Int) ∧ k < B.n ∧ ∀ H', Sm H H' → Q (.int (f B k)) H')
def spDrop (K : PySem.W.Frag) (C CN : Addr) : Sp := fun vs H Q E => ∃ (p lw ll lp : Addr) (B : Book) (v : V), vs = [.ref p, v] ∧ BookAt K C H p lw ll lp B ∧ B.Len ∧ Kn K v H ∧
  (((numV 0 ((B.n : Int) - 1) v = false ∨ ∃ k : Nat, v = .int (k : Int) ∧ k < B.n ∧ B.lf k = 0) ∧ ∀ H', Sm H H' → E (.ref CN) none H') ∨
   ∃ k : Nat, v = .int (k : Int) ∧ k < B.n ∧ B.lf k ≠ 0 ∧ ∀ H', Fr K (bfp p lw ll lp) (bfp p lw ll lp) H H' → BookAt K C H' p lw ll lp (B.drop k) → Q (.int (B.lf k)) H')
def spStanding (K : PySem.W.Frag) (C : Addr) : Sp := fun vs H Q _ => ∃ (p lw ll lp : Addr) (B : Book), vs = [.ref p] ∧ BookAt K C H p lw ll lp B ∧ B.Len ∧ B.n ≤ 1000 ∧
  ∀ l ys H', Sm H H' → H l = none → H' l = some (.lst ys) → Rows' H' B ys → Q (.ref l) H'
def spSettle (K : PySem.W.Frag) (C : Addr) : Sp := fun vs H Q _ => ∃ (p lw ll lp : Addr) (B : Book) (k : Nat) (m : Int), vs = [.ref p, .int (k : Int), .int m] ∧ BookAt K C H p lw ll lp B ∧ B.Len ∧ k < B.n ∧ 0 ≤ B.price ∧ B.price ≤ 1000000000 ∧
  ∀ H', Fr K (bfp p lw ll lp) (bfp p lw ll lp) H H' → BookAt K C H' p lw ll lp (B.settle k m) → Q .non H'
def spRing (K : PySem.W.Frag) (C P1 P2 : Addr) : Sp := fun vs H Q _ => ∃ (p lw ll lp : Addr) (B : Book), vs = [.ref p] ∧ BookAt K C H p lw ll lp B ∧ B.Ok ∧ B.n ≤ 1000 ∧ GxR.TabG H P1 ∧ GxR.TabG H P2 ∧
  ∀ l ys H' q ds, Fr K (bfp p lw ll lp) (bfp p lw ll lp) H H' → H l = none → H' l = some (.lst ys) → Paired (DealAt H') (B.told ds) ys → Rung B q ds → BookAt K C H' p lw ll lp (B.rung q ds) → Q (.ref l) H'
/-! ### uses -/
section
variable {σ : L2.St} {H : Hp} {K : PySem.W.Frag} {C CB CN p lw ll lp : Addr} {B : Book} {ta tb : TE} {t : TA} {E : L2.St → XK}
theorem evp_make {o : Int} (ha : EvL t σ H [.int o]) (h0 : 0 ≤ o) (h1 : o ≤ 1000000000) : EvP (tMakeS C (spInit K C CB) E t) σ H fun u H' => ∃ p lw ll lp, u = .ref p ∧ BookAt K C H' p lw ll lp ⟨o, [], [], []⟩ ∧ ∀ a ∈ bfp p lw ll lp, H a = none := fun H1 S Q q =>
  ha H1 S _ fun us H2 S2 e => by
    subst e
    intro x dx nx ndx ne
    refine ⟨x, dx, .int o, rfl, upd_same, kn_int, .inr ⟨o, rfl, h0, h1, fun H' lw ll lp F hB => ⟨rfl, ?_⟩⟩⟩
    have e3 : SmE [x] H2 (upd (upd H2 dx (.own x)) x (.ins C dx [])) := ((Sm.new ndx).e (ps := [x])).upd List.mem_cons_self
    have S3 : Sm H2 H' := (e3.trans F.e).sm fun a ha => by rw [List.mem_singleton.mp ha]; exact nx
    refine q (.ref x) H' (S2.trans S3) ⟨x, lw, ll, lp, rfl, hB, fun a ha => ?_⟩
    refine (S.trans S2).free ?_
    rcases F.n a ha with z | z
    · rw [List.mem_singleton.mp z]; exact nx
    · by_cases ea : a = x
      · rw [ea]; exact nx
      · exact e3.free (fun m => ea (List.mem_singleton.mp m)) z
theorem ev_read {f : Book → Nat → Int} {m : Str} {k : Nat} (ho : Ev ta σ H (.ref p)) (hB : BookAt K C H p lw ll lp B) (hL : B.Len) (hm : (bflds B.price lw ll lp).lookup m = none) (ha : Ev tb σ H (.int (k : Int))) (hk : k < B.n) :
    Ev (L2H.tMethH C m (spRead K C CN f) E ta (tCons tb tNil)) σ H (.int (f B k)) := by
  obtain ⟨dx, hp⟩ := hB.ob
  exact ev_meth ho hp hm (evl_cons ha evl_nil) fun H1 S1 Q q => ⟨p, lw, ll, lp, B, _, rfl, hB.sm S1, hL, kn_int, .inr ⟨k, rfl, hk, q⟩⟩
theorem evp_standing (ho : Ev ta σ H (.ref p)) (hB : BookAt K C H p lw ll lp B) (hL : B.Len) (hn : B.n ≤ 1000) :
    EvP (L2H.tMethH C "standing" (spStanding K C) E ta tNil) σ H fun v H' => ∃ l ys, v = .ref l ∧ H l = none ∧ H' l = some (.lst ys) ∧ Rows' H' B ys := by
  obtain ⟨dx, hp⟩ := hB.ob
  exact evp_meth ho hp bf_no evl_nil fun H1 S1 Q q => ⟨p, lw, ll, lp, B, rfl, hB.sm S1, hL, hn, fun l ys H' S nl hl h => q _ _ S ⟨l, ys, rfl, S1.free nl, hl, h⟩⟩
theorem ev_bprice (ho : Ev ta σ H (.ref p)) (hB : BookAt K C H p lw ll lp B) (c : Cls K C) (n : NoAttr K C "price") : Ev (tFld K ta "price") σ H (.int B.price) := by
  obtain ⟨dx, hp⟩ := hB.ob
  exact ev_fld ho hp c n bf_price
end
end My

set_option Elab.async false
set_option linter.all false
set_option maxRecDepth 100000
set_option maxHeartbeats 400000
/-! A book with the rows that a law keeps of it, and what its rings told. -/
namespace My
open PySem PySem.Spec PyProof.Rows L2
/-! ### rows -/
def rowV (B : Book) (k : Nat) : List V := [.str (wAt B.ws k).side, .int (wAt B.ws k).lim, .int (B.lf k), .int (B.pd k)]
def Book.setL (B : Book) (k : Nat) (z : Int) : Book := { B with left := B.left.set k z }
def Book.setP (B : Book) (k : Nat) (z : Int) : Book := { B with paid := B.paid.set k z }
theorem settle_set {B : Book} {k : Nat} {m : Int} : B.settle k m = (B.setL k (B.lf k - m)).setP k (B.pd k + m * B.price) := rfl
theorem drop_set {B : Book} {k : Nat} : B.drop k = B.setL k 0 := rfl
theorem setL_lf {B : Book} {k j : Nat} {z : Int} (hk : k < B.left.length) : (B.setL k z).lf j = if j = k then z else B.lf j := getD_set hk
theorem setP_pd {B : Book} {k j : Nat} {z : Int} (hk : k < B.paid.length) : (B.setP k z).pd j = if j = k then z else B.pd j := getD_set hk
structure RowsAt (H : Hp) (r : Addr) (ra : List Addr) (B : Book) : Prop where
  l : H r = some (.lst (ra.map V.ref))
  len : ra.length = B.n
  row : ∀ k a, ra[k]? = some a → H a = some (.lst (rowV B k))
  nd : ra.Nodup
  nr : r ∉ ra
section
variable {H H' : Hp} {r : Addr} {ra : List Addr} {B : Book} {k : Nat} {a : Addr}
theorem RowsAt.sm (S : Sm H H') (h : RowsAt H r ra B) : RowsAt H' r ra B := ⟨S.lst h.l, h.len, fun k a e => S.lst (h.row k a e), h.nd, h.nr⟩
theorem RowsAt.e {ps : List Addr} (S : SmE ps H H') (n : ∀ a ∈ r :: ra, a ∉ ps) (h : RowsAt H r ra B) : RowsAt H' r ra B :=
  ⟨S.lst (n r List.mem_cons_self) h.l, h.len, fun k a e => S.lst (n a (List.mem_cons_of_mem _ (List.mem_of_getElem? e))) (h.row k a e), h.nd, h.nr⟩
theorem RowsAt.there (h : RowsAt H r ra B) : ∀ a ∈ r :: ra, H a ≠ none := fun a ha e => by
  rcases List.mem_cons.mp ha with z | z
  · rw [z, h.l] at e; cases e
  · obtain ⟨k, hk⟩ := List.mem_iff_getElem?.mp z
    rw [h.row k a hk] at e; cases e
theorem RowsAt.get (h : RowsAt H r ra B) (hk : k < B.n) : ∃ a, ra[k]? = some a ∧ H a = some (.lst (rowV B k)) := by
  have hk2 : k < ra.length := by rw [h.len]; exact hk
  exact ⟨ra[k], List.getElem?_eq_getElem hk2, h.row k _ (List.getElem?_eq_getElem hk2)⟩
theorem RowsAt.put (h : RowsAt H r ra B) {B' : Book} {xs : List V} (ha : ra[k]? = some a) (hn : B'.n = B.n) (hj : ∀ j, j ≠ k → rowV B' j = rowV B j) (hk : rowV B' k = xs) : RowsAt (upd H a (.lst xs)) r ra B' := by
  have ham := List.mem_of_getElem? ha
  refine ⟨?_, by rw [h.len, hn], fun j b e => ?_, h.nd, h.nr⟩
  · rw [upd_ne (fun e => h.nr (by rw [e]; exact ham))]
    exact h.l
  · by_cases ej : j = k
    · subst ej
      rw [ha] at e
      cases e
      rw [upd_same, hk]
    · have nab : b ≠ a := fun z => ej (by
        subst z
        exact (List.getElem?_inj (List.getElem?_eq_some_iff.mp e).1 h.nd).mp (e.trans ha.symm))
      rw [upd_ne nab, hj j ej]
      exact h.row j b e
theorem RowsAt.setL {z : Int} (h : RowsAt H r ra B) (hl : B.left.length = B.n) (ha : ra[k]? = some a) : RowsAt (upd H a (.lst ((rowV B k).set 2 (.int z)))) r ra (B.setL k z) := by
  have hk : k < B.left.length := by rw [hl, ← h.len]; exact (List.getElem?_eq_some_iff.mp ha).1
  refine h.put ha rfl (fun j hj => ?_) ?_
  · show [_, _, V.int ((B.setL k z).lf j), _] = _
    rw [setL_lf hk, if_neg hj]
    rfl
  · show [_, _, V.int ((B.setL k z).lf k), _] = _
    rw [setL_lf hk, if_pos rfl]
    rfl
theorem RowsAt.setP {z : Int} (h : RowsAt H r ra B) (hl : B.paid.length = B.n) (ha : ra[k]? = some a) : RowsAt (upd H a (.lst ((rowV B k).set 3 (.int z)))) r ra (B.setP k z) := by
  have hk : k < B.paid.length := by rw [hl, ← h.len]; exact (List.getElem?_eq_some_iff.mp ha).1
  refine h.put ha rfl (fun j hj => ?_) ?_
  · show [_, _, _, V.int ((B.setP k z).pd j)] = _
    rw [setP_pd hk, if_neg hj]
    rfl
  · show [_, _, _, V.int ((B.setP k z).pd k)] = _
    rw [setP_pd hk, if_pos rfl]
    rfl
/-- one row more -/
theorem RowsAt.snoc {w : Wish} (h : RowsAt H r ra B) (hL : B.Len) (S : Sm H H') (hn : H a = none) (ha : H' a = some (.lst [.str w.side, .int w.lim, .int w.amt, .int 0])) : RowsAt (upd H' r (.lst ((ra ++ [a]).map V.ref))) r (ra ++ [a]) (B.add w) := by
  have th := h.there
  have har : a ≠ r := fun e => th r List.mem_cons_self (by rw [← e]; exact hn)
  have hara : a ∉ ra := fun m => th a (List.mem_cons_of_mem _ m) hn
  have hwl : B.ws.length = ra.length := h.len.symm
  have e1 : ∀ k, k < ra.length → rowV (B.add w) k = rowV B k := fun k hk => by
    have x1 : wAt (B.ws ++ [w]) k = wAt B.ws k := by
      unfold wAt
      rw [List.getD_eq_getElem?_getD, List.getD_eq_getElem?_getD, List.getElem?_append_left (by omega)]
    have hll : B.left.length = ra.length := by rw [hL.l, h.len]
    have hdl : B.paid.length = ra.length := by rw [hL.d, h.len]
    show [V.str (wAt (B.ws ++ [w]) k).side, V.int (wAt (B.ws ++ [w]) k).lim, V.int ((B.left ++ [w.amt]).getD k 0), V.int ((B.paid ++ [0]).getD k 0)] = _
    rw [x1, getD_app_lt (by omega), getD_app_lt (by omega)]
    rfl
  have e2 : rowV (B.add w) ra.length = [.str w.side, .int w.lim, .int w.amt, .int 0] := by
    have x1 : wAt (B.ws ++ [w]) ra.length = w := by
      unfold wAt
      rw [List.getD_eq_getElem?_getD, List.getElem?_append_right (by omega), hwl, Nat.sub_self]
      rfl
    show [V.str (wAt (B.ws ++ [w]) ra.length).side, V.int (wAt (B.ws ++ [w]) ra.length).lim, V.int ((B.left ++ [w.amt]).getD ra.length 0), V.int ((B.paid ++ [0]).getD ra.length 0)] = _
    rw [x1, getD_app_at (by rw [hL.l, h.len]), getD_app_at (by rw [hL.d, h.len])]
  refine ⟨upd_same, ?_, fun k b e => ?_, ?_, fun m => ?_⟩
  · rw [List.length_append, h.len]
    show _ = (B.ws ++ [w]).length
    rw [List.length_append]
    rfl
  · by_cases hk : k < ra.length
    · rw [List.getElem?_append_left hk] at e
      rw [upd_ne (fun z => h.nr (by rw [← z]; exact List.mem_of_getElem? e)), e1 k hk]
      exact S.lst (h.row k b e)
    · have hk2 : k = ra.length := by
        have := (List.getElem?_eq_some_iff.mp e).1
        rw [List.length_append] at this
        have h1 : [a].length = 1 := rfl
        omega
      subst hk2
      rw [List.getElem?_append_right (Nat.le_refl _), Nat.sub_self] at e
      cases e
      rw [upd_ne har, e2]
      exact ha
  · rw [List.nodup_append]
    refine ⟨h.nd, by simp, fun x hx y hy z => ?_⟩
    rw [List.mem_singleton.mp hy] at z
    exact hara (z ▸ hx)
  · rcases List.mem_append.mp m with z | z
    · exact h.nr z
    · exact har (List.mem_singleton.mp z).symm
end
section
variable {σ : L2.St} {H : Hp} {K : PySem.W.Frag} {ta tb : TE} {r a : Addr} {ra : List Addr} {B : Book} {k : Nat} {v : V} {j : Int}
theorem ev_row (ha : Ev ta σ H (.ref r)) (hb : Ev tb σ H (.int (k : Int))) (h : RowsAt H r ra B) (hk : ra[k]? = some a) : Ev (tOp (rIxL K) ta tb) σ H (.ref a) :=
  ev_ixL ha hb (.inl (.inl h.l)) (at_of (j := k) rfl (by rw [List.getElem?_map, hk]; rfl))
theorem ev_rowPart (ha : Ev ta σ H (.ref r)) (hb : Ev tb σ H (.int (k : Int))) (h : RowsAt H r ra B) (hk : k < B.n) (hv : atI (rowV B k) j = some v) : Ev (tOp (rIxL K) (tOp (rIxL K) ta tb) (tC (.int j))) σ H v := by
  obtain ⟨a, h1, h2⟩ := h.get hk
  exact ev_ixL (ev_row ha hb h h1) ev_c (.inl (.inl h2)) hv
theorem ev_lenRows (ha : Ev ta σ H (.ref r)) (h : RowsAt H r ra B) : Ev (tCB (fun xs H Q => ∃ p ys, xs = [.ref p] ∧ (SqL K H p ys ∨ SqT K H p ys) ∧ Q (.int ys.length) H) (tCons ta tNil)) σ H (.int (B.n : Int)) :=
  (ev_len ha (.inl (.inl h.l))).to (by rw [List.length_map, h.len])
end
/-! ### what the rings told -/
def EntryAt (H : Hp) (zs : List Addr) (e : V) : Prop := ∃ a f c ys ds, e = .ref a ∧ a ∈ zs ∧ f ∈ zs ∧ c ∈ zs ∧ H a = some (.lst [.ref f, .ref c]) ∧ H f = some (.lst ys) ∧ H c = some (.lst ys) ∧ Paired (DealAt H) ds ys
theorem EntryAt.e {K : PySem.W.Frag} {H H' : Hp} {ps zs : List Addr} (S : SmE ps H H') (t : Tq K H H') (n : ∀ a ∈ zs, a ∉ ps) {e : V} (h : EntryAt H zs e) : EntryAt H' zs e := by
  obtain ⟨a, f, c, ys, ds, e1, m1, m2, m3, h1, h2, h3, h4⟩ := h
  exact ⟨a, f, c, ys, ds, e1, m1, m2, m3, S.lst (n _ m1) h1, S.lst (n _ m2) h2, S.lst (n _ m3) h3, DealAt.tq t h4⟩
theorem EntryAt.more {H : Hp} {zs zs' : List Addr} (n : ∀ a ∈ zs, a ∈ zs') {e : V} (h : EntryAt H zs e) : EntryAt H zs' e := by
  obtain ⟨a, f, c, ys, ds, e1, m1, m2, m3, h⟩ := h
  exact ⟨a, f, c, ys, ds, e1, n _ m1, n _ m2, n _ m3, h⟩
/-! ### a side of the law -/
structure Side where
  p : Addr
  lw : Addr
  ll : Addr
  lp : Addr
  r : Addr
  ra : List Addr
  g : Addr
  es : List V
  zs : List Addr
  B : Book
abbrev Side.fb (S : Side) : List Addr := bfp S.p S.lw S.ll S.lp
abbrev Side.fr (S : Side) : List Addr := S.r :: S.ra
abbrev Side.fg (S : Side) : List Addr := S.g :: S.zs
def Side.fp (S : Side) : List Addr := S.fb ++ (S.fr ++ S.fg)
structure SideAt (K : PySem.W.Frag) (C : Addr) (H : Hp) (S : Side) : Prop where
  b : BookAt K C H S.p S.lw S.ll S.lp S.B
  ok : S.B.Ok
  rs : RowsAt H S.r S.ra S.B
  g : H S.g = some (.lst S.es)
  gs : ∀ e ∈ S.es, EntryAt H S.zs e
  gn : S.es.length ≤ 1000
  zt : ∀ z ∈ S.zs, H z ≠ none
  d1 : ∀ a ∈ S.fr, a ∉ S.fb
  d2 : ∀ a ∈ S.fg, a ∉ S.fb ∧ a ∉ S.fr
  gz : S.g ∉ S.zs
theorem Sm.tracked {H H' : Hp} (S : Sm H H') {a : Addr} (h : H a ≠ none) : H' a ≠ none := fun e => h (S.free e)
theorem SmE.tracked {H H' : Hp} {ps : List Addr} (S : SmE ps H H') {a : Addr} (n : a ∉ ps) (h : H a ≠ none) : H' a ≠ none := fun e => h (S.free n e)
section
variable {K : PySem.W.Frag} {C : Addr} {H H' : Hp} {S S' : Side}
theorem SideAt.sm (M : Sm H H') (s : SideAt K C H S) : SideAt K C H' S :=
  ⟨s.b.sm M, s.ok, s.rs.sm M, M.lst s.g, fun e he => (s.gs e he).e (K := K) (M.e (ps := [])) M.tq (fun _ _ h => nomatch h), s.gn, fun z hz => M.tracked (s.zt z hz), s.d1, s.d2, s.gz⟩
theorem SideAt.away {fp fp' : List Addr} (F : Fr K fp fp' H H') (n : ∀ a ∈ S.fp, a ∉ fp) (s : SideAt K C H S) : SideAt K C H' S := by
  have nb : ∀ a ∈ S.fb, a ∉ fp := fun a h => n a (List.mem_append_left _ h)
  have nr : ∀ a ∈ S.fr, a ∉ fp := fun a h => n a (List.mem_append_right _ (List.mem_append_left _ h))
  have ng : ∀ a ∈ S.fg, a ∉ fp := fun a h => n a (List.mem_append_right _ (List.mem_append_right _ h))
  exact ⟨s.b.fr F nb, s.ok, s.rs.e F.e nr, F.e.lst (ng _ List.mem_cons_self) s.g, fun e he => (s.gs e he).e F.e F.t fun a h => ng a (List.mem_cons_of_mem _ h), s.gn, fun z hz => F.e.tracked (ng z (List.mem_cons_of_mem _ hz)) (s.zt z hz), s.d1, s.d2, s.gz⟩
theorem SideAt.there (s : SideAt K C H S) : ∀ a ∈ S.fp, H a ≠ none := fun a ha => by
  rcases List.mem_append.mp ha with h | h
  · exact s.b.there a h
  · rcases List.mem_append.mp h with h | h
    · exact s.rs.there a h
    · rcases List.mem_cons.mp h with h | h
      · rw [h, s.g]; exact fun z => nomatch z
      · exact s.zt a h
/-- what a deed keeps -/
structure Side.Next (S S' : Side) : Prop where
  p : S'.p = S.p
  r : S'.r = S.r
  g : S'.g = S.g
  n : S'.B.n ≤ S.B.n + 1
  e : S'.es.length ≤ S.es.length + 1
theorem Side.Next.refl (S : Side) : S.Next S := ⟨rfl, rfl, rfl, Nat.le_succ _, Nat.le_succ _⟩
theorem Side.in_b {a : Addr} (h : a ∈ S.fb) : a ∈ S.fp := List.mem_append_left _ h
theorem Side.in_r {a : Addr} (h : a ∈ S.fr) : a ∈ S.fp := List.mem_append_right _ (List.mem_append_left _ h)
theorem Side.in_g {a : Addr} (h : a ∈ S.fg) : a ∈ S.fp := List.mem_append_right _ (List.mem_append_right _ h)
/-- a promise of a deed of the law at one side, that always finds the book good -/
def Deed (K : PySem.W.Frag) (C : Addr) (S : Side) (H : Hp) (Q : VK) : Prop := ∀ H' S', Fr K S.fp S'.fp H H' → SideAt K C H' S' → S.Next S' → S'.B.price = S.B.price → Q (.bl true) H'
theorem Deed.same {Q : VK} (d : Deed K C S H Q) (s : SideAt K C H S) (M : Sm H H') : Q (.bl true) H' := d H' S M.fr (s.sm M) (Side.Next.refl S) rfl
/-- the book changes, and nothing else of the side -/
theorem SideAt.book {B' : Book} (F : Fr K S.fb S.fb H H') (s : SideAt K C H S) (hb : BookAt K C H' S.p S.lw S.ll S.lp B') (ok : B'.Ok) (hr : RowsAt H' S.r S.ra B') : SideAt K C H' { S with B := B' } :=
  ⟨hb, ok, hr, F.e.lst (s.d2 _ List.mem_cons_self).1 s.g, fun e he => (s.gs e he).e F.e F.t fun a h => (s.d2 a (List.mem_cons_of_mem _ h)).1, s.gn, fun z hz => F.e.tracked (s.d2 z (List.mem_cons_of_mem _ hz)).1 (s.zt z hz), s.d1, s.d2, s.gz⟩
end
theorem roomM {k : Nat} {A : Around} {h : Option Value} (r : Room k A) : L2H.RoomH k (A.mark h) := ⟨r.dp, r.un⟩
/-- data compared, the fragment told -/
theorem op_eqDK {X : Cx} {K : PySem.W.Frag} (hK : X.K = K) (hu : X.A.units + 64 < cLine) : OpR X (compareOp .Eq) (rEqD K) := by
  subst hK
  exact op_eqD hu
/-- a try in an except suite, the fragment told -/
theorem ps_try_asHK {X : Cx} {K : PySem.W.Frag} {x n : Str} {c : Value} {i : Nat} {body suite : List Stmt} {b₀ : Stmt} {np pos pos' : Pos} {tb : WX → TS} {ts : Addr → Value → Option Addr → TS} {Wout : WX} (hK : X.K = K)
    (hs : X.stack = X.env :: X.outer) (hf : X.env.frame = some X.env.locals) (hN : X.N.Nodup) (hi : X.N[i]? = some n) (hln : X.env.kindOf n = some .local) (hc : Names X x c) (tk : Takes X Wout)
    (hb : ∀ (W : WX) (pn : List (Addr × Obj)) (xe : Value → Shared → Prop), (∀ q ∈ X.pn, q ∈ pn) → Takes (X.tr pn xe) W → PassesOwn (model X.prog X.w) X.A X.env xe → PSs (X.tr pn xe) body (tb W))
    (hsu : ∀ (a : Addr) (oe : Obj) (cls : Value) (d : Option Addr) (pn : List (Addr × Obj)), Zc cls d oe → (∃ vs, oe.data = .fields vs) → PSs (X.suite a ((a, oe) :: pn)) (b₀ :: suite) (ts a cls d)) :
    PS X (.Try body [.ExceptHandler (some (.Name x np)) (some n) (b₀ :: suite) pos'] [] [] pos) (fun D σ H => tb (wAs K c i ts Wout D) D σ H) := by
  subst hK
  exact L2H.ps_try_asH hs hf hN hi hln hc tk hb hsu
/-- a new list -/
theorem evp_lstN {σ : L2.St} {H : Hp} {t : TA} {vs : List V} (ha : EvL t σ H vs) (hz : vs.length ≤ sizeLine) : EvP (tLst t) σ H fun u H' => ∃ a, u = .ref a ∧ H a = none ∧ H' a = some (.lst vs) := fun H1 S Q q =>
  ha H1 S _ fun us H2 S2 p => ⟨by rw [p]; exact hz, fun l nl => q (.ref l) _ (S2.trans (Sm.new nl)) ⟨l, rfl, S.free (S2.free nl), by rw [p, upd_same]⟩⟩
theorem evp_lstNA {σ : L2.St} {H : Hp} {t : TA} {P : List V → Hp → Prop} (ha : EvA t σ H P) (hz : ∀ vs H', P vs H' → vs.length ≤ sizeLine) (st : ∀ vs H H', Sm H H' → P vs H → P vs H') : EvP (tLst t) σ H fun u H' => ∃ a vs, u = .ref a ∧ H a = none ∧ H' a = some (.lst vs) ∧ P vs H' := fun H1 S Q q =>
  ha H1 S _ fun vs H2 S2 p => ⟨hz _ _ p, fun l nl => q (.ref l) _ (S2.trans (Sm.new nl)) ⟨l, vs, rfl, S.free (S2.free nl), upd_same, st _ _ _ (Sm.new nl) p⟩⟩
/-- for .. in a tuple that is just made -/
theorem q_forSq {K : PySem.W.Frag} {σ : L2.St} {H : Hp} {D : Ends} {te : TE} {g : TG} {tb : TS} {xs : List V} (h : EvP te σ H fun u H' => ∃ a, u = .ref a ∧ SqT K H' a xs) (k : ∀ a H', Sm H H' → SqT K H' a xs → tFor (iTup K (tC (.ref a))) g tb D σ H') : tFor (iTup K te) g tb D σ H :=
  h H (Sm.refl _) _ fun u H2 S2 ⟨a, e, hx⟩ => by
    obtain ⟨a', e', k'⟩ := k a H2 S2 hx
    cases e'
    exact ⟨a, e, k'⟩
theorem RowsAt.to {H : Hp} {r : Addr} {ra : List Addr} {B : Book} {z : Int} (h : RowsAt H r ra B) : RowsAt H r ra (B.to z) := ⟨h.l, h.len, h.row, h.nd, h.nr⟩
/-! data of deals -/
def dealData (d : Deal) : PyData := .tuple [.int (d.1 : Int), .int (d.2.1 : Int), .int d.2.2]
theorem dpDeals {K : PySem.W.Frag} {H : Hp} : ∀ {ds : List Deal} {ys : List V}, Paired (DealAt H) ds ys → DpAll K H ys (ds.map dealData)
  | _, _, .nil => .nil
  | _, _, .cons ⟨t, e, h⟩ r => by
    refine .cons ?_ (dpDeals r)
    rw [e]
    exact .tup (.inl (.inl h)) (dp_ints [_, _, _])
theorem canLay_deals : ∀ ds : List Deal, PyData.canLayAll0 (ds.map dealData) = true
  | [] => by simp [PyData.canLayAll0]
  | d :: ds => by simp [PyData.canLayAll0, PyData.canLay0, canLay_deals ds, dealData]
theorem depth_deals : ∀ ds : List Deal, PyData.depthAll (ds.map dealData) ≤ 1
  | [] => by simp [PyData.depthAll]
  | d :: ds => by
    have h := depth_deals ds
    simp only [List.map_cons, PyData.depthAll, dealData, PyData.depth] at h ⊢
    omega
theorem shaped_deals (ds : List Deal) : SeqAt.shaped (.list (ds.map dealData)) = true := by
  have h := depth_deals ds
  unfold SeqAt.shaped
  rw [Bool.and_eq_true, decide_eq_true_eq]
  refine ⟨by simp only [PyData.canLay0, canLay_deals], ?_⟩
  simp only [PyData.depth]
  omega
/-! data of rows -/
def rowD (q : Int × Wish) : PyData := .tuple [.int q.1, q.2.data]
theorem canLay_rowDs : ∀ l : List (Int × Wish), PyData.canLayAll0 (l.map rowD) = true
  | [] => by simp [PyData.canLayAll0]
  | q :: l => by
    have h := canLay_rowDs l
    unfold rowD at h ⊢
    simp [PyData.canLayAll0, PyData.canLay0, canLay_wish, h]
theorem depth_rowDs : ∀ l : List (Int × Wish), PyData.depthAll (l.map rowD) ≤ 2
  | [] => by simp [PyData.depthAll]
  | q :: l => by
    have h := depth_rowDs l
    simp only [List.map_cons, PyData.depthAll]
    unfold rowD at h ⊢
    simp only [PyData.depth, PyData.depthAll, depth_wish]
    omega
theorem shaped_rowDs (l : List (Int × Wish)) : SeqAt.shaped (.list (l.map rowD)) = true := by
  have h := depth_rowDs l
  unfold SeqAt.shaped
  rw [Bool.and_eq_true, decide_eq_true_eq]
  refine ⟨by simp only [PyData.canLay0, canLay_rowDs], ?_⟩
  simp only [PyData.depth]
  omega
/-! ### a try around C(..) -/
theorem qs_tryMk {K : PySem.W.Frag} {σ : L2.St} {H : Hp} {D : Ends} {u : TS} {C : Addr} {sp : Sp} {tr : TA} {vs : List V} {c : Value} {i : Nat} {ts : Addr → Value → Option Addr → TS} {Wout : WX} (ha : EvL tr σ H vs)
    (h : ∀ H1 x dx, Sm H H1 → H1 x = none → H1 dx = none → dx ≠ x → sp (.ref x :: vs) (upd (upd H1 dx (.own x)) x (.ins C dx [])) (fun v H2 => v = .non ∧ u D σ H2) (fun cls d H2 => wAs K c i ts Wout { D with nx := u D } cls d σ H2)) :
    tSeq (fun D σ H => tDrop (tMakeS C sp (WE (wAs K c i ts Wout D)) tr) D σ H) u D σ H :=
  ha H (Sm.refl _) _ fun us H2 S2 p => by
    subst p
    intro x dx nx ndx ne
    exact h H2 x dx S2 nx ndx ne
theorem Sm.made {H : Hp} {x dx : Addr} {o1 o2 : HO} (nx : H x = none) (ndx : H dx = none) (ne : dx ≠ x) : Sm H (upd (upd H dx o1) x o2) := (Sm.new ndx).mut nx
theorem ev_all' {K : PySem.W.Frag} {σ : L2.St} {H : Hp} {te : TE} {bs : List Bool} (h : EvP te σ H fun u H' => ∃ a, u = .ref a ∧ SqL K H' a (bs.map V.bl)) : Ev (tCB (rAll K) (tCons te tNil)) σ H (.bl (bs.all id)) := fun H1 S Q q =>
  h H1 S _ fun u H2 S2 ⟨a, e, hx⟩ => ⟨a, bs, by rw [e], hx, q H2 S2⟩
/-- int(b) -/
theorem ev_intB {σ : L2.St} {H : Hp} {ta : TE} {b : Bool} (ha : Ev ta σ H (.bl b)) : Ev (tCB (fun xs H Q => (∃ i, xs = [.int i] ∧ Q (.int i) H) ∨ ∃ k, xs = [.bl k] ∧ Q (.int (if k then 1 else 0)) H) (tCons ta tNil)) σ H (.int (if b then 1 else 0)) :=
  ev_cb (evl_cons ha evl_nil) fun H1 S Q q => .inr ⟨b, rfl, q H1 (Sm.refl _)⟩
/-! ### two sides, and what stands outside -/
structure LawAt (K : PySem.W.Frag) (C : Addr) (H : Hp) (os : List Addr) (Sd : Bool → Side) : Prop where
  s : ∀ c, SideAt K C H (Sd c)
  dj : ∀ c, ∀ a ∈ (Sd c).fp, a ∉ (Sd (!c)).fp
  out : ∀ a ∈ os, H a ≠ none ∧ ∀ c, a ∉ (Sd c).fp
def upS (Sd : Bool → Side) (c : Bool) (S' : Side) : Bool → Side := fun x => if x = c then S' else Sd x
section
variable {K : PySem.W.Frag} {C : Addr} {H H' : Hp} {os : List Addr} {Sd : Bool → Side} {c : Bool} {S' : Side}
theorem upS_at : upS Sd c S' c = S' := if_pos rfl
theorem upS_ne {x : Bool} (h : x ≠ c) : upS Sd c S' x = Sd x := if_neg h
theorem LawAt.sm (M : Sm H H') (h : LawAt K C H os Sd) : LawAt K C H' os Sd := ⟨fun c => (h.s c).sm M, h.dj, fun a ha => ⟨M.tracked (h.out a ha).1, (h.out a ha).2⟩⟩
theorem LawAt.next (h : LawAt K C H os Sd) (F : Fr K (Sd c).fp S'.fp H H') (s' : SideAt K C H' S') : LawAt K C H' os (upS Sd c S') := by
  have fresh : ∀ {a : Addr}, H a ≠ none → a ∉ (Sd c).fp → a ∉ S'.fp := fun h1 h2 m => (F.n _ m).elim h2 h1
  have hne : ∀ {x : Bool}, x ≠ c → x = !c := fun {x} hx => by revert hx; cases x <;> cases c <;> simp
  refine ⟨fun x => ?_, fun x a ha => ?_, fun a ha => ⟨F.e.tracked ((h.out a ha).2 c) (h.out a ha).1, fun x => ?_⟩⟩
  · by_cases e : x = c
    · rw [e, upS_at]; exact s'
    · rw [upS_ne e]
      exact (h.s x).away F fun a ha m => h.dj c a m (by rw [← hne e]; exact ha)
  · by_cases e : x = c
    · rw [e, upS_at] at ha
      rw [e, upS_ne (by cases c <;> decide)]
      intro m
      rcases F.n a ha with z | z
      · exact h.dj c a z m
      · exact (h.s (!c)).there a m z
    · rw [upS_ne e] at ha
      have e2 := hne e
      rw [e2, Bool.not_not, upS_at]
      rw [e2] at ha
      exact fresh ((h.s (!c)).there a ha) fun m => h.dj c a m ha
  · by_cases e : x = c
    · rw [e, upS_at]; exact fresh (h.out a ha).1 ((h.out a ha).2 c)
    · rw [upS_ne e]; exact (h.out a ha).2 x
/-- a list outside is stored anew -/
theorem LawAt.put {l : Addr} {xs ys : List V} (h : LawAt K C H os Sd) (hl : l ∈ os) (hx : H l = some (.lst xs)) : LawAt K C (upd H l (.lst ys)) os Sd := by
  have F : Fr K [l] [l] H (upd H l (.lst ys)) := Fr.put List.mem_cons_self hx
  refine ⟨fun c => (h.s c).away F fun a ha m => (h.out l hl).2 c (by rw [← List.mem_singleton.mp m]; exact ha), h.dj, fun a ha => ⟨?_, (h.out a ha).2⟩⟩
  by_cases e : a = l
  · rw [e, upd_same]; exact fun z => nomatch z
  · rw [upd_ne e]; exact (h.out a ha).1
/-- one more outside -/
theorem LawAt.more {l : Addr} (h : LawAt K C H os Sd) (M : Sm H H') (hn : H l = none) (hl : H' l ≠ none) : LawAt K C H' (l :: os) Sd :=
  ⟨fun c => (h.s c).sm M, h.dj, fun a ha => by
    rcases List.mem_cons.mp ha with e | e
    · subst e
      exact ⟨hl, fun c m => (h.s c).there a m hn⟩
    · exact ⟨M.tracked (h.out a e).1, (h.out a e).2⟩⟩
/-- one of two -/
theorem ev_pick {σ : L2.St} {ta tb : TE} {a : Addr} {f : Bool → V} (ha : Ev ta σ H (.ref a)) (hb : Ev tb σ H (.int (if c then 1 else 0))) (h : H a = some (.lst [f false, f true])) : Ev (tOp (rIxL K) ta tb) σ H (f c) :=
  ev_ixL ha hb (.inl (.inl h)) (by cases c <;> rfl)
theorem EvP.m {H H' : Hp} {te : TE} {σ : L2.St} {P : V → Hp → Prop} (h : EvP te σ H P) (M : Sm H H') : EvP te σ H' P := h.mono M
/-- arguments, the later ones by what the first one gave -/
theorem eva_consD {σ : L2.St} {H : Hp} {ta : TE} {tr : TA} {P : V → Hp → Prop} {R : V → List V → Hp → Prop} (ha : EvP ta σ H P) (hr : ∀ v H2, Sm H H2 → P v H2 → EvA tr σ H2 (R v)) : EvA (tCons ta tr) σ H fun vs H' => ∃ v r, vs = v :: r ∧ R v r H' := fun H1 S Q q =>
  ha H1 S _ fun v H2 S2 pv => hr v H2 (S.trans S2) pv H2 (Sm.refl _) _ fun r H3 S3 p => q (v :: r) H3 (S2.trans S3) ⟨v, r, rfl, p⟩
/-- x = f(..), f changes what it may -/
theorem q_setC {σ : L2.St} {H : Hp} {D : Ends} {sp : Sp} {E : XK} {t : TA} {i : Nat} {R : List V → Hp → Prop} (ha : EvA t σ H R) (h : ∀ us H1, Sm H H1 → R us H1 → sp us H1 (fun v H2 => D.nx (σ.set i (some v)) H2) E) : tAsg (tCall sp [] E t) (gName i) D σ H :=
  ha H (Sm.refl _) _ fun us H2 S2 p => by rw [List.append_nil]; exact h us H2 S2 p
/-- a new side -/
theorem SideAt.fresh {p lw ll lp r g : Addr} {o : Int} (hb : BookAt K C H p lw ll lp ⟨o, [], [], []⟩) (h0 : 0 ≤ o) (h1 : o ≤ 1000000000) (hr : H r = some (.lst [])) (hg : H g = some (.lst [])) (n1 : r ∉ bfp p lw ll lp) (n2 : g ∉ bfp p lw ll lp) (n3 : g ≠ r) : SideAt K C H ⟨p, lw, ll, lp, r, [], g, [], [], ⟨o, [], [], []⟩⟩ :=
  ⟨hb, Book.ok0 h0 h1, ⟨hr, rfl, fun k a e => (by simp at e), List.nodup_nil, (fun m => nomatch m)⟩, hg, (fun e h => nomatch h), Nat.zero_le _, (fun z h => nomatch h), fun a ha => by rw [List.mem_singleton.mp ha]; exact n1,
    fun a ha => by rw [List.mem_singleton.mp ha]; exact ⟨n2, fun m => n3 (List.mem_singleton.mp m)⟩, (fun m => nomatch m)⟩
theorem SideAt.kind0 {p lw ll lp r g : Addr} {o : Int} (s : SideAt K C H ⟨p, lw, ll, lp, r, [], g, [], [], ⟨o, [], [], []⟩⟩) : ∀ x ∈ (⟨p, lw, ll, lp, r, [], g, [], [], ⟨o, [], [], []⟩⟩ : Side).fp, (∃ C dx fs, H x = some (.ins C dx fs)) ∨ H x = some (.lst []) := fun x hx => by
  obtain ⟨⟨dx, h1⟩, ⟨xs, h2, h3⟩, h4, h5, _⟩ := s.b
  have hxs : xs = [] := List.eq_nil_of_length_eq_zero h3.length
  subst hxs
  rcases List.mem_append.mp hx with h | h
  · have h : x = p ∨ x = lw ∨ x = ll ∨ x = lp := by simpa using h
    rcases h with h | h | h | h
    · rw [h]; exact .inl ⟨_, _, _, h1⟩
    · rw [h]; exact .inr h2
    · rw [h]; exact .inr h4
    · rw [h]; exact .inr h5
  · rcases List.mem_append.mp h with h | h
    · rw [List.mem_singleton.mp h]; exact .inr s.rs.l
    · rw [List.mem_singleton.mp h]; exact .inr s.g
end
end My

set_option Elab.async false
set_option linter.all false
set_option maxRecDepth 100000
set_option maxHeartbeats 4000000
/-! sorted of triples of ints, any number of them. -/
namespace My
open PySem PySem.Spec PyProof.Rows L2 Srt SrtO
/-- v is a tuple of three ints in the heap -/
def IsTri (h : Heap) (v : Value) (x y z : Int) : Prop := ∃ a o t u r n, v = .ref a ∧ h.get? a = some o ∧ o.cls = .type "tuple" ∧ o.data = .seq #[.int x t, .int y u, .int z r] n
theorem IsTri.keeps {h h' : Heap} {v : Value} {x y z : Int} (p : IsTri h v x y z) (k : ∀ b o, h.get? b = some o → o.cls = .type "tuple" → h'.get? b = some o) : IsTri h' v x y z := by
  obtain ⟨a, o, t, u, r, n, e, ho, hc, hd⟩ := p
  exact ⟨a, o, t, u, r, n, e, k _ _ ho hc, hc, hd⟩
theorem firsts3 {h : Heap} : ∀ {vs : List Value}, (∀ v ∈ vs, ∃ x y z, IsTri h v x y z) → ∃ fs : List Value, PySem.W.KatTups h vs fs ∧ fs.length = vs.length ∧ ∀ f ∈ fs, ∃ x t, f = Value.int x t
  | [], _ => ⟨[], PySem.W.KatTups.nil, rfl, fun _ hm => by simp at hm⟩
  | v :: vs, hp => by
    obtain ⟨fs, h1, h2, h3⟩ := firsts3 (vs := vs) fun v' hm => hp v' (List.mem_cons_of_mem _ hm)
    obtain ⟨x, y, z, a, o, t, u, r, n, e, ho, hc, hd⟩ := hp v (List.mem_cons_self ..)
    subst e
    refine ⟨.int x t :: fs, PySem.W.KatTups.cons ho hc hd rfl h1, by rw [List.length_cons, List.length_cons, h2], fun f hm => ?_⟩
    rcases List.mem_cons.mp hm with rfl | hm
    · exact ⟨x, t, rfl⟩
    · exact h3 f hm
/-- by the first, then by the second, then by the third -/
def lex3 (p q : Int × Int × Int) : Bool := if p.1 = q.1 then (if p.2.1 = q.2.1 then decide (p.2.2 < q.2.2) else decide (p.2.1 < q.2.1)) else decide (p.1 < q.1)
theorem lex3_iff {p q : Int × Int × Int} : lex3 p q = true ↔ p.1 < q.1 ∨ (p.1 = q.1 ∧ (p.2.1 < q.2.1 ∨ (p.2.1 = q.2.1 ∧ p.2.2 < q.2.2))) := by
  unfold lex3
  by_cases e : p.1 = q.1
  · rw [if_pos e]
    by_cases e2 : p.2.1 = q.2.1
    · rw [if_pos e2, decide_eq_true_eq]
      omega
    · rw [if_neg e2, decide_eq_true_eq]
      omega
  · rw [if_neg e, decide_eq_true_eq]
    omega
theorem lex3_no {p q : Int × Int × Int} : lex3 p q = false ↔ ¬ (p.1 < q.1 ∨ (p.1 = q.1 ∧ (p.2.1 < q.2.1 ∨ (p.2.1 = q.2.1 ∧ p.2.2 < q.2.2)))) := by
  rw [← lex3_iff]
  cases lex3 p q <;> simp
theorem swo_lex3 {α : Type} (k : α → Int × Int × Int) : Swo fun v u => lex3 (k v) (k u) := by
  refine ⟨fun x y h => ?_, fun x y z h1 h2 => ?_⟩
  · have a := lex3_iff.mp h
    refine lex3_no.mpr ?_
    omega
  · have a := lex3_no.mp h1
    have b := lex3_no.mp h2
    refine lex3_no.mpr ?_
    omega
section
variable {prog : Program} {w : World} {A : Around} {E : Value → Shared → Prop} {s : Shared}
theorem tri_cmp {vs : List Value} {k : Value → Int × Int × Int} (hp : ∀ v ∈ vs, IsTri s.heap v (k v).1 (k v).2.1 (k v).2.2) : Cmp prog w A s (tuples' true) (fun p => p.1 ∈ vs) (lt2 fun v u => lex3 (k v) (k u)) := by
  intro p q hm hm'
  have h1 := hp _ hm
  have h2 := hp _ hm'
  show wpAny (model prog w) A (keyLt' (tuples' true) p.1 q.1) (fun r s' => s' = s ∧ r = lex3 (k p.1) (k q.1)) (fun _ _ => False) s
  unfold lex3
  generalize (k p.1).1 = x at h1 ⊢
  generalize (k p.1).2.1 = y at h1 ⊢
  generalize (k p.1).2.2 = z at h1 ⊢
  generalize (k q.1).1 = x' at h2 ⊢
  generalize (k q.1).2.1 = y' at h2 ⊢
  generalize (k q.1).2.2 = z' at h2 ⊢
  obtain ⟨a, o, t, u, r, n, e, ho, hc, hd⟩ := h1
  obtain ⟨a', o', t', u', r', n', e', ho', hc', hd'⟩ := h2
  rw [e, e']
  refine PySem.W.kat_lt ho hd ho' hd' ?_
  show PySem.W.KatLex prog w A true (decide (3 < 3)) _ [(.int x t, .int x' t'), (.int y u, .int y' u'), (.int z r, .int z' r')] 0 s
  refine PySem.W.kat_cons (SeqAt.EqAt.int_int x t x' t' prog w _ _ ?_)
  refine PySem.W.kat_go (fun e1 => ?_) (fun e1 => ?_)
  · have ex : x = x' := by simpa using e1
    refine PySem.W.kat_yes (PySem.W.kat_cons (SeqAt.EqAt.int_int y u y' u' prog w _ _ ?_))
    refine PySem.W.kat_go (fun e2 => ?_) (fun e2 => ?_)
    · have ey : y = y' := by simpa using e2
      refine PySem.W.kat_yes (PySem.W.kat_cons (SeqAt.EqAt.int_int z r z' r' prog w _ _ ?_))
      refine PySem.W.kat_go (fun e3 => ?_) (fun e3 => ?_)
      · have ez : z = z' := by simpa using e3
        have e4 : (if x = x' then (if y = y' then decide (z < z') else decide (y < y')) else decide (x < x')) = false := by
          rw [if_pos ex, if_pos ey, ez]
          exact decide_eq_false (Int.lt_irrefl _)
        exact PySem.W.kat_yes (PySem.W.kat_nil ⟨rfl, e4.symm⟩)
      · have e4 : (if x = x' then (if y = y' then decide (z < z') else decide (y < y')) else decide (x < x')) = decide (z < z') := by rw [if_pos ex, if_pos ey]
        refine PySem.W.kat_no (PySem.W.kat_one _ _ (PyProof.Rows.lt_int ?_))
        exact (show s = s ∧ decide (z < z') = (if x = x' then (if y = y' then decide (z < z') else decide (y < y')) else decide (x < x')) from ⟨rfl, e4.symm⟩)
    · have ey : ¬ y = y' := by simpa using e2
      have e4 : (if x = x' then (if y = y' then decide (z < z') else decide (y < y')) else decide (x < x')) = decide (y < y') := by rw [if_pos ex, if_neg ey]
      refine PySem.W.kat_no (PySem.W.kat_one _ _ (PyProof.Rows.lt_int ?_))
      exact (show s = s ∧ decide (y < y') = (if x = x' then (if y = y' then decide (z < z') else decide (y < y')) else decide (x < x')) from ⟨rfl, e4.symm⟩)
  · have ex : ¬ x = x' := by simpa using e1
    have e4 : (if x = x' then (if y = y' then decide (z < z') else decide (y < y')) else decide (x < x')) = decide (x < x') := if_neg ex
    exact PySem.W.kat_no (oneLt_int ⟨rfl, e4.symm⟩)
theorem tris_sortable {a : Addr} {vs : List Value} {k : Value → Int × Int × Int} (h0 : 0 < vs.length) (hp : ∀ v ∈ vs, IsTri s.heap v (k v).1 (k v).2.1 (k v).2.2) (ha : ∀ o, s.heap.get? a = some o → o.cls ≠ .type "tuple") : SortableO prog w A s a vs fun v u => lex3 (k v) (k u) := by
  intro h' keep
  have hp' : ∀ v ∈ vs, IsTri h' v (k v).1 (k v).2.1 (k v).2.2 := fun v hm => (hp v hm).keeps fun b o e c => keep b o (fun z => by subst z; exact ha o e c) e
  obtain ⟨fs, h1, h2, h3⟩ := firsts3 fun v hm => ⟨_, _, _, hp' v hm⟩
  refine ⟨tuples' true, fun Q E hq => ?_, tri_cmp hp'⟩
  refine PySem.W.kat_kind (T := .type "int") h1 (by omega) (fun f hm => ?_) (by rfl) ?_
  · obtain ⟨x, t, rfl⟩ := h3 f hm
    exact PySem.W.Looks.now
  · have e : (Value.type "int" != Value.type "tuple") = true := by first | decide +kernel | rfl | decide
    rw [e]
    exact hq
theorem sorted_tris {l : Addr} {vs : List Value} {k : Value → Int × Int × Int} {Q : Value → Shared → Prop} (hl : s.heap.IsList l vs.toArray) (hz : vs.length ≤ sizeLine) (hp : ∀ v ∈ vs, IsTri s.heap v (k v).1 (k v).2.1 (k v).2.2)
    (h : ∀ (h' : Heap) (d : Addr) (out : List Value), Srtd (fun v u => lex3 (k v) (k u)) out → Stb (fun v u => lex3 (k v) (k u)) out vs → (∀ b o, s.heap.get? b = some o → h'.get? b = some o) → s.heap.objs.size ≤ d → (∃ n, h'.get? d = some (seqObj "list" out.toArray n)) → Q (.ref d) { s with heap := h' }) :
    wpAny (model prog w) A (call (.builtin "sorted") [.ref l]) Q E s := by
  refine sorted_ord (swo_lex3 k) hl hz (fun h2 h₁ a ha kk => ?_) fun out hs hb => ?_
  · refine tris_sortable (s := { s with heap := h₁ }) (by omega) (fun v hm => (hp v hm).keeps fun b o e _ => (kk b o e).2) fun o e => ?_
    have e' : some o = some (seqObj "list" vs.toArray 0) := e.symm.trans ha
    cases e'
    intro c
    exact absurd (Value.type.inj c) (by decide)
  · exact h _ _ out hs hb (fun b o e => sortedAll_old e) (Nat.le_succ _) (sortedAll_at s.heap vs out.toArray)
end
/-! ### as a rule of the layer -/
abbrev lt3 (k : V → Int × Int × Int) (x y : V) : Bool := lex3 (k x) (k y)
/-- sorted(xs), xs a list of triples of ints of any length (k says which): a new list, sorted, equal ones in their order -/
def rSorted3 (K : PySem.W.Frag) : List V → Hp → VK → Prop := fun vs H Q => ∃ (a : Addr) (xs : List V) (k : V → Int × Int × Int), vs = [V.ref a] ∧ SqL K H a xs ∧ (∀ x ∈ xs, ∃ t, x = V.ref t ∧ H t = some (.tup [.int (k x).1, .int (k x).2.1, .int (k x).2.2])) ∧
  ∀ ys p, SrtO.Srtd (lt3 k) ys → SrtO.Stb (lt3 k) ys xs → H p = none → Q (.ref p) (upd H p (.lst ys))
section
variable {X : Cx}
theorem vals3 {v1 v2 v3 : V} {us : List Value} (r : Vals [v1, v2, v3] us) : ∃ u1 u2 u3, us = [u1, u2, u3] ∧ RelV v1 u1 ∧ RelV v2 u2 ∧ RelV v3 u3 := by
  cases r with
  | cons r1 rr =>
    cases rr with
    | cons r2 rr =>
      cases rr with
      | cons r3 rr =>
        cases rr
        exact ⟨_, _, _, rfl, r1, r2, r3⟩
theorem cr_sorted3 : CallR X (.builtin "sorted") (rSorted3 X.K) := by
  intro pins s σ H vs us Q I r h
  obtain ⟨a, xs, k, rfl, hs, hx, q⟩ := h
  obtain ⟨its, rv, hl, hz⟩ := I.list hs
  obtain ⟨u, rfl, ru⟩ := vals1 r
  obtain rfl : u = Value.ref a := ru
  obtain ⟨e1, e2⟩ := refs_back rv fun x m => by
    obtain ⟨t, e, _⟩ := hx x m
    exact ⟨t, e⟩
  refine sorted_tris (k := fun u => k (backV u)) hl.isList (by rw [← rv.length]; exact hz) (fun v hv => ?_) fun h' d out h1 h2 kp hd hn => ?_
  · obtain ⟨t, rfl⟩ := e2 v hv
    have hm : V.ref t ∈ xs := by rw [e1]; exact List.mem_map.mpr ⟨_, hv, rfl⟩
    obtain ⟨t', e, ht⟩ := hx _ hm
    cases e
    obtain ⟨_, its2, r2, o, ho, hc, n, hd⟩ := I.hok _ _ ht
    obtain ⟨u1, u2, u3, rfl, ri, rj, rk⟩ := vals3 r2
    obtain ⟨t1, rfl⟩ := ri
    obtain ⟨t2, rfl⟩ := rj
    obtain ⟨t3, rfl⟩ := rk
    exact ⟨t, o, t1, t2, t3, n, rfl, ho, hc, hd⟩
  · have h3 : ∀ u ∈ out, ∃ a, u = Value.ref a := fun u hu => e2 u (h2.perm.mem_iff.mp hu)
    obtain ⟨n, hn⟩ := hn
    have hb : SrtO.Stb (lt3 k) (out.map backV) xs := by
      rw [e1]
      exact SrtO.Stb.map (swo_lex3 k) backV h2
    refine ⟨.ref d, upd H d (.lst (out.map backV)), I.laid (t' := s.toks) kp hd ⟨?_, out, n, vals_back h3, hn⟩, rfl, q _ d (SrtO.srtd_map h1) hb (I.hok.fresh hd)⟩
    rw [hb.len]
    exact hz
end
end My

set_option Elab.async false
set_option linter.all false
set_option maxRecDepth 100000
set_option maxHeartbeats 400000
/-! What a ring leaves behind. -/
namespace My
open PySem PySem.Spec PyProof.Rows L2
/-! ### sums -/
theorem S_nn {f : Nat → Bool} {a : Nat → Int} : ∀ {n : Nat}, (∀ j, j < n → 0 ≤ a j) → 0 ≤ S f a n
  | 0, _ => Int.le_refl 0
  | n + 1, h => by
    rw [S_succ]
    have h1 := S_nn (f := f) (n := n) fun j hj => h j (by omega)
    have h2 := h n (by omega)
    split <;> omega
theorem S_le {f : Nat → Bool} {a b : Nat → Int} : ∀ {n : Nat}, (∀ j, j < n → f j = true → b j ≤ a j) → S f b n ≤ S f a n
  | 0, _ => Int.le_refl 0
  | n + 1, h => by
    rw [S_succ, S_succ]
    have h1 := S_le (n := n) fun j hj => h j (by omega)
    have h2 := h n (by omega)
    split
    · have := h2 (by assumption)
      omega
    · omega
theorem S_eq_le {f : Nat → Bool} {a b : Nat → Int} : ∀ {n : Nat}, (∀ j, j < n → f j = true → b j ≤ a j) → S f b n = S f a n → ∀ j, j < n → f j = true → b j = a j
  | 0, _, _, j, hj, _ => absurd hj (Nat.not_lt_zero j)
  | n + 1, h, e, j, hj, hf => by
    rw [S_succ, S_succ] at e
    have h1 := S_le (n := n) fun j hj => h j (by omega)
    have h2 := h n (by omega)
    by_cases ej : j = n
    · subst ej
      rw [if_pos hf, if_pos hf] at e
      have := h2 hf
      omega
    · refine S_eq_le (n := n) (fun j hj => h j (by omega)) ?_ j (by omega) hf
      split at e
      · have := h2 (by assumption)
        omega
      · omega
theorem S_upd {a a' : Nat → Int} {k : Nat} {z : Int} : ∀ {n : Nat}, (∀ j, j < n → a' j = a j + (if j = k then z else 0)) → S (fun _ => true) a' n = S (fun _ => true) a n + (if k < n then z else 0)
  | 0, _ => by
    rw [if_neg (Nat.not_lt_zero k), Int.add_zero]
    rfl
  | n + 1, h => by
    rw [S_succ, S_succ, S_upd (n := n) fun j hj => h j (by omega), if_pos rfl, if_pos rfl, h n (by omega)]
    by_cases e : n = k
    · rw [if_pos e, if_neg (by omega), if_pos (by omega)]
      omega
    · rw [if_neg e]
      by_cases e2 : k < n
      · rw [if_pos e2, if_pos (by omega)]
        omega
      · rw [if_neg e2, if_neg (by omega)]
        omega
/-! ### who is served in full -/
theorem side_full {ws : List Wish} {p : Int} (hg : Goods ws) (b : Bool) (h : deal ws p = sumOf b ws p) : ∀ k, k < ws.length → inB ws b p k = true → due ws p k = amtAt ws k := by
  have e1 := dealt_side hg b p
  have e2 := sum_S b p ws
  have e3 : S (fun j => decide ((wAt ws j).buy = b)) (due ws p) ws.length = S (inB ws b p) (due ws p) ws.length := S_term fun j _ => by
    unfold inB
    cases h1 : decide ((wAt ws j).buy = b) with
    | false => rfl
    | true =>
      cases h2 : elig p (wAt ws j) with
      | true => rfl
      | false =>
        rw [due_worse h2]
        rfl
  refine S_eq_le (f := inB ws b p) (fun j hj _ => due_le hg hj) ?_
  rw [← e3, e1, h, e2]
  rfl
theorem wanted_none {ws : List Wish} {z : Int} (h : ∀ w ∈ ws, w.buy = true → w.lim < z) : wantedOf ws z = 0 := by
  unfold wantedOf
  rw [List.filter_eq_nil_iff.mpr fun w hw hz => ?_]
  · rfl
  · have h1 := Bool.and_eq_true_iff.mp hz
    have h2 := h w hw h1.1
    have h3 := of_decide_eq_true h1.2
    omega
theorem offered_none {ws : List Wish} {z : Int} (h : ∀ w ∈ ws, w.buy = false → z < w.lim) : offeredOf ws z = 0 := by
  unfold offeredOf
  rw [List.filter_eq_nil_iff.mpr fun w hw hz => ?_]
  · rfl
  · have h1 := Bool.and_eq_true_iff.mp hz
    have h2 := h w hw (by simpa using h1.1)
    have h3 := of_decide_eq_true h1.2
    omega
/-! ### behind a ring -/
section
variable {B : Book} {p : Int} {ds : List Deal}
theorem Rung.leftover (r : Rung B p ds) (h : B.Ok) {k : Nat} (hk : k ∈ (B.rung p ds).nums) : ∃ i, i < B.nums.length ∧ B.num i = k ∧ due B.stands p i < amtAt B.stands i := by
  have h1 := nums_mem.mp hk
  rw [rung_n, r.lf h] at h1
  have h2 := (r.got_le h k h1.1).1
  have hm : k ∈ B.nums := nums_mem.mpr ⟨h1.1, by omega⟩
  obtain ⟨i, hi, rfl⟩ := num_find hm
  refine ⟨i, hi, rfl, ?_⟩
  have e1 := r.got i hi
  have e2 : amtAt B.stands i = B.lf (B.num i) := by unfold amtAt; rw [stands_at hi]; rfl
  omega
theorem Rung.quiet1 (r : Rung B p ds) (h : B.Ok) {k : Nat} (hk : k ∈ (B.rung p ds).nums) : ((wAt B.ws k).buy = true → (wAt B.ws k).lim ≤ p) ∧ ((wAt B.ws k).buy = false → p ≤ (wAt B.ws k).lim) := by
  obtain ⟨i, hi, rfl, hd⟩ := r.leftover h hk
  have key : better p (wAt B.stands i) = true → False := fun hb => by
    have := due_better (stands_good h) (r.clr h) (by rw [stands_len]; exact hi) hb
    omega
  rw [stands_at hi] at key
  unfold better at key
  refine ⟨fun hb => ?_, fun hb => ?_⟩
  · rw [show (B.wl (B.num i)).buy = true from hb] at key
    simp only [if_true, decide_eq_true_iff] at key
    exact Int.not_lt.mp key
  · rw [show (B.wl (B.num i)).buy = false from hb] at key
    simp only [Bool.false_eq_true, if_false, decide_eq_true_iff] at key
    exact Int.not_lt.mp key
theorem Rung.quiet2 (r : Rung B p ds) (h : B.Ok) : (∀ k ∈ (B.rung p ds).nums, (wAt B.ws k).buy = true → (wAt B.ws k).lim < p) ∨ (∀ k ∈ (B.rung p ds).nums, (wAt B.ws k).buy = false → p < (wAt B.ws k).lim) := by
  have hm : deal B.stands p = sumOf true B.stands p ∨ deal B.stands p = sumOf false B.stands p := by
    unfold deal sumOf
    simp only [if_true, Bool.false_eq_true, if_false]
    omega
  rcases hm with hm | hm
  · refine .inl fun k hk hb => ?_
    obtain ⟨i, hi, rfl, hd⟩ := r.leftover h hk
    have hil : i < B.stands.length := by rw [stands_len]; exact hi
    have key : inB B.stands true p i = true → False := fun z => by
      have := side_full (stands_good h) true hm i hil z
      omega
    unfold inB elig at key
    rw [stands_at hi, show (B.wl (B.num i)).buy = true from hb] at key
    simp only [decide_true, Bool.true_and, if_true, decide_eq_true_iff] at key
    exact Int.not_le.mp key
  · refine .inr fun k hk hb => ?_
    obtain ⟨i, hi, rfl, hd⟩ := r.leftover h hk
    have hil : i < B.stands.length := by rw [stands_len]; exact hi
    have key : inB B.stands false p i = true → False := fun z => by
      have := side_full (stands_good h) false hm i hil z
      omega
    unfold inB elig at key
    rw [stands_at hi, show (B.wl (B.num i)).buy = false from hb] at key
    simp only [decide_true, Bool.true_and, Bool.false_eq_true, if_false, decide_eq_true_iff] at key
    exact Int.not_le.mp key
theorem stands_mem {B : Book} {w : Wish} (h : w ∈ B.stands) : ∃ k ∈ B.nums, w = B.wl k := by
  obtain ⟨k, hk, e⟩ := List.mem_map.mp h
  exact ⟨k, hk, e.symm⟩
theorem Rung.clr2 (r : Rung B p ds) (h : B.Ok) : clearsB (B.rung p ds).stands p = true ∧ deal (B.rung p ds).stands p = 0 := by
  have hg := stands_good (r.okk h)
  have f : ∀ w ∈ (B.rung p ds).stands, ∃ k ∈ (B.rung p ds).nums, w.buy = (wAt B.ws k).buy ∧ w.lim = (wAt B.ws k).lim := fun w hw => by
    obtain ⟨k, hk, e⟩ := stands_mem hw
    refine ⟨k, hk, ?_⟩
    rw [e]
    refine ⟨?_, ?_⟩
    · show (wAt (B.rung p ds).ws k).buy = _
      rw [rung_ws]
    · show (wAt (B.rung p ds).ws k).lim = _
      rw [rung_ws]
  have w1 : wantedOf (B.rung p ds).stands (p + 1) = 0 := wanted_none fun w hw hb => by
    obtain ⟨k, hk, e1, e2⟩ := f w hw
    have := (r.quiet1 h hk).1 (by rw [← e1]; exact hb)
    omega
  have o1 : offeredOf (B.rung p ds).stands (p - 1) = 0 := offered_none fun w hw hb => by
    obtain ⟨k, hk, e1, e2⟩ := f w hw
    have := (r.quiet1 h hk).2 (by rw [← e1]; exact hb)
    omega
  have wn := wanted_nn p hg
  have on := offered_nn p hg
  refine ⟨clears_iff.mpr ⟨?_, ?_⟩, ?_⟩
  · exact decide_eq_false (by omega)
  · exact decide_eq_false (by omega)
  · unfold deal
    rcases r.quiet2 h with q | q
    · have : wantedOf (B.rung p ds).stands p = 0 := wanted_none fun w hw hb => by
        obtain ⟨k, hk, e1, e2⟩ := f w hw
        have := q k hk (by rw [← e1]; exact hb)
        omega
      omega
    · have : offeredOf (B.rung p ds).stands p = 0 := offered_none fun w hw hb => by
        obtain ⟨k, hk, e1, e2⟩ := f w hw
        have := q k hk (by rw [← e1]; exact hb)
        omega
      omega
/-- a ring right behind a ring deals nothing, and leaves the price -/
theorem Rung.again (r : Rung B p ds) (h : B.Ok) {q : Int} {es : List Deal} (r2 : Rung (B.rung p ds) q es) : q = p ∧ es = [] := by
  have ok := r.okk h
  have hc := r.clr2 h
  have near := r2.near
  rw [rung_price] at near
  have p01 := r.p01 h
  have e : q = p := (near_all (stands_good ok) p01.1 p01.2 near).2.2.2.2.1 hc.1
  refine ⟨e, ?_⟩
  subst e
  have z : ∀ i, due (B.rung q ds).stands q i = 0 := fun i => by
    unfold due
    rw [hc.2]
    have : 0 ≤ aheadN (B.rung q ds).stands i (B.rung q ds).stands.length := S_nn fun j hj => by
      have := (wAt_good (stands_good ok) hj).a0
      show 0 ≤ (wAt (B.rung q ds).stands j).amt
      omega
    split
    · omega
    · rfl
  match es, r2 with
  | [], _ => rfl
  | d :: es, r2 =>
    have hd := (r2.pr.ok d List.mem_cons_self).b
    rw [dues_at hd.1, z] at hd
    exact absurd hd.2.2 (by decide)
theorem rung_nil : (B.rung p []) = B.to p := rfl
theorem rung_again (r : Rung B p ds) : (B.rung p ds).to p = B.rung p ds := by
  have e := rung_price (B := B) (p := p) (ds := ds)
  generalize B.rung p ds = B' at e
  obtain ⟨pr, ws, lf, pd⟩ := B'
  have e : pr = p := e
  subst e
  rfl
end
/-! ### what was paid -/
def Book.money (B : Book) (n : Nat) : Int := S (fun _ => true) (fun k => if (wAt B.ws k).buy = true then B.pd k else -B.pd k) n
section
variable {B : Book} {p : Int} {ds : List Deal}
theorem money_settle {k : Nat} {m : Int} (h : B.Len) (hk : k < B.n) : (B.settle k m).money B.n = B.money B.n + (if (wAt B.ws k).buy = true then m * B.price else -(m * B.price)) := by
  unfold Book.money
  rw [S_upd (a := fun k => if (wAt B.ws k).buy = true then B.pd k else -B.pd k) (k := k) (z := if (wAt B.ws k).buy = true then m * B.price else -(m * B.price)) fun j hj => ?_, if_pos hk]
  have e : (B.settle k m).pd j = B.pd j + (if k = j then m else 0) * B.price := settle_pd h hk
  show (if (wAt B.ws j).buy = true then (B.settle k m).pd j else -(B.settle k m).pd j) = _
  rw [e]
  by_cases ej : j = k
  · subst ej
    rw [if_pos rfl, if_pos rfl]
    split <;> omega
  · rw [if_neg ej, if_neg (Ne.symm ej), Int.zero_mul]
    split <;> omega
theorem money_deal1 {d : Deal} (h : B.Len) (h1 : d.1 < B.n) (h2 : d.2.1 < B.n) (b1 : (wAt B.ws d.1).buy = true) (b2 : (wAt B.ws d.2.1).buy = false) : (B.deal1 d).money B.n = B.money B.n := by
  unfold Book.deal1
  have e1 := money_settle (m := d.2.2) h h1
  have e2 := money_settle (B := B.settle d.1 d.2.2) (m := d.2.2) h.settle (k := d.2.1) h2
  rw [if_pos b1] at e1
  have b2' : (wAt (B.settle d.1 d.2.2).ws d.2.1).buy = false := b2
  rw [b2', if_neg Bool.false_ne_true] at e2
  have e3 : ((B.settle d.1 d.2.2).settle d.2.1 d.2.2).money B.n = (B.settle d.1 d.2.2).money B.n + -(d.2.2 * B.price) := e2
  omega
theorem money_deals : ∀ (ds : List Deal) {B : Book}, B.Len → (∀ d ∈ ds, d.1 < B.n ∧ d.2.1 < B.n ∧ (wAt B.ws d.1).buy = true ∧ (wAt B.ws d.2.1).buy = false) → (B.deals ds).money B.n = B.money B.n
  | [], _, _, _ => rfl
  | d :: ds, B, h, hd => by
    have h1 := hd d List.mem_cons_self
    have ih := money_deals ds (B := B.deal1 d) h.deal1 fun e he => hd e (List.mem_cons_of_mem _ he)
    have e : (B.deals (d :: ds)).money B.n = (B.deal1 d).money B.n := ih
    rw [e, money_deal1 h h1.1 h1.2.1 h1.2.2.1 h1.2.2.2]
/-- a told deal is of a buyer and a seller that stood and would deal at the price -/
structure Told (B : Book) (p : Int) (d : Deal) : Prop where
  b : d.1 ∈ B.nums ∧ (wAt B.ws d.1).buy = true ∧ p ≤ (wAt B.ws d.1).lim
  s : d.2.1 ∈ B.nums ∧ (wAt B.ws d.2.1).buy = false ∧ (wAt B.ws d.2.1).lim ≤ p
  m : 1 ≤ d.2.2
theorem Rung.told (r : Rung B p ds) {d : Deal} (hd : d ∈ B.told ds) : Told B p d := by
  obtain ⟨e, he, rfl⟩ := told_mem hd
  have o := r.pr.ok e he
  have ix := r.ix e he
  have el : ∀ i, i < B.nums.length → 0 < (dues B.stands p).getD i 0 → elig p (B.wl (B.num i)) = true := fun i hi h => by
    rw [dues_at (by rw [stands_len]; exact hi)] at h
    cases z : elig p (wAt B.stands i) with
    | true => rw [← stands_at hi]; exact z
    | false =>
      rw [due_worse z] at h
      exact absurd h (by decide)
  have b1 : (wAt B.ws (B.num e.1)).buy = true := by
    have := o.b.2.1
    rw [stands_at ix.1] at this
    exact this
  have b2 : (wAt B.ws (B.num e.2.1)).buy = false := by
    have := o.s.2.1
    rw [stands_at ix.2] at this
    exact this
  have e1 := el e.1 ix.1 o.b.2.2
  have e2 := el e.2.1 ix.2 o.s.2.2
  unfold elig at e1 e2
  rw [show (B.wl (B.num e.1)).buy = true from b1, if_pos rfl] at e1
  rw [show (B.wl (B.num e.2.1)).buy = false from b2, if_neg Bool.false_ne_true] at e2
  exact ⟨⟨num_mem ix.1, b1, of_decide_eq_true e1⟩, ⟨num_mem ix.2, b2, of_decide_eq_true e2⟩, o.m⟩
theorem Rung.money (r : Rung B p ds) (h : B.Ok) : (B.rung p ds).money B.n = B.money B.n :=
  money_deals (B.told ds) (B := B.to p) (Book.to_len h.len) fun d hd => ⟨(r.lt d hd).1, (r.lt d hd).2, (r.told hd).b.2.1, (r.told hd).s.2.1⟩
theorem money_add {w : Wish} (h : B.Len) : (B.add w).money (B.add w).n = B.money B.n := by
  have hn : (B.add w).n = B.n + 1 := by show (B.ws ++ [w]).length = _; rw [List.length_append]; rfl
  rw [hn]
  unfold Book.money
  rw [S_succ, if_pos rfl]
  have e0 : (B.add w).pd B.n = 0 := getD_app_at h.d
  rw [e0]
  have e1 : S (fun _ => true) (fun k => if (wAt (B.add w).ws k).buy = true then (B.add w).pd k else -(B.add w).pd k) B.n = S (fun _ => true) (fun k => if (wAt B.ws k).buy = true then B.pd k else -B.pd k) B.n := by
    refine S_congr fun j hj => ⟨rfl, fun _ => ?_⟩
    have x1 : wAt (B.ws ++ [w]) j = wAt B.ws j := by
      unfold wAt
      rw [List.getD_eq_getElem?_getD, List.getD_eq_getElem?_getD, List.getElem?_append_left (show j < B.ws.length from hj)]
    have x2 : (B.add w).pd j = B.pd j := getD_app_lt (by rw [h.d]; exact hj)
    show (if (wAt (B.ws ++ [w]) j).buy = true then (B.add w).pd j else -(B.add w).pd j) = _
    rw [x1, x2]
  rw [e1]
  split <;> omega
/-! ### the deals rise -/
theorem Rung.rise (r : Rung B p ds) : (B.told ds).Pairwise Rise := by
  unfold Book.told
  rw [List.pairwise_map]
  refine (List.Pairwise.and_mem.mp r.pr.ris).imp fun {d e} h => ?_
  obtain ⟨hd, he, r1, r2, r3⟩ := h
  have x := r.ix d hd
  have y := r.ix e he
  have mono : ∀ {i j : Nat}, i < B.nums.length → j < B.nums.length → i ≤ j → B.num i ≤ B.num j := fun {i j} hi hj hij => by
    by_cases z : i = j
    · rw [z]; exact Nat.le_refl _
    · exact Nat.le_of_lt (num_mono hi hj (by omega))
  refine ⟨mono x.1 y.1 r1, mono x.2 y.2 r2, ?_⟩
  rcases r3 with z | z
  · exact .inl (num_mono x.1 y.1 z)
  · exact .inr (num_mono x.2 y.2 z)
end
/-! ### sorted pairs are one -/
theorem plt_asym {p q : Int × Int} (h : PLt p q) (k : PLt q p) : False := by
  unfold PLt at h k
  omega
theorem srt_ext : ∀ {l m : List (Int × Int)}, l.Pairwise PLt → m.Pairwise PLt → (∀ x, x ∈ l ↔ x ∈ m) → l = m
  | [], [], _, _, _ => rfl
  | [], y :: m, _, _, h => absurd ((h y).mpr List.mem_cons_self) (List.not_mem_nil)
  | x :: l, [], _, _, h => absurd ((h x).mp List.mem_cons_self) (List.not_mem_nil)
  | x :: l, y :: m, hl, hm, h => by
    have l1 := List.pairwise_cons.mp hl
    have m1 := List.pairwise_cons.mp hm
    have e : x = y := by
      rcases List.mem_cons.mp ((h x).mp List.mem_cons_self) with e | e
      · exact e
      · rcases List.mem_cons.mp ((h y).mpr List.mem_cons_self) with e2 | e2
        · exact e2.symm
        · exact (plt_asym (m1.1 x e) (l1.1 y e2)).elim
    subst e
    have no : ∀ {k : List (Int × Int)}, (∀ z ∈ k, PLt x z) → x ∉ k := fun hk m => plt_asym (hk x m) (hk x m)
    rw [srt_ext l1.2 m1.2 fun z => ⟨fun hz => ?_, fun hz => ?_⟩]
    · rcases List.mem_cons.mp ((h z).mp (List.mem_cons_of_mem _ hz)) with e | e
      · exact absurd (e ▸ hz) (no l1.1)
      · exact e
    · rcases List.mem_cons.mp ((h z).mpr (List.mem_cons_of_mem _ hz)) with e | e
      · exact absurd (e ▸ hz) (no m1.1)
      · exact e
/-- who got how much, of one side, by the book's numbers -/
def tgt (B : Book) (p : Int) (b : Bool) : List (Int × Int) := (kept (fun i => decide ((wAt B.stands i).buy = b) && decide (0 < due B.stands p i)) B.stands.length).map fun i => ((B.num i : Int), due B.stands p i)
section
variable {B : Book} {p : Int} {ds : List Deal} {b : Bool}
theorem tgt_mem {x : Int × Int} : x ∈ tgt B p b ↔ ∃ i, i < B.nums.length ∧ (wAt B.stands i).buy = b ∧ 0 < due B.stands p i ∧ x = ((B.num i : Int), due B.stands p i) := by
  unfold tgt kept
  rw [List.mem_map, stands_len]
  refine ⟨fun ⟨i, hi, e⟩ => ?_, fun ⟨i, hi, h1, h2, e⟩ => ⟨i, List.mem_filter.mpr ⟨List.mem_range.mpr hi, Bool.and_eq_true_iff.mpr ⟨decide_eq_true h1, decide_eq_true h2⟩⟩, e.symm⟩⟩
  obtain ⟨h1, h2⟩ := List.mem_filter.mp hi
  have h3 := Bool.and_eq_true_iff.mp h2
  exact ⟨i, List.mem_range.mp h1, of_decide_eq_true h3.1, of_decide_eq_true h3.2, e.symm⟩
theorem tgt_srt : (tgt B p b).Pairwise PLt := by
  unfold tgt
  rw [List.pairwise_map]
  have h1 : (kept (fun i => decide ((wAt B.stands i).buy = b) && decide (0 < due B.stands p i)) B.stands.length).Pairwise (· < ·) := List.pairwise_lt_range.filter _
  refine (List.Pairwise.and_mem.mp h1).imp fun {i j} h => .inl ?_
  obtain ⟨hi, hj, hij⟩ := h
  have hi := (kept_lt hi).1
  have hj := (kept_lt hj).1
  rw [stands_len] at hi hj
  have := num_mono hi hj hij
  show (B.num i : Int) < (B.num j : Int)
  omega
theorem tgt_nodup : (tgt B p b).Nodup := tgt_srt.imp fun {x y} h e => by subst e; exact plt_asym h h
/-! ### by the deals -/
def pick (b : Bool) (d : Deal) : Nat := if b = true then d.1 else d.2.1
def gotAt (b : Bool) (ds : List Deal) (k : Nat) : Int := (ds.map fun d => if pick b d = k then d.2.2 else 0).sum
theorem gotAt_snoc {d : Deal} {k : Nat} : gotAt b (ds ++ [d]) k = gotAt b ds k + (if pick b d = k then d.2.2 else 0) := by
  unfold gotAt
  rw [List.map_append, List.sum_append]
  simp
theorem gotAt_off {k : Nat} : ∀ {ds : List Deal}, (∀ d ∈ ds, pick b d ≠ k) → gotAt b ds k = 0
  | [], _ => rfl
  | d :: ds, h => by
    unfold gotAt
    rw [List.map_cons, List.sum_cons, if_neg (h d List.mem_cons_self), Int.zero_add]
    exact gotAt_off fun e he => h e (List.mem_cons_of_mem _ he)
theorem got_two {k : Nat} : ∀ {ds : List Deal}, got ds k = gotAt true ds k + gotAt false ds k
  | [] => rfl
  | d :: ds => by
    have ih := got_two (k := k) (ds := ds)
    unfold got gotAt at ih ⊢
    rw [List.map_cons, List.map_cons, List.map_cons, List.sum_cons, List.sum_cons, List.sum_cons, ih]
    show (if d.1 = k then d.2.2 else 0) + (if d.2.1 = k then d.2.2 else 0) + _ = (if d.1 = k then d.2.2 else 0) + _ + ((if d.2.1 = k then d.2.2 else 0) + _)
    omega
theorem pick_ren {e : Deal} : pick b (B.ren e) = B.num (pick b e) := by cases b <;> rfl
theorem Rung.pickOk (r : Rung B p ds) {e : Deal} (he : e ∈ ds) : pick b e < B.nums.length ∧ (wAt B.stands (pick b e)).buy = b ∧ 0 < due B.stands p (pick b e) := by
  have o := r.pr.ok e he
  have ix := r.ix e he
  cases b with
  | true =>
    have := o.b.2.2
    rw [dues_at o.b.1] at this
    exact ⟨ix.1, o.b.2.1, this⟩
  | false =>
    have := o.s.2.2
    rw [dues_at o.s.1] at this
    exact ⟨ix.2, o.s.2.1, this⟩
/-- what a wish of a side got by the deals -/
theorem Rung.gotAt (r : Rung B p ds) {i : Nat} (hi : i < B.nums.length) (hb : (wAt B.stands i).buy = b) : My.gotAt b (B.told ds) (B.num i) = due B.stands p i := by
  have e1 := r.got i hi
  rw [got_two] at e1
  have off : My.gotAt (!b) (B.told ds) (B.num i) = 0 := gotAt_off fun d hd e => by
    obtain ⟨e', he', rfl⟩ := told_mem hd
    rw [pick_ren] at e
    have o := r.pickOk (b := !b) he'
    have e2 := num_inj o.1 hi e
    rw [e2, hb] at o
    exact absurd o.2.1 (by cases b <;> decide)
  cases b with
  | true =>
    have off : My.gotAt false (B.told ds) (B.num i) = 0 := off
    omega
  | false =>
    have off : My.gotAt true (B.told ds) (B.num i) = 0 := off
    omega
/-- .. of all, once sorted -/
theorem Rung.tgt_of (r : Rung B p ds) {ks : List Nat} (hk : ∀ k, k ∈ ks ↔ ∃ d ∈ B.told ds, pick b d = k) {rs : List (Int × Int)} (hp : rs.Perm (ks.map fun (k : Nat) => ((k : Int), My.gotAt b (B.told ds) k))) (hs : rs.Pairwise PLt) : rs = tgt B p b := by
  refine srt_ext hs tgt_srt fun x => ?_
  rw [hp.mem_iff, tgt_mem, List.mem_map]
  refine ⟨fun ⟨k, hkm, e⟩ => ?_, fun ⟨i, hi, hb, hd, e⟩ => ?_⟩
  · obtain ⟨d, hd, rfl⟩ := (hk k).mp hkm
    obtain ⟨e', he', rfl⟩ := told_mem hd
    have o := r.pickOk (b := b) he'
    refine ⟨pick b e', o.1, o.2.1, o.2.2, ?_⟩
    rw [← e, pick_ren, r.gotAt o.1 o.2.1]
  · refine ⟨B.num i, (hk _).mpr ?_, by rw [e, r.gotAt hi hb]⟩
    have g := r.gotAt hi hb
    refine Classical.byContradiction fun no => ?_
    have : My.gotAt b (B.told ds) (B.num i) = 0 := gotAt_off fun d hd e2 => no ⟨d, hd, e2⟩
    omega
/-- .. by the turns -/
theorem tgt_turn {ms : List Nat} (t : Turn B.stands b p ms) {rs : List (Int × Int)} (hp : ∀ x, x ∈ rs ↔ ∃ m ∈ ms, 0 < due B.stands p m ∧ x = ((B.num m : Int), due B.stands p m)) (hs : rs.Pairwise PLt) : rs = tgt B p b := by
  refine srt_ext hs tgt_srt fun x => ?_
  rw [hp, tgt_mem]
  refine ⟨fun ⟨m, hm, hd, e⟩ => ?_, fun ⟨i, hi, hb, hd, e⟩ => ⟨i, t.has (by rw [stands_len]; exact hi) ?_, hd, e⟩⟩
  · have := t.mem hm
    rw [stands_len] at this
    refine ⟨m, this.1, ?_, hd, e⟩
    have h2 := this.2
    unfold inB at h2
    exact of_decide_eq_true (Bool.and_eq_true_iff.mp h2).1
  · unfold inB
    rw [decide_eq_true hb, Bool.true_and]
    cases z : elig p (wAt B.stands i) with
    | true => rfl
    | false =>
      rw [due_worse z] at hd
      exact absurd hd (by decide)
end
end My

set_option Elab.async false
set_option linter.all false
set_option maxRecDepth 100000
set_option maxHeartbeats 400000
/-! Rows that stand, dicts of them, lists of pairs: what the law of rings asks of them. -/
namespace My
open PySem PySem.Spec PyProof.Rows L2
/-! ### rows -/
def RL (H : Hp) (rl : Addr) (B : Book) : Prop := ∃ ys, H rl = some (.lst ys) ∧ Rows' H B ys
theorem RL.tq {K : PySem.W.Frag} {H H' : Hp} {rl : Addr} {B : Book} (t : Tq K H H') (e : ∀ xs, H rl = some (.lst xs) → H' rl = some (.lst xs)) (h : RL H rl B) : RL H' rl B := let ⟨ys, h1, h2⟩ := h; ⟨ys, e _ h1, h2.tq t⟩
theorem RL.sm {H H' : Hp} {rl : Addr} {B : Book} (S : Sm H H') (h : RL H rl B) : RL H' rl B := by
  obtain ⟨ys, h1, h2⟩ := h
  exact ⟨ys, S.lst h1, Paired.mapR (fun _ _ ⟨t, z, e, a, b⟩ => ⟨t, z, e, S.tup a, S.tup b⟩) h2⟩
theorem RL.at {H : Hp} {B : Book} {ys : List V} {i : Nat} {x : V} (h : Rows' H B ys) (hx : ys[i]? = some x) : i < B.nums.length ∧ ∃ t z, x = .ref t ∧ H t = some (.tup [.int ((B.num i : Nat) : Int), .ref z]) ∧ H z = some (.tup (wAt B.stands i).row) ∧ B.stands[i]? = some (wAt B.stands i) := by
  obtain ⟨k, hk, t, z, e, h1, h2⟩ := paired_get h hx
  have hi := (List.getElem?_eq_some_iff.mp hk).1
  have hk2 := num_get hi
  rw [hk] at hk2
  have hk3 := Option.some.inj hk2
  subst hk3
  exact ⟨hi, t, z, e, h1, by rw [stands_at hi]; exact h2, wAt_get (by rw [stands_len]; exact hi)⟩
theorem Rows'.len {H : Hp} {B : Book} {ys : List V} (h : Rows' H B ys) : ys.length = B.nums.length := (Paired.length h).symm
section
variable {σ : L2.St} {H : Hp} {K : PySem.W.Frag} {ta tb : TE} {t z : Addr} {n : Int} {w : Wish} {v : V} {i : Int}
/-- row[1][i] -/
theorem ev_part2 (ha : Ev ta σ H (.ref t)) (h1 : H t = some (.tup [.int n, .ref z])) (h2 : H z = some (.tup w.row)) (hv : atI w.row i = some v) : Ev (tOp (rIxT K) (tOp (rIxT K) ta (tC (.int 1))) (tC (.int i))) σ H v :=
  ev_ixT (ev_ixT (v := .ref z) ha ev_c (.inl (.inl h1)) rfl) ev_c (.inl (.inl h2)) hv
end
/-! ### two ways of a value that changes the heap -/
section
variable {σ : L2.St} {H : Hp} {ta tb tc to ti : TE} {t : TA} {D : Ends} {s u : TS} {K : PySem.W.Frag} {C p dx : Addr} {m : Str} {sp : Sp} {E : L2.St → XK} {vs : List V} {fs : List (Str × V)} {r : R2}
theorem q_ifM (ho : Ev ta σ H (.ref p)) (hp : H p = some (.ins C dx fs)) (hm : fs.lookup m = none) (ha : EvL t σ H vs)
    (h : ∀ H1, Sm H H1 → ∀ Q : VK, (∀ v H2, (tb σ H2 fun y H3 => r v y H3 fun z H4 => ∃ b, z = .bl b ∧ (if b = true then s D σ H4 else u D σ H4)) → Q v H2) → sp (.ref p :: vs) H1 Q (E σ)) :
    tIfS (tTest (tOp r (L2H.tMethH C m sp E ta t) tb)) s u D σ H := meth_of ho hp hm ha fun H1 S1 => h H1 S1 _ fun _ _ z => z
theorem q_retAndM (ho : Ev ta σ H (.ref p)) (hp : H p = some (.ins C dx fs)) (hm : fs.lookup m = none) (ha : EvL t σ H vs)
    (h : ∀ H1, Sm H H1 → ∀ Q : VK, (∀ v H2, (tb σ H2 fun y H3 => r v y H3 fun z H4 => ∃ b, z = .bl b ∧ (if b = true then tc σ H4 D.rt else D.rt (.bl false) H4)) → Q v H2) → sp (.ref p :: vs) H1 Q (E σ)) :
    tRet (tAndV (tOp r (L2H.tMethH C m sp E ta t) tb) tc) D σ H := meth_of ho hp hm ha fun H1 S1 => h H1 S1 _ fun _ _ z => z
/-- xs[i] = e + o.m(..) -/
theorem q_putM {te : TE} {x : V} {g : TG} (hx : Ev te σ H x) (ho : Ev ta σ H (.ref p)) (hp : H p = some (.ins C dx fs)) (hm : fs.lookup m = none) (ha : EvL t σ H vs)
    (h : ∀ H1, Sm H H1 → ∀ Q : VK, (∀ v H2, (r x v H2 fun z H4 => g z σ H4 D.nx) → Q v H2) → sp (.ref p :: vs) H1 Q (E σ)) :
    tAsg (tOp r te (L2H.tMethH C m sp E ta t)) g D σ H := hx H (Sm.refl _) _ fun H1 S1 => meth_of (ho.mono S1) (S1.at hp fun _ z => by cases z) hm (fun H2 S2 => ha H2 (S1.trans S2)) fun H2 S2 => h H2 (S1.trans S2) _ fun _ _ z => z
/-- o[i] = v, the store alone -/
theorem st_put {l : Addr} {xs : List V} {i : Int} {j : Nat} {y : V} (ho : Ev to σ H (.ref l)) (hi : Ev ti σ H (.int i)) (hl : H l = some (.lst xs)) (hj : ixN xs.length i = some j) (k : ∀ H2, Sm H H2 → H2 l = some (.lst xs) → D.nx σ (upd H2 l (.lst (xs.set j y)))) : gSub to ti rSetL y σ H D.nx :=
  ho H (Sm.refl _) _ fun H2 S2 => hi H2 S2 _ fun H3 S3 => ⟨l, xs, i, j, rfl, rfl, (S2.trans S3).lst hl, hj, k H3 (S2.trans S3) ((S2.trans S3).lst hl)⟩
end
/-- for k in range(lo, hi) -/
theorem q_forR2 {σ : L2.St} {H : Hp} {D : Ends} {ta : TA} {tb : TS} {k : Nat} {lo hi : Int} (Pv : Nat → L2.St → Hp → Prop) (h : EvL ta σ H [.int lo, .int hi]) (hl : -(2 ^ 62) ≤ lo ∧ lo < 2 ^ 62) (hh : -(2 ^ 62) ≤ hi ∧ hi < 2 ^ 62) (h0 : ∀ H', Sm H H' → Pv 0 σ H')
    (hs : ∀ i σ' H', i < (hi - lo).toNat → Pv i σ' H' → tb { D with nx := Pv (i + 1), ct := Pv (i + 1), bk := D.nx } (σ'.set k (some (.int (lo + i)))) H') (hd : ∀ σ' H', Pv (hi - lo).toNat σ' H' → D.nx σ' H') : tFor (iRng2 ta) (gName k) tb D σ H :=
  h H (Sm.refl _) _ fun us H2 S2 p => ⟨lo, hi, p, ⟨hl.1, hl.2, hh.1, hh.2⟩, for_range (lo := lo) (n := (hi - lo).toNat) Pv (h0 H2 S2) hs hd⟩
/-! ### dicts -/
/-- a dict whose keys are numbers, f k the value of k -/
abbrev dkv (ks : List Nat) (f : Nat → V) : List (Key × V) := ks.map fun k => ((Sum.inl ((k : Nat) : Int) : Key), f k)
theorem dkv_get {ks : List Nat} {f : Nat → V} {k : Nat} : valV (dkv ks f) (Sum.inl (k : Int)) = if k ∈ ks then some (f k) else none := by
  induction ks with
  | nil => rfl
  | cons j ks ih =>
    by_cases e : j = k
    · subst e
      rw [if_pos List.mem_cons_self]
      exact valV_pos rfl
    · have hne : ¬ ((Sum.inl ((j : Nat) : Int) : Key) = Sum.inl ((k : Nat) : Int)) := fun z => e (by have := Sum.inl.inj z; omega)
      have e2 : valV (dkv (j :: ks) f) (Sum.inl (k : Int)) = valV (dkv ks f) (Sum.inl (k : Int)) := by
        unfold valV
        show Option.map _ (List.find? _ (((Sum.inl ((j : Nat) : Int) : Key), f j) :: dkv ks f)) = _
        rw [List.find?_cons_of_neg (by rw [decide_eq_true_iff]; exact hne)]
      rw [e2, ih]
      by_cases hm : k ∈ ks
      · rw [if_pos hm, if_pos (List.mem_cons_of_mem _ hm)]
      · rw [if_neg hm, if_neg (fun z => (List.mem_cons.mp z).elim (fun y => e y.symm) hm)]
theorem dkv_put {ks : List Nat} {f : Nat → V} {k : Nat} {v : V} : putK (dkv ks f) (Sum.inl (k : Int)) v = dkv (if k ∈ ks then ks else ks ++ [k]) (fun j => if j = k then v else f j) := by
  have hany : ((dkv ks f).any fun kv => decide (kv.1 = Sum.inl ((k : Nat) : Int))) = decide (k ∈ ks) := by
    rw [List.any_map]
    induction ks with
    | nil => rfl
    | cons j ks ih =>
      rw [List.any_cons, ih]
      by_cases e : j = k
      · subst e; simp
      · have h1 : ¬ k = j := fun z => e z.symm
        have h2 : ¬ ((j : Int) = (k : Int)) := fun z => e (by omega)
        simp [h1, h2]
  unfold putK
  rw [hany]
  by_cases hm : k ∈ ks
  · rw [decide_eq_true hm, if_pos rfl, if_pos hm]
    unfold dkv
    rw [List.map_map]
    refine List.map_congr_left fun j _ => ?_
    by_cases e : j = k
    · subst e; simp
    · have : ¬ ((j : Int) = (k : Int)) := fun z => e (by omega)
      simp [e, this]
  · rw [decide_eq_false hm, if_neg Bool.false_ne_true, if_neg hm]
    unfold dkv
    rw [List.map_append]
    congr 1
    · refine List.map_congr_left fun j hj => ?_
      dsimp only
      rw [if_neg (fun e : j = k => hm (by rw [← e]; exact hj))]
    · simp
theorem dkv_merge {f : Nat → V} : ∀ (more ks : List Nat), (ks ++ more).Nodup → mergeK (dkv ks f) (dkv more f) = dkv (ks ++ more) f
  | [], ks, _ => by rw [List.append_nil]; rfl
  | k :: more, ks, h => by
    have hk : k ∉ ks := fun m => by
      have := (List.nodup_append.mp h).2.2 k m k List.mem_cons_self
      exact this rfl
    have e : mergeK (dkv ks f) (dkv (k :: more) f) = mergeK (putK (dkv ks f) (Sum.inl (k : Int)) (f k)) (dkv more f) := rfl
    rw [e, dkv_put, if_neg hk]
    have e2 : (fun j => if j = k then f k else f j) = f := by
      funext j
      split
      · rename_i z; rw [z]
      · rfl
    rw [e2, dkv_merge more (ks ++ [k]) (by rw [List.append_assoc]; exact h), List.append_assoc]
    rfl
section
variable {σ : L2.St} {H : Hp} {K : PySem.W.Frag} {td ty tx tv : TE} {D : Ends} {d : Addr} {ks : List Nat} {f : Nat → V} {k : Nat} {v : V}
theorem ev_dget (hd : Ev td σ H (.ref d)) (hy : Ev ty σ H (.int (k : Int))) (h : H d = some (.dK (dkv ks f))) (hk : k ∈ ks) : Ev (tDGet td ty) σ H (f k) := fun H1 S Q q =>
  hd H1 S _ fun H2 S2 => hy H2 (S.trans S2) _ fun H3 S3 => ⟨d, f k, rfl, by
    have e := DGet.k (k := Sum.inl (k : Int)) ((S.trans (S2.trans S3)).at h fun _ z => by cases z)
    rw [dkv_get, if_pos hk] at e
    exact e, q H3 (S2.trans S3)⟩
theorem evt_dnotin (hd : Ev td σ H (.ref d)) (hy : Ev ty σ H (.int (k : Int))) (h : H d = some (.dK (dkv ks f))) (hk : k ∈ ks) : EvT (tB (tDNotIn ty td)) σ H false := fun H1 S Q q =>
  hy H1 S _ fun H2 S2 => hd H2 (S.trans S2) _ fun H3 S3 => ⟨d, some (f k), rfl, by
    have e := DGet.k (k := Sum.inl (k : Int)) ((S.trans (S2.trans S3)).at h fun _ z => by cases z)
    rw [dkv_get, if_pos hk] at e
    exact e, false, rfl, q H3 (S2.trans S3)⟩
/-- d.get(k, x) -/
theorem ev_dget2 (hd : Ev td σ H (.ref d)) (hy : Ev ty σ H (.int (k : Int))) (hx : Ev tx σ H v) (h : H d = some (.dK (dkv ks f))) : Ev (tDGet2 td ty tx) σ H (if k ∈ ks then f k else v) := fun H1 S Q q =>
  hd H1 S _ fun H2 S2 => ⟨d, rfl, .inl ⟨_, .inl ((S.trans S2).at h fun _ z => by cases z)⟩, hy H2 (S.trans S2) _ fun H3 S3 => hx H3 (S.trans (S2.trans S3)) _ fun H4 S4 => ⟨_, DGet.k (k := Sum.inl (k : Int)) ((S.trans (S2.trans (S3.trans S4))).at h fun _ z => by cases z), by
    rw [dkv_get]
    have q4 := q H4 (S2.trans (S3.trans S4))
    by_cases hk : k ∈ ks
    · rw [if_pos hk] at q4 ⊢; exact q4
    · rw [if_neg hk] at q4 ⊢; exact q4⟩⟩
/-- d[k] = v -/
theorem q_dput (hv : Ev tv σ H v) (hd : Ev td σ H (.ref d)) (hy : Ev ty σ H (.int (k : Int))) (h : H d = some (.dK (dkv ks f))) (hz : ks.length < sizeLine)
    (q : ∀ H', Sm H H' → H' d = some (.dK (dkv ks f)) → D.nx σ (upd H' d (.dK (dkv (if k ∈ ks then ks else ks ++ [k]) (fun j => if j = k then v else f j))))) : sDPut td ty tv D σ H :=
  hv H (Sm.refl _) _ fun H1 S1 => hd H1 S1 _ fun H2 S2 => hy H2 (S1.trans S2) _ fun H3 S3 => ⟨d, _, rfl, DPut.k (k := Sum.inl (k : Int)) ((S1.trans (S2.trans S3)).at h fun _ z => by cases z) (by rw [List.length_map]; exact hz), by
    rw [dkv_put]
    exact q H3 (S1.trans (S2.trans S3)) ((S1.trans (S2.trans S3)).at h fun _ z => by cases z)⟩
/-- dict(rows) -/
theorem evp_dictRows {B : Book} {rl : Addr} (ha : Ev td σ H (.ref rl)) (hr : RL H rl B) :
    EvP (tCB (fun xs H Q => ∃ (a : Addr) (ps : List Addr) (kvs : List (Key × V)), xs = [.ref a] ∧ SqL K H a (ps.map V.ref) ∧ Paired (fun p kv => SqT K H p [kV kv.1, kv.2]) ps kvs ∧ ∀ p, H p = none → Q (.ref p) (upd H p (.dK (mergeK [] kvs)))) (tCons td tNil)) σ H
      fun u H' => ∃ (d : Addr) (f : Nat → V), u = .ref d ∧ H d = none ∧ H' d = some (.dK (dkv B.nums f)) ∧ ∀ k ∈ B.nums, ∃ z, f k = .ref z ∧ H' z = some (.tup (B.wl k).row) :=
  evp_cb (evl_cons ha evl_nil) fun H1 S Q q => by
    obtain ⟨ys, h1, h2⟩ := hr.sm S
    -- the pairs' addresses, and the wishes'
    have key : ∀ {ks : List Nat} {ys : List V}, ks.Nodup → Paired (RowAt H1 B) ks ys → ∃ (ps : List Addr) (f : Nat → V), ys = ps.map V.ref ∧ Paired (fun p kv => SqT K H1 p [kV kv.1, kv.2]) ps (dkv ks f) ∧ ∀ k ∈ ks, ∃ z, f k = .ref z ∧ H1 z = some (.tup (B.wl k).row) := by
      intro ks ys nd hp
      induction hp with
      | nil => exact ⟨[], fun _ => .non, rfl, .nil, fun k h => nomatch h⟩
      | cons r _ ih =>
        rename_i k y ks ys _
        obtain ⟨t, z, e, ht, hz⟩ := r
        obtain ⟨nk, nd'⟩ := List.nodup_cons.mp nd
        obtain ⟨ps, f, e1, e2, e3⟩ := ih nd'
        refine ⟨t :: ps, fun j => if j = k then .ref z else f j, by rw [List.map_cons, e, e1], ?_, fun j hj => ?_⟩
        · have ef : dkv (k :: ks) (fun j => if j = k then V.ref z else f j) = ((Sum.inl (k : Int) : Key), V.ref z) :: dkv ks f := by
            unfold dkv
            rw [List.map_cons]
            dsimp only
            rw [if_pos rfl]
            congr 1
            refine List.map_congr_left fun j hj => ?_
            rw [if_neg (fun e : j = k => nk (by rw [← e]; exact hj))]
          rw [ef]
          exact .cons (.inl (.inl ht)) e2
        · by_cases e : j = k
          · subst e
            exact ⟨z, if_pos rfl, hz⟩
          · obtain ⟨z', e4, e5⟩ := e3 j ((List.mem_cons.mp hj).elim (fun y => absurd y e) id)
            exact ⟨z', by dsimp only; rw [if_neg e]; exact e4, e5⟩
    obtain ⟨ps, f, e1, e2, e3⟩ := key nums_nd h2
    refine ⟨rl, ps, dkv B.nums f, rfl, .inl (.inl (by rw [← e1]; exact h1)), e2, fun p np => q _ _ (Sm.new np) ⟨p, f, rfl, S.free np, ?_, fun k hk => ?_⟩⟩
    · have em : mergeK [] (dkv B.nums f) = dkv B.nums f := dkv_merge (f := f) B.nums [] nums_nd
      rw [upd_same, em]
    · obtain ⟨z, e4, e5⟩ := e3 k hk
      exact ⟨z, e4, by rw [upd_ne (ne_of_none e5 np)]; exact e5⟩
/-- sorted(list(d.items())), numbers -/
theorem evp_items {f : Nat → Int} (hd : Ev td σ H (.ref d)) (h : H d = some (.dK (dkv ks fun k => .int (f k)))) : EvP (LiI.tListItems td) σ H fun u H' => ∃ a xs, u = .ref a ∧ H' a = some (.lst xs) ∧ Paired (PairsAt H') (ks.map fun (k : Nat) => ((k : Int), f k)) xs := fun H1 S Q q =>
  hd H1 S _ fun H2 S2 => ⟨d, _, rfl, (S.trans S2).at h (fun _ z => by cases z), fun H' p ts keep hp ht hpt hl hpr => q _ _ (S2.trans fun b o e => .inl (keep b o e)) ⟨p, ts.map V.ref, rfl, hl, by
    have key : ∀ {ks : List Nat} {ts : List Addr}, Paired (fun (t : Addr) (q : Key × V) => H' t = some (.tup [kV q.1, q.2])) ts (dkv ks fun k => .int (f k)) → Paired (PairsAt H') (ks.map fun (k : Nat) => ((k : Int), f k)) (ts.map V.ref) := by
      intro ks
      induction ks with
      | nil => intro ts h; cases h; exact .nil
      | cons k ks ih =>
        intro ts h
        cases h with
        | cons r rr => exact .cons ⟨_, rfl, r⟩ (ih rr)
    exact key hpr⟩⟩
end
/-! ### pairs, as data -/
def pairD (q : Int × Int) : PyData := .tuple [.int q.1, .int q.2]
theorem dpPairs {K : PySem.W.Frag} {H : Hp} : ∀ {qs : List (Int × Int)} {ys : List V}, Paired (PairsAt H) qs ys → DpAll K H ys (qs.map pairD)
  | _, _, .nil => .nil
  | _, _, .cons ⟨t, e, h⟩ r => by
    refine .cons ?_ (dpPairs r)
    rw [e]
    exact .tup (.inl (.inl h)) (dp_ints [_, _])
theorem canLay_pairs : ∀ qs : List (Int × Int), PyData.canLayAll0 (qs.map pairD) = true
  | [] => by simp [PyData.canLayAll0]
  | q :: qs => by simp [PyData.canLayAll0, PyData.canLay0, canLay_pairs qs, pairD]
theorem depth_pairs : ∀ qs : List (Int × Int), PyData.depthAll (qs.map pairD) ≤ 1
  | [] => by simp [PyData.depthAll]
  | q :: qs => by
    have h := depth_pairs qs
    simp only [List.map_cons, PyData.depthAll, pairD, PyData.depth] at h ⊢
    omega
theorem shaped_pairs (qs : List (Int × Int)) : SeqAt.shaped (.list (qs.map pairD)) = true := by
  have h := depth_pairs qs
  unfold SeqAt.shaped
  rw [Bool.and_eq_true, decide_eq_true_eq]
  refine ⟨by simp only [PyData.canLay0, canLay_pairs], ?_⟩
  simp only [PyData.depth]
  omega
/-! ### sorted triples: the turns -/
theorem srt3_turn {B : Book} {b : Bool} {p : Int} {rs : List (Int × Int × Int)} (hp : rs.Perm ((kept (inB B.stands b p) B.stands.length).map fun i => (rankOf (wAt B.stands i), ((B.num i : Nat) : Int), amtAt B.stands i))) (hs : rs.Pairwise fun x y => lex3 y x = false) :
    ∃ ms, Turn B.stands b p ms ∧ rs = ms.map fun i => (rankOf (wAt B.stands i), ((B.num i : Nat) : Int), amtAt B.stands i) := by
  -- the rearrangement of the indices
  have key : ∀ {α β : Type} {f : α → β} {l : List α} {rs : List β}, rs.Perm (l.map f) → ∃ ms : List α, ms.Perm l ∧ rs = ms.map f := by
    intro α β f l rs h
    generalize hm : l.map f = m at h
    induction h generalizing l with
    | nil => exact ⟨l, List.Perm.refl _, by rw [← hm]⟩
    | cons x _ ih =>
      cases l with
      | nil => cases hm
      | cons y l =>
        rw [List.map_cons] at hm
        injection hm with h1 h2
        obtain ⟨ms, e1, e2⟩ := ih h2
        exact ⟨y :: ms, e1.cons y, by rw [List.map_cons, h1, e2]⟩
    | swap x y l' =>
      match l, hm with
      | [], hm => cases hm
      | [_], hm => cases hm
      | u :: v :: l, hm =>
        rw [List.map_cons, List.map_cons] at hm
        injection hm with h1 h2
        injection h2 with h2 h3
        exact ⟨v :: u :: l, List.Perm.swap _ _ _, by rw [List.map_cons, List.map_cons, h1, h2, h3]⟩
    | trans _ _ ih1 ih2 =>
      obtain ⟨ms, e1, e2⟩ := ih2 hm
      obtain ⟨ms', e3, e4⟩ := ih1 e2.symm
      exact ⟨ms', e3.trans e1, e4⟩
  obtain ⟨ms, e1, e2⟩ := key hp
  refine ⟨ms, ⟨e1, ?_⟩, e2⟩
  rw [e2, List.pairwise_map] at hs
  have nd : ms.Nodup := e1.nodup_iff.mpr (List.nodup_range.filter _)
  refine (List.Pairwise.and_mem.mp (hs.and nd)).imp fun {i j} h => ?_
  obtain ⟨hi, hj, h1, hne⟩ := h
  have li := (kept_lt (e1.mem_iff.mp hi)).1
  have lj := (kept_lt (e1.mem_iff.mp hj)).1
  rw [stands_len] at li lj
  have h2 := lex3_no.mp h1
  have hlt : ¬ B.num j < B.num i → i < j := fun h => by
    rcases Nat.lt_trichotomy i j with z | z | z
    · exact z
    · exact absurd z hne
    · exact absurd (num_mono lj li z) h
  show rankOf (wAt B.stands i) < rankOf (wAt B.stands j) ∨ (rankOf (wAt B.stands i) = rankOf (wAt B.stands j) ∧ (i : Int) < (j : Int))
  by_cases e : rankOf (wAt B.stands i) = rankOf (wAt B.stands j)
  · refine .inr ⟨e, ?_⟩
    have : i < j := hlt fun z => h2 (.inr ⟨e.symm, .inl (by show ((B.num j : Nat) : Int) < ((B.num i : Nat) : Int); omega)⟩)
    omega
  · refine .inl ?_
    have : ¬ rankOf (wAt B.stands j) < rankOf (wAt B.stands i) := fun z => h2 (.inl z)
    omega
/-- {}, new -/
theorem evp_dnewN {σ : L2.St} {H : Hp} : EvP tDNewK σ H fun u H' => ∃ a, u = .ref a ∧ H a = none ∧ H' a = some (.dK []) := fun H1 S Q q p np => q _ _ (Sm.new np) ⟨p, rfl, S.free np, upd_same⟩
/-- a triple of numbers -/
def TriAt (H : Hp) (q : Int × Int × Int) (y : V) : Prop := ∃ t, y = .ref t ∧ H t = some (.tup [.int q.1, .int q.2.1, .int q.2.2])
theorem TriAt.tq {K : PySem.W.Frag} {H H' : Hp} (S : Tq K H H') : ∀ {qs : List (Int × Int × Int)} {ys : List V}, Paired (TriAt H) qs ys → Paired (TriAt H') qs ys
  | _, _, .nil => .nil
  | _, _, .cons ⟨t, e, h⟩ r => .cons ⟨t, e, S.tup _ _ h⟩ (TriAt.tq S r)
theorem PairsAt.tq {K : PySem.W.Frag} {H H' : Hp} (S : Tq K H H') : ∀ {qs : List (Int × Int)} {ys : List V}, Paired (PairsAt H) qs ys → Paired (PairsAt H') qs ys
  | _, _, .nil => .nil
  | _, _, .cons ⟨t, e, h⟩ r => .cons ⟨t, e, S.tup _ _ h⟩ (PairsAt.tq S r)
def triK (H : Hp) (v : V) : Int × Int × Int := match v with
  | .ref t => match H t with
    | some (.tup [.int i, .int j, .int k]) => (i, j, k)
    | _ => (0, 0, 0)
  | _ => (0, 0, 0)
theorem triK_of {H : Hp} {t : Addr} {i j k : Int} (h : H t = some (.tup [.int i, .int j, .int k])) : triK H (.ref t) = (i, j, k) := by
  show (match H t with | some (.tup [.int i, .int j, .int k]) => (i, j, k) | _ => (0, 0, 0)) = (i, j, k)
  rw [h]
/-- sorted(xs), xs triples of numbers: they, in order -/
theorem evp_sorted3 {K : PySem.W.Frag} {σ : L2.St} {H : Hp} {t : TE} {qs : List (Int × Int × Int)} (h : EvP t σ H fun u H' => ∃ a xs, u = .ref a ∧ H' a = some (.lst xs) ∧ Paired (TriAt H') qs xs) :
    EvP (tCB (rSorted3 K) (tCons t tNil)) σ H fun u H' => ∃ a xs rs, u = .ref a ∧ H a = none ∧ H' a = some (.lst xs) ∧ rs.Perm qs ∧ rs.Pairwise (fun x y => lex3 y x = false) ∧ Paired (TriAt H') rs xs := fun H1 S Q q =>
  h H1 S _ fun u H2 S2 ⟨a, xs, e, hx, hp⟩ => by
    have hmem : ∀ {qs : List (Int × Int × Int)} {xs : List V}, Paired (TriAt H2) qs xs → qs = xs.map (triK H2) ∧ ∀ x ∈ xs, ∃ t, x = .ref t ∧ H2 t = some (.tup [.int (triK H2 x).1, .int (triK H2 x).2.1, .int (triK H2 x).2.2]) := by
      intro qs xs hp
      induction hp with
      | nil => exact ⟨rfl, fun x h => nomatch h⟩
      | cons r _ ih =>
        obtain ⟨t, e, ht⟩ := r
        refine ⟨by rw [List.map_cons, ← ih.1, e, triK_of ht], fun x hx => ?_⟩
        rcases List.mem_cons.mp hx with z | z
        · refine ⟨t, by rw [z, e], ?_⟩
          rw [z, e, triK_of ht]
          exact ht
        · exact ih.2 x z
    obtain ⟨eq, hm⟩ := hmem hp
    refine ⟨a, xs, triK H2, by rw [e], .inl (.inl hx), hm, fun ys p hs hst np => ?_⟩
    refine q _ _ (S2.trans (Sm.new np)) ⟨p, ys, ys.map (triK H2), rfl, S.free (S2.free np), upd_same, by rw [eq]; exact hst.perm.map _, ?_, ?_⟩
    · rw [List.pairwise_map]
      exact hs
    · have hy : ∀ y ∈ ys, ∃ t, y = .ref t ∧ H2 t = some (.tup [.int (triK H2 y).1, .int (triK H2 y).2.1, .int (triK H2 y).2.2]) := fun y hy => hm y (hst.perm.mem_iff.mp hy)
      exact paired_self fun y h => by
        obtain ⟨t, e1, ht⟩ := hy y h
        exact ⟨t, e1, by rw [upd_ne (ne_of_none ht np)]; exact ht⟩
/-- max(xs), min(xs), numbers -/
theorem evp_max {K : PySem.W.Frag} {σ : L2.St} {H : Hp} {t : TE} {ns : List Int} (h : EvP t σ H fun u H' => ∃ a, u = .ref a ∧ SqL K H' a (ns.map V.int)) (h0 : 0 < ns.length) : EvP (tCB (rMax K) (tCons t tNil)) σ H fun v _ => ∃ m, v = .int m ∧ m ∈ ns ∧ ∀ y ∈ ns, y ≤ m := fun H1 S Q q =>
  h H1 S _ fun u H2 S2 ⟨a, e, hx⟩ => ⟨a, ns, by rw [e], hx, h0, fun m hm hy => q _ _ S2 ⟨m, rfl, hm, hy⟩⟩
theorem evp_min {K : PySem.W.Frag} {σ : L2.St} {H : Hp} {t : TE} {ns : List Int} (h : EvP t σ H fun u H' => ∃ a, u = .ref a ∧ SqL K H' a (ns.map V.int)) (h0 : 0 < ns.length) : EvP (tCB (rMin K) (tCons t tNil)) σ H fun v _ => ∃ m, v = .int m ∧ m ∈ ns ∧ ∀ y ∈ ns, m ≤ y := fun H1 S Q q =>
  h H1 S _ fun u H2 S2 ⟨a, e, hx⟩ => ⟨a, ns, by rw [e], hx, h0, fun m hm hy => q _ _ S2 ⟨m, rfl, hm, hy⟩⟩
/-- xs + [n] -/
theorem evp_catI {K : PySem.W.Frag} {σ : L2.St} {H : Hp} {ta tb : TE} {a : Addr} {ns : List Int} {n : Int} (ha : Ev ta σ H (.ref a)) (hx : H a = some (.lst (ns.map V.int))) (hb : Ev tb σ H (.int n)) (hz : ns.length ≤ 10000) :
    EvP (tOp rCat ta (tLst (tCons tb tNil))) σ H fun u H' => ∃ a, u = .ref a ∧ SqL K H' a ((ns ++ [n]).map V.int) :=
  EvP.to (evp_cat (Pa := fun xs _ => xs = ns.map V.int) (Pb := fun xs _ => xs = [V.int n]) (fun _ _ _ _ e => e) (fun _ _ _ _ e => e) (fun xs ys H' e1 e2 => by rw [e1, e2, List.length_map]; exact Nat.le_trans (show ns.length + 1 ≤ 10001 by omega) (by decide))
    (ha.pp fun H' M => ⟨a, _, rfl, M.lst hx, rfl⟩) (EvP.to (evp_lstN (evl_cons hb evl_nil) (by show 1 ≤ sizeLine; decide)) fun v H' M ⟨a, e, _, h⟩ => ⟨a, _, e, h, rfl⟩)) fun v H' M ⟨a, xs, e, h, ys, zs, e1, e2, e3⟩ => ⟨a, e, .inl (.inl (by rw [h, e1, e2, e3, List.map_append]; rfl))⟩
theorem dpRows2 {K : PySem.W.Frag} {H : Hp} {B : Book} : ∀ {ks : List Nat} {ys : List V}, Paired (RowAt H B) ks ys → DpAll K H ys ((ks.map fun k => (((k : Nat) : Int), B.wl k)).map rowD)
  | _, _, .nil => .nil
  | _, _, .cons ⟨t, z, e, h1, h2⟩ r => by
    refine .cons ?_ (dpRows2 r)
    rw [e]
    exact .tup (.inl (.inl h1)) (.cons (.int _) (.cons (WishV.dp ⟨z, rfl, .inl (.inl h2)⟩) .nil))
/-- x = f(..), in a block -/
theorem qs_setC {σ : L2.St} {H : Hp} {D : Ends} {u : TS} {sp : Sp} {E : XK} {t : TA} {i : Nat} {R : List V → Hp → Prop} (ha : EvA t σ H R) (h : ∀ us H1, Sm H H1 → R us H1 → sp us H1 (fun v H2 => u D (σ.set i (some v)) H2) E) : tSeq (tAsg (tCall sp [] E t) (gName i)) u D σ H := q_setC (D := { D with nx := u D }) ha h
/-- if not f(..): suite, f changes what it may -/
theorem q_ifNotC {σ : L2.St} {H : Hp} {D : Ends} {s u : TS} {sp : Sp} {E : XK} {t : TA} {vs : List V} (ha : EvL t σ H vs) (h : ∀ H1, Sm H H1 → ∀ Q : VK, (∀ H2, u D σ H2 → Q (.bl true) H2) → sp vs H1 Q E) : tIfS (tNot (tB (tCall sp [] E t))) s u D σ H :=
  ha H (Sm.refl _) _ fun us H2 S2 p => by
    subst p
    rw [List.append_nil]
    exact h H2 S2 _ fun H3 k => ⟨true, rfl, k⟩
/-! ### the state of the law of rings -/
structure S14 where
  p : Addr
  lw : Addr
  ll : Addr
  lp : Addr
  ca : Addr
  da : Addr
  dr : Addr
abbrev S14.fb (S : S14) : List Addr := bfp S.p S.lw S.ll S.lp
def S14.fp (S : S14) : List Addr := S.fb ++ [S.ca, S.da, S.dr]
structure St14 (K : PySem.W.Frag) (C : Addr) (H : Hp) (S : S14) (B : Book) (dl dp : List Int) : Prop where
  b : BookAt K C H S.p S.lw S.ll S.lp B
  ok : B.Ok
  w : ∃ xs, H S.ca = some (.lst xs) ∧ Wishes K H xs B.ws
  da : H S.da = some (.lst (dl.map V.int))
  dr : H S.dr = some (.lst (dp.map V.int))
  l1 : dl.length = B.n
  l2 : dp.length = B.n
  lf : ∀ k, k < B.n → B.lf k = amtAt B.ws k - dl.getD k 0 - dp.getD k 0
  mo : B.money B.n = 0
  n1 : S.ca ∉ S.fb
  n2 : S.da ∉ S.fb
  n3 : S.dr ∉ S.fb
  n4 : S.ca ≠ S.da
  n5 : S.ca ≠ S.dr
  n6 : S.da ≠ S.dr
section
variable {K : PySem.W.Frag} {C : Addr} {H H' : Hp} {S : S14} {B : Book} {dl dp : List Int}
theorem St14.sm (M : Sm H H') (s : St14 K C H S B dl dp) : St14 K C H' S B dl dp := by
  obtain ⟨xs, h1, h2⟩ := s.w
  exact ⟨s.b.sm M, s.ok, ⟨xs, M.lst h1, h2.sm M⟩, M.lst s.da, M.lst s.dr, s.l1, s.l2, s.lf, s.mo, s.n1, s.n2, s.n3, s.n4, s.n5, s.n6⟩
theorem St14.wl (s : St14 K C H S B dl dp) : WishL K H S.ca B.ws := let ⟨xs, h1, h2⟩ := s.w; ⟨xs, .inl (.inl h1), h2⟩
theorem St14.there (s : St14 K C H S B dl dp) : ∀ a ∈ S.fp, H a ≠ none := fun a ha => by
  obtain ⟨xs, h1, h2⟩ := s.w
  rcases List.mem_append.mp ha with h | h
  · exact s.b.there a h
  · simp only [List.mem_cons, List.not_mem_nil, or_false] at h
    rcases h with h | h | h
    · rw [h, h1]; exact fun z => nomatch z
    · rw [h, s.da]; exact fun z => nomatch z
    · rw [h, s.dr]; exact fun z => nomatch z
theorem St14.notab (s : St14 K C H S B dl dp) {P : Addr} (t : GxR.TabG H P) : P ∉ S.fp := fun ha => by
  obtain ⟨xs, h1, h2⟩ := s.w
  rcases List.mem_append.mp ha with h | h
  · exact s.b.notab t h
  · obtain ⟨qs, e, _⟩ := t
    simp only [List.mem_cons, List.not_mem_nil, or_false] at h
    rcases h with h | h | h
    · rw [h, h1] at e; cases e
    · rw [h, s.da] at e; cases e
    · rw [h, s.dr] at e; cases e
theorem S14.in_b {a : Addr} (h : a ∈ S.fb) : a ∈ S.fp := List.mem_append_left _ h
theorem S14.in_ca : S.ca ∈ S.fp := List.mem_append_right _ (by simp)
theorem S14.in_da : S.da ∈ S.fp := List.mem_append_right _ (by simp)
theorem S14.in_dr : S.dr ∈ S.fp := List.mem_append_right _ (by simp)
end
end My

set_option Elab.async false
set_option linter.all false
set_option maxRecDepth 100000
set_option maxHeartbeats 400000
namespace My
open PySem PySem.Spec PyProof.Rows L2
open GxR (TabB TabG Tabbed)
def topS (i : Nat) : Stmt := PySem.Challenge.pw_bidclear_k14_whole_rings.main.body.getD i (.Pass ⟨0, 0, 0, 0⟩)
abbrev s_is_number : Stmt := topS 10
abbrev names_is_number : List Str := ["thing", "least", "most"]
theorem sc_is_number : FnScope ["thing", "least", "most"] ["thing", "least", "most"] (defScope s_is_number) := ⟨rfl, rfl, rfl, by decide +kernel, rfl, by decide +kernel, by decide +kernel⟩
abbrev s_is_side : Stmt := topS 11
abbrev names_is_side : List Str := ["thing"]
theorem sc_is_side : FnScope ["thing"] ["thing"] (defScope s_is_side) := ⟨rfl, rfl, rfl, by decide +kernel, rfl, by decide +kernel, by decide +kernel⟩
abbrev s_checked : Stmt := topS 12
abbrev names_checked : List Str := ["thing", "side", "limit", "amount"]
theorem sc_checked : FnScope ["thing", "side", "limit", "amount"] ["thing"] (defScope s_checked) := ⟨rfl, rfl, rfl, by decide +kernel, rfl, by decide +kernel, by decide +kernel⟩
abbrev s_wanted : Stmt := topS 13
abbrev names_wanted : List Str := ["wishes", "price"]
theorem sc_wanted : FnScope ["wishes", "price"] ["wishes", "price"] (defScope s_wanted) := ⟨rfl, rfl, rfl, by decide +kernel, rfl, by decide +kernel, by decide +kernel⟩
abbrev s_offered : Stmt := topS 14
abbrev names_offered : List Str := ["wishes", "price"]
theorem sc_offered : FnScope ["wishes", "price"] ["wishes", "price"] (defScope s_offered) := ⟨rfl, rfl, rfl, by decide +kernel, rfl, by decide +kernel, by decide +kernel⟩
abbrev s_checked_price : Stmt := topS 16
abbrev names_checked_price : List Str := ["thing"]
theorem sc_checked_price : FnScope ["thing"] ["thing"] (defScope s_checked_price) := ⟨rfl, rfl, rfl, by decide +kernel, rfl, by decide +kernel, by decide +kernel⟩
abbrev s_is_too_low : Stmt := topS 17
abbrev names_is_too_low : List Str := ["wishes", "price"]
theorem sc_is_too_low : FnScope ["wishes", "price"] ["wishes", "price"] (defScope s_is_too_low) := ⟨rfl, rfl, rfl, by decide +kernel, rfl, by decide +kernel, by decide +kernel⟩
abbrev s_is_too_high : Stmt := topS 18
abbrev names_is_too_high : List Str := ["wishes", "price"]
theorem sc_is_too_high : FnScope ["wishes", "price"] ["wishes", "price"] (defScope s_is_too_high) := ⟨rfl, rfl, rfl, by decide +kernel, rfl, by decide +kernel, by decide +kernel⟩
abbrev s_lowest : Stmt := topS 19
abbrev names_lowest : List Str := ["wishes", "low", "high", "middle"]
theorem sc_lowest : FnScope ["wishes", "low", "high", "middle"] ["wishes"] (defScope s_lowest) := ⟨rfl, rfl, rfl, by decide +kernel, rfl, by decide +kernel, by decide +kernel⟩
abbrev s_highest : Stmt := topS 20
abbrev names_highest : List Str := ["wishes", "low", "high", "middle"]
theorem sc_highest : FnScope ["wishes", "low", "high", "middle"] ["wishes"] (defScope s_highest) := ⟨rfl, rfl, rfl, by decide +kernel, rfl, by decide +kernel, by decide +kernel⟩
abbrev s_price_by : Stmt := topS 21
abbrev names_price_by : List Str := ["wishes", "old"]
theorem sc_price_by : FnScope ["wishes", "old"] ["wishes", "old"] (defScope s_price_by) := ⟨rfl, rfl, rfl, by decide +kernel, rfl, by decide +kernel, by decide +kernel⟩
abbrev s_check_pieces : Stmt := topS 23
abbrev names_check_pieces : List Str := ["wishes", "pieces", "side", "limit", "amount", "part"]
theorem sc_check_pieces : FnScope ["wishes", "pieces", "side", "limit", "amount", "part"] ["wishes", "pieces"] (defScope s_check_pieces) := ⟨rfl, rfl, rfl, by decide +kernel, rfl, by decide +kernel, by decide +kernel⟩
abbrev s_buyers_in_turn : Stmt := topS 24
abbrev names_buyers_in_turn : List Str := ["wishes", "price", "turns", "number", "side", "limit", "amount", "rank"]
theorem sc_buyers_in_turn : FnScope ["wishes", "price", "turns", "number", "side", "limit", "amount", "rank"] ["wishes", "price"] (defScope s_buyers_in_turn) := ⟨rfl, rfl, rfl, by decide +kernel, rfl, by decide +kernel, by decide +kernel⟩
abbrev s_sellers_in_turn : Stmt := topS 25
abbrev names_sellers_in_turn : List Str := ["wishes", "price", "turns", "number", "side", "limit", "amount", "rank"]
theorem sc_sellers_in_turn : FnScope ["wishes", "price", "turns", "number", "side", "limit", "amount", "rank"] ["wishes", "price"] (defScope s_sellers_in_turn) := ⟨rfl, rfl, rfl, by decide +kernel, rfl, by decide +kernel, by decide +kernel⟩
abbrev s_pieces_at : Stmt := topS 26
abbrev names_pieces_at : List Str := ["wishes", "price", "dealt", "pieces", "turns", "rest", "number", "side", "limit", "amount"]
theorem sc_pieces_at : FnScope ["wishes", "price", "dealt", "pieces", "turns", "rest", "number", "side", "limit", "amount"] ["wishes", "price"] (defScope s_pieces_at) := ⟨rfl, rfl, rfl, by decide +kernel, rfl, by decide +kernel, by decide +kernel⟩
abbrev s_pieces_of_side : Stmt := topS 27
abbrev names_pieces_of_side : List Str := ["wishes", "pieces", "one_side", "part", "side", "limit", "amount"]
theorem sc_pieces_of_side : FnScope ["wishes", "pieces", "one_side", "part", "side", "limit", "amount"] ["wishes", "pieces", "one_side"] (defScope s_pieces_of_side) := ⟨rfl, rfl, rfl, by decide +kernel, rfl, by decide +kernel, by decide +kernel⟩
abbrev s_even : Stmt := topS 28
abbrev names_even : List Str := ["wishes", "pieces"]
theorem sc_even : FnScope ["wishes", "pieces"] ["wishes", "pieces"] (defScope s_even) := ⟨rfl, rfl, rfl, by decide +kernel, rfl, by decide +kernel, by decide +kernel⟩
abbrev s_dealers : Stmt := topS 29
abbrev names_dealers : List Str := ["wishes", "pieces", "one_side", "number", "wish"]
theorem sc_dealers : FnScope ["wishes", "pieces", "one_side", "number", "wish"] ["wishes", "pieces", "one_side"] (defScope s_dealers) := ⟨rfl, rfl, rfl, by decide +kernel, rfl, by decide +kernel, by decide +kernel⟩
abbrev s_pairs : Stmt := topS 30
abbrev names_pairs : List Str := ["wishes", "pieces", "rest", "sellers", "at", "told", "buyer", "seller", "many"]
theorem sc_pairs : FnScope ["wishes", "pieces", "rest", "sellers", "at", "told", "buyer", "seller", "many"] ["wishes", "pieces"] (defScope s_pairs) := ⟨rfl, rfl, rfl, by decide +kernel, rfl, by decide +kernel, by decide +kernel⟩
abbrev s___init__ : Stmt := inClass (topS 32) 0
abbrev names___init__ : List Str := ["self", "old"]
theorem sc___init__ : FnScope ["self", "old"] ["self", "old"] (defScope s___init__) := ⟨rfl, rfl, rfl, by decide +kernel, rfl, by decide +kernel, by decide +kernel⟩
abbrev s_add : Stmt := inClass (topS 32) 1
abbrev names_add : List Str := ["self", "wish", "side", "limit", "amount"]
theorem sc_add : FnScope ["self", "wish", "side", "limit", "amount"] ["self", "wish"] (defScope s_add) := ⟨rfl, rfl, rfl, by decide +kernel, rfl, by decide +kernel, by decide +kernel⟩
abbrev s__known : Stmt := inClass (topS 32) 2
abbrev names__known : List Str := ["self", "number"]
theorem sc__known : FnScope ["self", "number"] ["self", "number"] (defScope s__known) := ⟨rfl, rfl, rfl, by decide +kernel, rfl, by decide +kernel, by decide +kernel⟩
abbrev s_left : Stmt := inClass (topS 32) 3
abbrev names_left : List Str := ["self", "number"]
theorem sc_left : FnScope ["self", "number"] ["self", "number"] (defScope s_left) := ⟨rfl, rfl, rfl, by decide +kernel, rfl, by decide +kernel, by decide +kernel⟩
abbrev s_paid : Stmt := inClass (topS 32) 4
abbrev names_paid : List Str := ["self", "number"]
theorem sc_paid : FnScope ["self", "number"] ["self", "number"] (defScope s_paid) := ⟨rfl, rfl, rfl, by decide +kernel, rfl, by decide +kernel, by decide +kernel⟩
abbrev s_drop : Stmt := inClass (topS 32) 5
abbrev names_drop : List Str := ["self", "number", "many"]
theorem sc_drop : FnScope ["self", "number", "many"] ["self", "number"] (defScope s_drop) := ⟨rfl, rfl, rfl, by decide +kernel, rfl, by decide +kernel, by decide +kernel⟩
abbrev s_standing : Stmt := inClass (topS 32) 6
abbrev names_standing : List Str := ["self", "number", "side", "limit", "amount"]
theorem sc_standing : FnScope ["self", "number", "side", "limit", "amount"] ["self"] (defScope s_standing) := ⟨rfl, rfl, rfl, by decide +kernel, rfl, by decide +kernel, by decide +kernel⟩
abbrev s__settle : Stmt := inClass (topS 32) 7
abbrev names__settle : List Str := ["self", "number", "many"]
theorem sc__settle : FnScope ["self", "number", "many"] ["self", "number", "many"] (defScope s__settle) := ⟨rfl, rfl, rfl, by decide +kernel, rfl, by decide +kernel, by decide +kernel⟩
abbrev s_ring : Stmt := inClass (topS 32) 8
abbrev names_ring : List Str := ["self", "rows", "numbers", "wishes", "told", "buyer", "seller", "many", "number", "wish"]
theorem sc_ring : FnScope ["self", "rows", "numbers", "wishes", "told", "buyer", "seller", "many", "number", "wish"] ["self"] (defScope s_ring) := ⟨rfl, rfl, rfl, by decide +kernel, rfl, by decide +kernel, by decide +kernel⟩
abbrev s__law_cell_at : Stmt := topS 34
abbrev names__law_cell_at : List Str := ["_law_script", "_law_k"]
theorem sc__law_cell_at : FnScope ["_law_script", "_law_k"] ["_law_script", "_law_k"] (defScope s__law_cell_at) := ⟨rfl, rfl, rfl, by decide +kernel, rfl, by decide +kernel, by decide +kernel⟩
abbrev s__law_whole : Stmt := topS 35
abbrev names__law_whole : List Str := ["_law_thing"]
theorem sc__law_whole : FnScope ["_law_thing"] ["_law_thing"] (defScope s__law_whole) := ⟨rfl, rfl, rfl, by decide +kernel, rfl, by decide +kernel, by decide +kernel⟩
abbrev s__law_wish_by : Stmt := topS 36
abbrev names__law_wish_by : List Str := ["_law_cell", "_law_side", "_law_far", "_law_limit", "_law_amount"]
theorem sc__law_wish_by : FnScope ["_law_cell", "_law_side", "_law_far", "_law_limit", "_law_amount"] ["_law_cell"] (defScope s__law_wish_by) := ⟨rfl, rfl, rfl, by decide +kernel, rfl, by decide +kernel, by decide +kernel⟩
abbrev s__law_sum : Stmt := topS 37
abbrev names__law_sum : List Str := ["_law_rows", "_law_side", "_law_price", "_law_total", "_law_row"]
theorem sc__law_sum : FnScope ["_law_rows", "_law_side", "_law_price", "_law_total", "_law_row"] ["_law_rows", "_law_side", "_law_price"] (defScope s__law_sum) := ⟨rfl, rfl, rfl, by decide +kernel, rfl, by decide +kernel, by decide +kernel⟩
abbrev s__law_clears : Stmt := topS 38
abbrev names__law_clears : List Str := ["_law_rows", "_law_price"]
theorem sc__law_clears : FnScope ["_law_rows", "_law_price"] ["_law_rows", "_law_price"] (defScope s__law_clears) := ⟨rfl, rfl, rfl, by decide +kernel, rfl, by decide +kernel, by decide +kernel⟩
abbrev s__law_priced : Stmt := topS 39
abbrev names__law_priced : List Str := ["_law_rows", "_law_old", "_law_price"]
theorem sc__law_priced : FnScope ["_law_rows", "_law_old", "_law_price"] ["_law_rows", "_law_old", "_law_price"] (defScope s__law_priced) := ⟨rfl, rfl, rfl, by decide +kernel, rfl, by decide +kernel, by decide +kernel⟩
abbrev s__law_deal_good : Stmt := topS 40
abbrev names__law_deal_good : List Str := ["_law_deal", "_law_stood_here", "_law_price", "_law_part", "_law_buyer", "_law_seller"]
theorem sc__law_deal_good : FnScope ["_law_deal", "_law_stood_here", "_law_price", "_law_part", "_law_buyer", "_law_seller"] ["_law_deal", "_law_stood_here", "_law_price"] (defScope s__law_deal_good) := ⟨rfl, rfl, rfl, by decide +kernel, rfl, by decide +kernel, by decide +kernel⟩
abbrev s__law_quiet : Stmt := topS 41
abbrev names__law_quiet : List Str := ["_law_book", "_law_price", "_law_rows", "_law_buyers", "_law_sellers", "_law_most", "_law_least", "_law_row"]
theorem sc__law_quiet : FnScope ["_law_book", "_law_price", "_law_rows", "_law_buyers", "_law_sellers", "_law_most", "_law_least", "_law_row"] ["_law_book", "_law_price"] (defScope s__law_quiet) := ⟨rfl, rfl, rfl, by decide +kernel, rfl, by decide +kernel, by decide +kernel⟩
abbrev s__law_served : Stmt := topS 42
abbrev names__law_served : List Str := ["_law_rows", "_law_side", "_law_price", "_law_many", "_law_line", "_law_row", "_law_wish", "_law_found", "_law_one", "_law_got_here"]
theorem sc__law_served : FnScope ["_law_rows", "_law_side", "_law_price", "_law_many", "_law_line", "_law_row", "_law_wish", "_law_found", "_law_one", "_law_got_here"] ["_law_rows", "_law_side", "_law_price", "_law_many"] (defScope s__law_served) := ⟨rfl, rfl, rfl, by decide +kernel, rfl, by decide +kernel, by decide +kernel⟩
abbrev s__law_got : Stmt := topS 43
abbrev names__law_got : List Str := ["_law_deals", "_law_at", "_law_found", "_law_deal"]
theorem sc__law_got : FnScope ["_law_deals", "_law_at", "_law_found", "_law_deal"] ["_law_deals", "_law_at"] (defScope s__law_got) := ⟨rfl, rfl, rfl, by decide +kernel, rfl, by decide +kernel, by decide +kernel⟩
abbrev s__law_rising : Stmt := topS 44
abbrev names__law_rising : List Str := ["_law_deals", "_law_k", "_law_last"]
theorem sc__law_rising : FnScope ["_law_deals", "_law_k", "_law_last"] ["_law_deals"] (defScope s__law_rising) := ⟨rfl, rfl, rfl, by decide +kernel, rfl, by decide +kernel, by decide +kernel⟩
abbrev s__law_stood : Stmt := topS 45
abbrev names__law_stood : List Str := ["_law_came", "_law_dealt", "_law_dropped", "_law_rows", "_law_k", "_law_many"]
theorem sc__law_stood : FnScope ["_law_came", "_law_dealt", "_law_dropped", "_law_rows", "_law_k", "_law_many"] ["_law_came", "_law_dealt", "_law_dropped"] (defScope s__law_stood) := ⟨rfl, rfl, rfl, by decide +kernel, rfl, by decide +kernel, by decide +kernel⟩
abbrev s__law_ring : Stmt := topS 46
abbrev names__law_ring : List Str := ["_law_book", "_law_came", "_law_dealt", "_law_dropped", "_law_rows", "_law_stood_here", "_law_old", "_law_found", "_law_price", "_law_many", "_law_deal", "_law_number"]
theorem sc__law_ring : FnScope ["_law_book", "_law_came", "_law_dealt", "_law_dropped", "_law_rows", "_law_stood_here", "_law_old", "_law_found", "_law_price", "_law_many", "_law_deal", "_law_number"] ["_law_book", "_law_came", "_law_dealt", "_law_dropped"] (defScope s__law_ring) := ⟨rfl, rfl, rfl, by decide +kernel, rfl, by decide +kernel, by decide +kernel⟩
abbrev s__law_ended : Stmt := topS 47
abbrev names__law_ended : List Str := ["_law_book", "_law_came", "_law_dealt", "_law_dropped", "_law_money", "_law_k"]
theorem sc__law_ended : FnScope ["_law_book", "_law_came", "_law_dealt", "_law_dropped", "_law_money", "_law_k"] ["_law_book", "_law_came", "_law_dealt", "_law_dropped"] (defScope s__law_ended) := ⟨rfl, rfl, rfl, by decide +kernel, rfl, by decide +kernel, by decide +kernel⟩
abbrev s_law : Stmt := topS 48
abbrev names_law : List Str := ["_law_script", "_law_book", "_law_cell", "_law_cells", "_law_many", "_law_size", "_law_k", "_law_came", "_law_dealt", "_law_dropped", "_law_stood_here", "_law_number"]
theorem sc_law : FnScope ["_law_script", "_law_book", "_law_cell", "_law_cells", "_law_many", "_law_size", "_law_k", "_law_came", "_law_dealt", "_law_dropped", "_law_stood_here", "_law_number"] ["_law_script"] (defScope s_law) := ⟨rfl, rfl, rfl, by decide +kernel, rfl, by decide +kernel, by decide +kernel⟩
structure Txt (K : PySem.W.Frag) (mg : Str → Option Value) where
  a_Book : Addr
  g_Book : mg "Book" = some (.ref a_Book)
  cl_Book : Cls K a_Book
  n_Book_price : NoAttr K a_Book "price"
  n_Book__wishes : NoAttr K a_Book "_wishes"
  n_Book__left : NoAttr K a_Book "_left"
  n_Book__paid : NoAttr K a_Book "_paid"
  f_is_number : Addr
  d_is_number : FuncData
  D_is_number : Dn K mg "is_number" s_is_number ["thing", "least", "most"] f_is_number d_is_number
  f_is_side : Addr
  d_is_side : FuncData
  D_is_side : Dn K mg "is_side" s_is_side ["thing"] f_is_side d_is_side
  f_checked : Addr
  d_checked : FuncData
  D_checked : Dn K mg "checked" s_checked ["thing"] f_checked d_checked
  f_wanted : Addr
  d_wanted : FuncData
  k_wanted : Addr × Addr
  D_wanted : DnC K mg "wanted" s_wanted ["wishes", "price"] f_wanted d_wanted k_wanted.1
  f_offered : Addr
  d_offered : FuncData
  k_offered : Addr × Addr
  D_offered : DnC K mg "offered" s_offered ["wishes", "price"] f_offered d_offered k_offered.1
  f_checked_price : Addr
  d_checked_price : FuncData
  D_checked_price : Dn K mg "checked_price" s_checked_price ["thing"] f_checked_price d_checked_price
  f_is_too_low : Addr
  d_is_too_low : FuncData
  D_is_too_low : Dn K mg "is_too_low" s_is_too_low ["wishes", "price"] f_is_too_low d_is_too_low
  f_is_too_high : Addr
  d_is_too_high : FuncData
  D_is_too_high : Dn K mg "is_too_high" s_is_too_high ["wishes", "price"] f_is_too_high d_is_too_high
  f_lowest : Addr
  d_lowest : FuncData
  D_lowest : Dn K mg "lowest" s_lowest ["wishes"] f_lowest d_lowest
  f_highest : Addr
  d_highest : FuncData
  D_highest : Dn K mg "highest" s_highest ["wishes"] f_highest d_highest
  f_price_by : Addr
  d_price_by : FuncData
  D_price_by : Dn K mg "price_by" s_price_by ["wishes", "old"] f_price_by d_price_by
  f_check_pieces : Addr
  d_check_pieces : FuncData
  D_check_pieces : Dn K mg "check_pieces" s_check_pieces ["wishes", "pieces"] f_check_pieces d_check_pieces
  f_buyers_in_turn : Addr
  d_buyers_in_turn : FuncData
  D_buyers_in_turn : Dn K mg "buyers_in_turn" s_buyers_in_turn ["wishes", "price"] f_buyers_in_turn d_buyers_in_turn
  f_sellers_in_turn : Addr
  d_sellers_in_turn : FuncData
  D_sellers_in_turn : Dn K mg "sellers_in_turn" s_sellers_in_turn ["wishes", "price"] f_sellers_in_turn d_sellers_in_turn
  f_pieces_at : Addr
  d_pieces_at : FuncData
  D_pieces_at : Dn K mg "pieces_at" s_pieces_at ["wishes", "price"] f_pieces_at d_pieces_at
  f_pieces_of_side : Addr
  d_pieces_of_side : FuncData
  D_pieces_of_side : Dn K mg "pieces_of_side" s_pieces_of_side ["wishes", "pieces", "one_side"] f_pieces_of_side d_pieces_of_side
  f_even : Addr
  d_even : FuncData
  D_even : Dn K mg "even" s_even ["wishes", "pieces"] f_even d_even
  f_dealers : Addr
  d_dealers : FuncData
  D_dealers : Dn K mg "dealers" s_dealers ["wishes", "pieces", "one_side"] f_dealers d_dealers
  f_pairs : Addr
  d_pairs : FuncData
  D_pairs : Dn K mg "pairs" s_pairs ["wishes", "pieces"] f_pairs d_pairs
  f___init__ : Addr
  d___init__ : FuncData
  D___init__ : DnI K a_Book "__init__" "Book.__init__" s___init__ ["self", "old"] f___init__ d___init__
  f_add : Addr
  d_add : FuncData
  D_add : DnM K a_Book "add" "Book.add" s_add ["self", "wish"] f_add d_add
  f__known : Addr
  d__known : FuncData
  D__known : DnM K a_Book "_known" "Book._known" s__known ["self", "number"] f__known d__known
  f_left : Addr
  d_left : FuncData
  D_left : DnM K a_Book "left" "Book.left" s_left ["self", "number"] f_left d_left
  f_paid : Addr
  d_paid : FuncData
  D_paid : DnM K a_Book "paid" "Book.paid" s_paid ["self", "number"] f_paid d_paid
  f_drop : Addr
  d_drop : FuncData
  D_drop : DnM K a_Book "drop" "Book.drop" s_drop ["self", "number"] f_drop d_drop
  f_standing : Addr
  d_standing : FuncData
  D_standing : DnM K a_Book "standing" "Book.standing" s_standing ["self"] f_standing d_standing
  f__settle : Addr
  d__settle : FuncData
  D__settle : DnM K a_Book "_settle" "Book._settle" s__settle ["self", "number", "many"] f__settle d__settle
  f_ring : Addr
  d_ring : FuncData
  D_ring : DnM K a_Book "ring" "Book.ring" s_ring ["self"] f_ring d_ring
  f__law_cell_at : Addr
  d__law_cell_at : FuncData
  D__law_cell_at : Dn K mg "_law_cell_at" s__law_cell_at ["_law_script", "_law_k"] f__law_cell_at d__law_cell_at
  f__law_whole : Addr
  d__law_whole : FuncData
  D__law_whole : Dn K mg "_law_whole" s__law_whole ["_law_thing"] f__law_whole d__law_whole
  f__law_wish_by : Addr
  d__law_wish_by : FuncData
  D__law_wish_by : Dn K mg "_law_wish_by" s__law_wish_by ["_law_cell"] f__law_wish_by d__law_wish_by
  f__law_sum : Addr
  d__law_sum : FuncData
  D__law_sum : Dn K mg "_law_sum" s__law_sum ["_law_rows", "_law_side", "_law_price"] f__law_sum d__law_sum
  f__law_clears : Addr
  d__law_clears : FuncData
  D__law_clears : Dn K mg "_law_clears" s__law_clears ["_law_rows", "_law_price"] f__law_clears d__law_clears
  f__law_priced : Addr
  d__law_priced : FuncData
  D__law_priced : Dn K mg "_law_priced" s__law_priced ["_law_rows", "_law_old", "_law_price"] f__law_priced d__law_priced
  f__law_deal_good : Addr
  d__law_deal_good : FuncData
  D__law_deal_good : Dn K mg "_law_deal_good" s__law_deal_good ["_law_deal", "_law_stood_here", "_law_price"] f__law_deal_good d__law_deal_good
  f__law_quiet : Addr
  d__law_quiet : FuncData
  D__law_quiet : Dn K mg "_law_quiet" s__law_quiet ["_law_book", "_law_price"] f__law_quiet d__law_quiet
  f__law_served : Addr
  d__law_served : FuncData
  D__law_served : Dn K mg "_law_served" s__law_served ["_law_rows", "_law_side", "_law_price", "_law_many"] f__law_served d__law_served
  f__law_got : Addr
  d__law_got : FuncData
  D__law_got : Dn K mg "_law_got" s__law_got ["_law_deals", "_law_at"] f__law_got d__law_got
  f__law_rising : Addr
  d__law_rising : FuncData
  D__law_rising : Dn K mg "_law_rising" s__law_rising ["_law_deals"] f__law_rising d__law_rising
  f__law_stood : Addr
  d__law_stood : FuncData
  D__law_stood : Dn K mg "_law_stood" s__law_stood ["_law_came", "_law_dealt", "_law_dropped"] f__law_stood d__law_stood
  f__law_ring : Addr
  d__law_ring : FuncData
  D__law_ring : Dn K mg "_law_ring" s__law_ring ["_law_book", "_law_came", "_law_dealt", "_law_dropped"] f__law_ring d__law_ring
  f__law_ended : Addr
  d__law_ended : FuncData
  D__law_ended : Dn K mg "_law_ended" s__law_ended ["_law_book", "_law_came", "_law_dealt", "_law_dropped"] f__law_ended d__law_ended
  f_law : Addr
  d_law : FuncData
  D_law : Dn K mg "law" s_law ["_law_script"] f_law d_law
  t_TOP : Tok
  c_TOP : mg "TOP" = some (.int 1000000000 t_TOP)
  t_MOST : Tok
  c_MOST : mg "MOST" = some (.int 1000000 t_MOST)
  n_len : mg "len" = none
  n_range : mg "range" = none
  n_isinstance : mg "isinstance" = none
  n_list : mg "list" = none
  n_tuple : mg "tuple" = none
  n_int : mg "int" = none
  n_bool : mg "bool" = none
  n_str : mg "str" = none
  n_sum : mg "sum" = none
  n_max : mg "max" = none
  n_min : mg "min" = none
  n_sorted : mg "sorted" = none
  n_type : mg "type" = none
  n_zip : mg "zip" = none
  n_enumerate : mg "enumerate" = none
  n_dict : mg "dict" = none
  a_BidError : Addr
  g_BidError : mg "BidError" = some (.ref a_BidError)
  a_BadWish : Addr
  g_BadWish : mg "BadWish" = some (.ref a_BadWish)
  a_BadPrice : Addr
  g_BadPrice : mg "BadPrice" = some (.ref a_BadPrice)
  a_BadPieces : Addr
  g_BadPieces : mg "BadPieces" = some (.ref a_BadPieces)
  a_Uneven : Addr
  g_Uneven : mg "Uneven" = some (.ref a_Uneven)
  a_NoSuch : Addr
  g_NoSuch : mg "NoSuch" = some (.ref a_NoSuch)
  R_BadWish : ClsR K a_BadWish
  V_BadWish : PySem.W.kitOne K (.ref a_BadWish) (.type "ValueError") = some true
  I_BadWish_BidError : PySem.W.kitOne K (.ref a_BadWish) (.ref a_BidError) = some true
  I_BadWish_BadWish : PySem.W.kitOne K (.ref a_BadWish) (.ref a_BadWish) = some true
  I_BadWish_BadPrice : PySem.W.kitOne K (.ref a_BadWish) (.ref a_BadPrice) = some false
  I_BadWish_BadPieces : PySem.W.kitOne K (.ref a_BadWish) (.ref a_BadPieces) = some false
  I_BadWish_Uneven : PySem.W.kitOne K (.ref a_BadWish) (.ref a_Uneven) = some false
  I_BadWish_NoSuch : PySem.W.kitOne K (.ref a_BadWish) (.ref a_NoSuch) = some false
  R_BadPrice : ClsR K a_BadPrice
  V_BadPrice : PySem.W.kitOne K (.ref a_BadPrice) (.type "ValueError") = some true
  I_BadPrice_BidError : PySem.W.kitOne K (.ref a_BadPrice) (.ref a_BidError) = some true
  I_BadPrice_BadWish : PySem.W.kitOne K (.ref a_BadPrice) (.ref a_BadWish) = some false
  I_BadPrice_BadPrice : PySem.W.kitOne K (.ref a_BadPrice) (.ref a_BadPrice) = some true
  I_BadPrice_BadPieces : PySem.W.kitOne K (.ref a_BadPrice) (.ref a_BadPieces) = some false
  I_BadPrice_Uneven : PySem.W.kitOne K (.ref a_BadPrice) (.ref a_Uneven) = some false
  I_BadPrice_NoSuch : PySem.W.kitOne K (.ref a_BadPrice) (.ref a_NoSuch) = some false
  R_BadPieces : ClsR K a_BadPieces
  V_BadPieces : PySem.W.kitOne K (.ref a_BadPieces) (.type "ValueError") = some true
  I_BadPieces_BidError : PySem.W.kitOne K (.ref a_BadPieces) (.ref a_BidError) = some true
  I_BadPieces_BadWish : PySem.W.kitOne K (.ref a_BadPieces) (.ref a_BadWish) = some false
  I_BadPieces_BadPrice : PySem.W.kitOne K (.ref a_BadPieces) (.ref a_BadPrice) = some false
  I_BadPieces_BadPieces : PySem.W.kitOne K (.ref a_BadPieces) (.ref a_BadPieces) = some true
  I_BadPieces_Uneven : PySem.W.kitOne K (.ref a_BadPieces) (.ref a_Uneven) = some false
  I_BadPieces_NoSuch : PySem.W.kitOne K (.ref a_BadPieces) (.ref a_NoSuch) = some false
  R_Uneven : ClsR K a_Uneven
  V_Uneven : PySem.W.kitOne K (.ref a_Uneven) (.type "ValueError") = some true
  I_Uneven_BidError : PySem.W.kitOne K (.ref a_Uneven) (.ref a_BidError) = some true
  I_Uneven_BadWish : PySem.W.kitOne K (.ref a_Uneven) (.ref a_BadWish) = some false
  I_Uneven_BadPrice : PySem.W.kitOne K (.ref a_Uneven) (.ref a_BadPrice) = some false
  I_Uneven_BadPieces : PySem.W.kitOne K (.ref a_Uneven) (.ref a_BadPieces) = some false
  I_Uneven_Uneven : PySem.W.kitOne K (.ref a_Uneven) (.ref a_Uneven) = some true
  I_Uneven_NoSuch : PySem.W.kitOne K (.ref a_Uneven) (.ref a_NoSuch) = some false
  R_NoSuch : ClsR K a_NoSuch
  V_NoSuch : PySem.W.kitOne K (.ref a_NoSuch) (.type "ValueError") = some true
  I_NoSuch_BidError : PySem.W.kitOne K (.ref a_NoSuch) (.ref a_BidError) = some true
  I_NoSuch_BadWish : PySem.W.kitOne K (.ref a_NoSuch) (.ref a_BadWish) = some false
  I_NoSuch_BadPrice : PySem.W.kitOne K (.ref a_NoSuch) (.ref a_BadPrice) = some false
  I_NoSuch_BadPieces : PySem.W.kitOne K (.ref a_NoSuch) (.ref a_BadPieces) = some false
  I_NoSuch_Uneven : PySem.W.kitOne K (.ref a_NoSuch) (.ref a_Uneven) = some false
  I_NoSuch_NoSuch : PySem.W.kitOne K (.ref a_NoSuch) (.ref a_NoSuch) = some true
local macro_rules | `(tactic| walk_at "sq") => `(tactic| first
  | (with_reducible assumption)
  | ((with_reducible refine' Sm.sql ?a ?b); (case a => (with_reducible assumption)); (case b => walk_at "sq"))
  | ((with_reducible refine' Sm.sqt ?a ?b); (case a => (with_reducible assumption)); (case b => walk_at "sq"))
  | ((with_reducible refine' WishL.sm ?a ?b); (case a => (with_reducible assumption)); (case b => walk_at "sq"))
  | ((with_reducible refine' WishV.sm ?a ?b); (case a => (with_reducible assumption)); (case b => walk_at "sq"))
  | ((with_reducible refine' Sm.tabG ?a ?b); (case a => (with_reducible assumption)); (case b => walk_at "sq")))
local macro_rules | `(tactic| walk_at "ar") => `(tactic| first
  | decide
  | exact .inr ⟨by decide, by decide⟩
  | exact .inl ⟨by decide, by decide⟩
  | exact ⟨by decide, by decide⟩
  | omega
  | (simp only [List.length_cons, List.length_nil]; omega))
local macro_rules | `(tactic| walk_at "il") => `(tactic| first
  | exact evi_nil
  | ((with_reducible refine' evi_cons ?a ?b); (case a => walk_at "ev"); (case b => walk_at "il")))
local macro_rules | `(tactic| walk_at "el") => `(tactic| first
  | exact evl_nil
  | ((with_reducible refine' evl_cons ?a ?b); (case a => walk_at "ev"); (case b => walk_at "el")))
local macro_rules | `(tactic| walk_at "ev") => `(tactic| first
  | exact ev_c
  | exact ev_var rfl
  | ((with_reducible refine' ev_opI0 ?a ?b); (case a => walk_at "ev"); (case b => walk_at "ev"))
  | ((with_reducible refine' ev_opI ?a ?b ?c); (case a => walk_at "ev"); (case b => walk_at "ev"); (case c => walk_at "ar"))
  | ((with_reducible refine' ev_un ?a); (case a => walk_at "ev"))
  | ((with_reducible refine' ev_eqI ?a ?b); (case a => walk_at "ev"); (case b => walk_at "ev"))
  | ((with_reducible refine' ev_eqS ?a ?b); (case a => walk_at "ev"); (case b => walk_at "ev"))
  | ((with_reducible refine' ev_neI ?a ?b); (case a => walk_at "ev"); (case b => walk_at "ev"))
  | ((with_reducible refine' ev_eqB ?a ?b); (case a => walk_at "ev"); (case b => walk_at "ev"))
  | ((with_reducible refine' ev_max2 ?a ?b); (case a => walk_at "ev"); (case b => walk_at "ev"))
  | ((with_reducible refine' ev_min2 ?a ?b); (case a => walk_at "ev"); (case b => walk_at "ev"))
  | ((with_reducible refine' ev_isB ?a); (case a => walk_at "ev"))
  | ((with_reducible refine' ev_isI ?a); (case a => walk_at "ev"))
  | ((with_reducible refine' ev_menu ?a ?b ?c ?d ?e); (case a => walk_at "il"); (case b => walk_at "ev"); (case c => walk_at "ar"); (case d => walk_at "ar"); (case e => decide))
  | ((with_reducible refine' ev_len ?a ?b); (case a => walk_at "ev"); (case b => walk_at "sq"))
  | ((with_reducible refine' ev_lenT ?a ?b); (case a => walk_at "ev"); (case b => walk_at "sq"))
  | ((with_reducible refine' ev_and ?a ?b); (case a => walk_at "ev"); (case b => intro _; walk_at "ev"))
  | ((with_reducible refine' ev_or ?a ?b); (case a => walk_at "ev"); (case b => intro _; walk_at "ev"))
  | ((with_reducible refine' ev_chain ?a ?b ?c); (case a => walk_at "ev"); (case b => walk_at "ev"); (case c => walk_at "ev"))
  | ((with_reducible refine' ev_not ?a); (case a => walk_at "ev")))
local macro_rules | `(tactic| walk_at "et") => `(tactic| first
  | ((with_reducible refine' evt_test ?a); (case a => walk_at "ev"))
  | ((with_reducible refine' evt_ch3 ?a ?b ?c ?d); (case a => walk_at "ev"); (case b => walk_at "ev"); (case c => walk_at "ev"); (case d => walk_at "ev"))
  | ((with_reducible refine' evt_b ?a); (case a => walk_at "ev"))
  | ((with_reducible refine' evt_and ?a ?b); (case a => walk_at "et"); (case b => intro _; walk_at "et"))
  | ((with_reducible refine' evt_or ?a ?b); (case a => walk_at "et"); (case b => intro _; walk_at "et"))
  | ((with_reducible refine' evt_not ?a); (case a => walk_at "et")))

local macro_rules | `(tactic| walk_at "ev") => `(tactic| first
  | ((with_reducible refine' ev_wSide ?a ?b ?c ?d); (case a => walk_at "ev"); (case b => walk_at "ev"); (case c => walk_at "sq"); (case d => walk_at "ar"))
  | ((with_reducible refine' ev_wLim ?a ?b ?c ?d); (case a => walk_at "ev"); (case b => walk_at "ev"); (case c => walk_at "sq"); (case d => walk_at "ar"))
  | ((with_reducible refine' ev_wAmt ?a ?b ?c ?d); (case a => walk_at "ev"); (case b => walk_at "ev"); (case c => walk_at "sq"); (case d => walk_at "ar"))
  | ((with_reducible refine' ev_ixN ?a ?b ?c ?d); (case a => walk_at "ev"); (case b => walk_at "ev"); (case c => walk_at "sq"); (case d => walk_at "ar"))
  | ((with_reducible refine' ev_lenW ?a ?b); (case a => walk_at "ev"); (case b => walk_at "sq")))

section
variable {P : Program} {w : World} {K : PySem.W.Frag} {mg : Str → Option Value} {base : Heap}
/-! ### _law_cell_at -/
def spCell (K : PySem.W.Frag) : Sp := fun vs H Q _ => ∃ (a : Addr) (ns : List Int) (k : Int), vs = [.ref a, .int k] ∧ SqL K H a (ns.map V.int) ∧ 0 ≤ k ∧ ∀ H', Sm H H' → Q (.int (ns.getD k.toNat 0)) H'
theorem ev_cell {K : PySem.W.Frag} {σ : L2.St} {H : Hp} {ta tb : TE} {E : XK} {a : Addr} {ns : List Int} {k : Int} (ha : Ev ta σ H (.ref a)) (hb : Ev tb σ H (.int k)) (hS : SqL K H a (ns.map V.int)) (hk : 0 ≤ k) :
    Ev (tCall (spCell K) [] E (tCons ta (tCons tb tNil))) σ H (.int (ns.getD k.toNat 0)) :=
  ev_call (evl_cons ha (evl_cons hb evl_nil)) fun H1 S Q q => ⟨a, ns, k, rfl, S.sql hS, hk, q⟩
local macro_rules | `(tactic| walk_at "ev") => `(tactic| ((with_reducible refine' ev_cell ?a ?b ?c ?d); (case a => walk_at "ev"); (case b => walk_at "ev"); (case c => walk_at "sq"); (case d => walk_at "ar")))
theorem ok__law_cell_at (T : Txt K mg) : FnOk P w K mg base CX0 1 T.f__law_cell_at T.d__law_cell_at ["_law_script", "_law_k"] (spCell K) := by
  refine T.D__law_cell_at.F.ok sc__law_cell_at (fun vs H Q E h => ?_) (fun cdv A outer s H vs Q E hr h => ?_)
  · obtain ⟨a, ns, k, rfl, _⟩ := h
    rfl
  · obtain ⟨a, ns, k, rfl, hS, hk, q⟩ := h
    refine ⟨_, (pss_cons (ps_if (pt_cmpR op_lt (pv 1) (pe_callB call_len_seq (by rfl) T.n_len PySem.boot_len (pa_cons (pv 0) pa_nil)) (nomark _))
    (pss_one (ps_ret (pe_ix (r := rIxL K) ix_list (pv 0) (pv 1) (fun _ _ => rfl))))
    pss_nil)
  (pss_one (ps_ret pe_int))), ?_⟩
    try dsimp only [cxOf, Cx.nox, Cx.wish]
    refine qs_if (by walk_at "et") (fun e H1 S1 => ?_) (fun e H1 S1 => ?_)
    · rw [List.length_map] at e
      have e1 : k < (ns.length : Int) := of_decide_eq_true e
      have e2 : k.toNat < ns.length := by omega
      refine q_ret (v := .int (ns.getD k.toNat 0)) (ev_ixL (by walk_at "ev") (by walk_at "ev") (by walk_at "sq") (at_of (j := k.toNat) (by omega) ?_)) fun H2 S2 => ?_
      · rw [List.getElem?_map, List.getElem?_eq_getElem e2, List.getD_eq_getElem?_getD, List.getElem?_eq_getElem e2]
        rfl
      · exact q H2 (S1.trans S2)
    · rw [List.length_map] at e
      have e1 : ¬ k < (ns.length : Int) := of_decide_eq_false e
      refine q_ret ev_c fun H2 S2 => ?_
      have q2 := q H2 (S1.trans S2)
      rw [List.getD_eq_getElem?_getD, List.getElem?_eq_none (by omega)] at q2
      exact q2

/-! ### _law_whole -/
/-- whether a value is a whole number, of those that occur -/
def wholeV : V → Bool
  | .int _ => true
  | _ => false
/-- a value whose kind is known -/
def KindV (K : PySem.W.Frag) (v : V) (H : Hp) : Prop := ∃ t : String, (∀ H', Sm H H' → TyX K H' v (.type t)) ∧ (kitB t "int" = some (wholeV v || t == "bool")) ∧ kitB t "bool" = some (t == "bool") ∧ (wholeV v = true → t ≠ "bool")
theorem kind_int {K : PySem.W.Frag} {i : Int} {H : Hp} : KindV K (.int i) H := ⟨"int", fun H' _ => .base (.int i), (by show kitB "int" "int" = some true; decide +kernel), by decide +kernel, fun _ => by decide⟩
def spWhole (K : PySem.W.Frag) : Sp := fun vs H Q _ => ∃ v, vs = [v] ∧ KindV K v H ∧ ∀ H', Sm H H' → Q (.bl (wholeV v)) H'
theorem ev_whole {K : PySem.W.Frag} {σ : L2.St} {H : Hp} {ta : TE} {E : XK} {v : V} (ha : Ev ta σ H v) (hk : ∀ H', Sm H H' → KindV K v H') : Ev (tCall (spWhole K) [] E (tCons ta tNil)) σ H (.bl (wholeV v)) :=
  ev_call (evl_cons ha evl_nil) fun H1 S Q q => ⟨v, rfl, hk H1 S, q⟩
theorem ev_wholeI {K : PySem.W.Frag} {σ : L2.St} {H : Hp} {ta : TE} {E : XK} {i : Int} (ha : Ev ta σ H (.int i)) : Ev (tCall (spWhole K) [] E (tCons ta tNil)) σ H (.bl true) :=
  ev_whole ha fun _ _ => kind_int
local macro_rules | `(tactic| walk_at "ev") => `(tactic| ((with_reducible refine' ev_wholeI ?a); (case a => walk_at "ev")))
theorem ok__law_whole (T : Txt K mg) : FnOk P w K mg base CX0 1 T.f__law_whole T.d__law_whole ["_law_thing"] (spWhole K) := by
  refine T.D__law_whole.F.ok sc__law_whole (fun vs H Q E h => ?_) (fun cdv A outer s H vs Q E hr h => ?_)
  · obtain ⟨v, rfl, _⟩ := h
    rfl
  · obtain ⟨v, rfl, ⟨t, ht, k1, k2, k3⟩, q⟩ := h
    refine ⟨_, (pss_one (ps_ret (pe_and (pe_callB call_isi (by rfl) T.n_isinstance (by decide +kernel) (pa_cons (pv 0) (pa_cons (pe_bltn (v := .ty "int") (by rfl) T.n_int (by decide +kernel) rfl) pa_nil))) (pe_one (pe_not (pe_callB call_isi (by rfl) T.n_isinstance (by decide +kernel) (pa_cons (pv 0) (pa_cons (pe_bltn (v := .ty "bool") (by rfl) T.n_bool (by decide +kernel) rfl) pa_nil)))))))), ?_⟩
    try dsimp only [cxOf, Cx.nox, Cx.wish]
    refine q_ret (ev_and (ev_isi (ev_var rfl) ev_c (.ty "int") ht (kit_ty k1)) fun _ => ev_not (ev_isi (ev_var rfl) ev_c (.ty "bool") ht (kit_ty k2))) fun H1 S1 => ?_
    have q1 := q H1 S1
    have e : ((wholeV v || t == "bool") && !(t == "bool")) = wholeV v := by
      cases h : wholeV v with
      | false => cases t == "bool" <;> rfl
      | true =>
        have h2 := k3 h
        rw [beq_eq_false_iff_ne.mpr h2]
        rfl
    rw [e]
    exact q1

/-! ### is_number -/
def spNum (K : PySem.W.Frag) : Sp := fun vs H Q _ => ∃ (v : V) (lo hi : Int), vs = [v, .int lo, .int hi] ∧ Kn K v H ∧ ∀ H', Sm H H' → Q (.bl (numV lo hi v)) H'
theorem ev_num {K : PySem.W.Frag} {σ : L2.St} {H : Hp} {ta tb tc : TE} {E : XK} {v : V} {lo hi : Int} (ha : Ev ta σ H v) (hb : Ev tb σ H (.int lo)) (hc : Ev tc σ H (.int hi)) (hk : Kn K v H) : Ev (tCall (spNum K) [] E (tCons ta (tCons tb (tCons tc tNil)))) σ H (.bl (numV lo hi v)) :=
  ev_call (evl_cons ha (evl_cons hb (evl_cons hc evl_nil))) fun H1 S Q q => ⟨v, lo, hi, rfl, hk.sm S, q⟩
theorem ok_is_number (T : Txt K mg) : FnOk P w K mg base CX0 1 T.f_is_number T.d_is_number ["thing", "least", "most"] (spNum K) := by
  refine T.D_is_number.F.ok sc_is_number (fun vs H Q E h => ?_) (fun cdv A outer s H vs Q E hr h => ?_)
  · obtain ⟨v, lo, hi, rfl, _⟩ := h
    rfl
  · obtain ⟨v, lo, hi, rfl, ⟨k, hk, hm⟩, q⟩ := h
    refine ⟨_, (pss_one (ps_ret (pe_and (pe_cmpR op_eqT (pe_callTy call_type1 (by rfl) T.n_type (by decide +kernel) (pa_cons (pv 0) pa_nil)) (pe_bltn (v := .ty "int") (by rfl) T.n_int (by decide +kernel) rfl) (nomark _)) (pe_one (pe_chain op_le op_le (pv 1) (pv 0) (pv 2)))))), ?_⟩
    try dsimp only [cxOf, Cx.nox, Cx.wish]
    by_cases e : k = "int"
    · obtain ⟨i, rfl⟩ := tyB_int hk e
      refine q_ret (v := .bl (numV lo hi (.int i))) ((ev_and (ev_eqT (ev_type (ev_var rfl) hk) ev_c hm (by decide)) fun _ => ev_chain (ev_var rfl) (ev_var rfl) (ev_var rfl)).to ?_) fun H1 S1 => q H1 S1
      rw [decide_eq_true e]
      rfl
    · refine q_ret (v := .bl (numV lo hi v)) ((ev_and (c := false) (ev_eqT (ev_type (ev_var rfl) hk) ev_c hm (by decide)) fun z => absurd (of_decide_eq_true z) e).to ?_) fun H1 S1 => q H1 S1
      rw [decide_eq_false e, numV_no hk e]
      rfl

/-! ### is_side -/
def spSide (K : PySem.W.Frag) : Sp := fun vs H Q _ => ∃ v : V, vs = [v] ∧ Kn K v H ∧ ∀ H', Sm H H' → Q (.bl (sideV v)) H'
theorem ev_side {K : PySem.W.Frag} {σ : L2.St} {H : Hp} {ta : TE} {E : XK} {v : V} (ha : Ev ta σ H v) (hk : Kn K v H) : Ev (tCall (spSide K) [] E (tCons ta tNil)) σ H (.bl (sideV v)) :=
  ev_call (evl_cons ha evl_nil) fun H1 S Q q => ⟨v, rfl, hk.sm S, q⟩
theorem in_side (s : Str) : inV (.str s) [.str (PySem.Str.ofString "buy"), .str (PySem.Str.ofString "sell")] = sideV (.str s) := by
  show ((PySem.Str.ofString "buy" == s) || ((PySem.Str.ofString "sell" == s) || false)) = (decide (s = (PySem.Str.ofString "buy")) || decide (s = (PySem.Str.ofString "sell")))
  rw [Bool.or_false]
  congr 1
  · rw [Bool.eq_iff_iff]
    simp only [beq_iff_eq, decide_eq_true_iff]
    exact eq_comm
  · rw [Bool.eq_iff_iff]
    simp only [beq_iff_eq, decide_eq_true_iff]
    exact eq_comm
theorem ok_is_side (T : Txt K mg) : FnOk P w K mg base CX0 1 T.f_is_side T.d_is_side ["thing"] (spSide K) := by
  refine T.D_is_side.F.ok sc_is_side (fun vs H Q E h => ?_) (fun cdv A outer s H vs Q E hr h => ?_)
  · obtain ⟨v, rfl, _⟩ := h
    rfl
  · obtain ⟨v, rfl, ⟨k, hk, hm⟩, q⟩ := h
    refine ⟨_, (pss_one (ps_ret (pe_and (pe_cmpR op_eqT (pe_callTy call_type1 (by rfl) T.n_type (by decide +kernel) (pa_cons (pv 0) pa_nil)) (pe_bltn (v := .ty "str") (by rfl) T.n_str (by decide +kernel) rfl) (nomark _)) (pe_one (pe_cmpR op_in_seq (pv 0) (pe_tup (pa_cons pe_str (pa_cons pe_str pa_nil))) (by rfl)))))), ?_⟩
    try dsimp only [cxOf, Cx.nox, Cx.wish]
    by_cases e : k = "str"
    · obtain ⟨i, rfl⟩ := tyB_str hk e
      refine q_ret (v := .bl (sideV (.str i))) ((ev_and (ev_eqT (ev_type (ev_var rfl) hk) ev_c hm (by decide)) fun _ => ev_inT (ev_var rfl) (evl_cons ev_c (evl_cons ev_c evl_nil)) rfl rfl (by decide)).to ?_) fun H1 S1 => q H1 S1
      rw [decide_eq_true e, in_side]
      rfl
    · refine q_ret (v := .bl (sideV v)) ((ev_and (c := false) (ev_eqT (ev_type (ev_var rfl) hk) ev_c hm (by decide)) fun z => absurd (of_decide_eq_true z) e).to ?_) fun H1 S1 => q H1 S1
      rw [decide_eq_false e, sideV_no hk e]
      rfl

/-! ### checked -/
def goodV (x y z : V) : Bool := sideV x && (numV 0 1000000000 y && numV 1 1000000 z)
/-- what is no wish -/
def BadV (K : PySem.W.Frag) (v : V) (H : Hp) : Prop :=
  (∃ T, L2.TyB K H v T ∧ T ∈ tyL ∧ T ≠ "tuple") ∨ ∃ a xs, v = .ref a ∧ SqT K H a xs ∧ (xs.length ≠ 3 ∨ ∃ x y z, xs = [x, y, z] ∧ Kn K x H ∧ Kn K y H ∧ Kn K z H ∧ goodV x y z = false)
theorem BadV.sm {K : PySem.W.Frag} {v : V} {H H' : Hp} (S : Sm H H') (h : BadV K v H) : BadV K v H' := by
  rcases h with ⟨T, h1, h2, h3⟩ | ⟨a, xs, e, h, z⟩
  · exact .inl ⟨T, tyB_sm S h1, h2, h3⟩
  · refine .inr ⟨a, xs, e, S.sqt h, ?_⟩
    rcases z with z | ⟨x, y, z, e, k1, k2, k3, g⟩
    · exact .inl z
    · exact .inr ⟨x, y, z, e, k1.sm S, k2.sm S, k3.sm S, g⟩
def spChecked (K : PySem.W.Frag) (C : Addr) : Sp := fun vs H Q E => ∃ v : V, vs = [v] ∧
  ((BadV K v H ∧ ∀ H', Sm H H' → E (.ref C) none H') ∨ ∃ a x y z, v = .ref a ∧ SqT K H a [x, y, z] ∧ Kn K x H ∧ Kn K y H ∧ Kn K z H ∧ goodV x y z = true ∧ ∀ H', Sm H H' → Q v H')
theorem ok_checked (T : Txt K mg) : FnOk P w K mg base (L2.CX P w) 3 T.f_checked T.d_checked ["thing"] (spChecked K T.a_BadWish) := by
  have G_is_number : FnOk P w K mg base CX0 1 T.f_is_number T.d_is_number ["thing", "least", "most"] (spNum K) := ok_is_number T
  have G_is_side : FnOk P w K mg base CX0 1 T.f_is_side T.d_is_side ["thing"] (spSide K) := ok_is_side T
  refine T.D_checked.F.okX sc_checked (fun vs H Q E h => ?_) (fun cdv A outer s H vs Q E hr h => ?_)
  · obtain ⟨v, rfl, _⟩ := h
    rfl
  · obtain ⟨v, rfl, h⟩ := h
    refine ⟨_, (pss_cons (ps_if (PW.pt (pw_or (pt_cmpR op_neT (pe_callTy call_type1 (by rfl) T.n_type (by decide +kernel) (pa_cons (pv 0) pa_nil)) (pe_bltn (v := .ty "tuple") (by rfl) T.n_tuple (by decide +kernel) rfl) (nomark _)) (pw_or1 (pt_cmpR op_ne (pe_callB call_len_seq (by rfl) T.n_len PySem.boot_len (pa_cons (pv 0) pa_nil)) pe_int (nomark _)))))
    (pss_one (ps_raise rfl (takes_of rfl rfl rfl rfl) (pmk_own PySem.F.excBase_ValueError T.R_BadWish.ex T.g_BadWish T.R_BadWish.kp (raises_own T.R_BadWish.be T.R_BadWish.ty) (by rfl))))
    pss_nil)
  (pss_cons (ps_asg (pv 0) (pg_tup (by rfl) (pgs_cons (pg_name (i := 1) sc_checked.nd rfl (.inl rfl)) (pgs_cons (pg_name (i := 2) sc_checked.nd rfl (.inl rfl)) (pgs_cons (pg_name (i := 3) sc_checked.nd rfl (.inl rfl)) pgs_nil)))))
  (pss_cons (ps_if (pt_not (pt_val (pe_call G_is_side (hr.mono (by decide)) (by rfl) T.D_is_side.g T.D_is_side.F.kp T.D_is_side.b .nil pass0 (pa_cons (pv 1) pa_nil))))
    (pss_one (ps_raise rfl (takes_of rfl rfl rfl rfl) (pmk_own PySem.F.excBase_ValueError T.R_BadWish.ex T.g_BadWish T.R_BadWish.kp (raises_own T.R_BadWish.be T.R_BadWish.ty) (by rfl))))
    pss_nil)
  (pss_cons (ps_if (pt_not (pt_val (pe_call G_is_number (hr.mono (by decide)) (by rfl) T.D_is_number.g T.D_is_number.F.kp T.D_is_number.b .nil pass0 (pa_cons (pv 2) (pa_cons pe_int (pa_cons (pe_glob (v := .int 1000000000) (by rfl) T.c_TOP ⟨_, rfl⟩) pa_nil))))))
    (pss_one (ps_raise rfl (takes_of rfl rfl rfl rfl) (SkE.pmk_own1 PySem.F.excBase_ValueError T.R_BadWish.ex T.g_BadWish T.R_BadWish.kp (raises_own T.R_BadWish.be T.R_BadWish.ty) (by rfl) (pe_joined (.cons pe_str (.cons (pe_fmt (pe_glob (v := .int 1000000000) (by rfl) T.c_TOP ⟨_, rfl⟩)) .nil))))))
    pss_nil)
  (pss_cons (ps_if (pt_not (pt_val (pe_call G_is_number (hr.mono (by decide)) (by rfl) T.D_is_number.g T.D_is_number.F.kp T.D_is_number.b .nil pass0 (pa_cons (pv 3) (pa_cons pe_int (pa_cons (pe_glob (v := .int 1000000) (by rfl) T.c_MOST ⟨_, rfl⟩) pa_nil))))))
    (pss_one (ps_raise rfl (takes_of rfl rfl rfl rfl) (SkE.pmk_own1 PySem.F.excBase_ValueError T.R_BadWish.ex T.g_BadWish T.R_BadWish.kp (raises_own T.R_BadWish.be T.R_BadWish.ty) (by rfl) (pe_joined (.cons pe_str (.cons (pe_fmt (pe_glob (v := .int 1000000) (by rfl) T.c_MOST ⟨_, rfl⟩)) .nil))))))
    pss_nil)
  (pss_one (ps_ret (pv 0)))))))), ?_⟩
    try dsimp only [cxOf, Cx.wish]
    -- the three parts, of their kinds
    have h2 : ((∃ k, L2.TyB K H v k ∧ k ∈ tyL ∧ k ≠ "tuple") ∨ (∃ a xs, v = .ref a ∧ SqT K H a xs ∧ xs.length ≠ 3)) ∧ (∀ H', Sm H H' → E (.ref T.a_BadWish) none H') ∨
        ∃ a x y z, v = .ref a ∧ SqT K H a [x, y, z] ∧ Kn K x H ∧ Kn K y H ∧ Kn K z H ∧ (goodV x y z = false → ∀ H', Sm H H' → E (.ref T.a_BadWish) none H') ∧ (goodV x y z = true → ∀ H', Sm H H' → Q v H') := by
      rcases h with ⟨hbad, hE⟩ | ⟨a, x, y, z, ev, hS, kx, ky, kz, g, hQ⟩
      · rcases hbad with hh | ⟨a, xs, ev, hS, hl | ⟨x, y, z, exs, kx, ky, kz, g⟩⟩
        · exact .inl ⟨.inl hh, hE⟩
        · exact .inl ⟨.inr ⟨a, xs, ev, hS, hl⟩, hE⟩
        · rw [exs] at hS
          exact .inr ⟨a, x, y, z, ev, hS, kx, ky, kz, fun _ => hE, fun z => by rw [g] at z; cases z⟩
      · exact .inr ⟨a, x, y, z, ev, hS, kx, ky, kz, (fun z => by rw [g] at z; cases z), fun _ => hQ⟩
    rcases h2 with ⟨⟨k, hk, hm, hn⟩ | ⟨a, xs, ev, hS, hl⟩, hE⟩ | ⟨a, x, y, z, ev, hS, kx, ky, kz, hb, hg⟩
    · refine qs_if (b := true) ((evt_or (c := false) (evt_b (ev_neT (ev_type (ev_var rfl) hk) ev_c hm (by decide))) fun z => ?_).to ?_) (fun e H1 S1 => ?_) (fun e => by cases e)
      · rw [decide_eq_false hn] at z
        cases z
      · rw [decide_eq_false hn]
        rfl
      · exact hE H1 S1
    · subst ev
      refine qs_if (b := true) ((evt_or (evt_b (ev_neT (ev_type (ev_var rfl) (.tup hS)) ev_c (by decide) (by decide))) fun _ => evt_b (ev_neI (ev_lenT (ev_var rfl) hS) ev_c)).to ?_) (fun e H1 S1 => ?_) (fun e => by cases e)
      · rw [decide_eq_false (show ¬ ((xs.length : Int) = 3) by omega)]
        rfl
      · exact hE H1 S1
    · subst ev
      refine qs_if (evt_or (evt_b (ev_neT (ev_type (ev_var rfl) (.tup hS)) ev_c (by decide) (by decide))) fun _ => evt_b (ev_neI (ev_lenT (ev_var rfl) hS) ev_c)) (fun e H1 S1 => ?_) (fun e H1 S1 => ?_)
      · exact absurd e (by simp)
      · refine qs_tup (ev_var rfl) (S1.sqt hS) rfl fun H2 S2 => ?_
        have S02 := S1.trans S2
        refine ⟨x, _, rfl, y, _, rfl, z, _, rfl, rfl, ?_⟩
        show tSeq _ _ _ (some (.ref a) :: some x :: some y :: some z :: []) H2
        refine qs_if (evt_not (evt_b (ev_side (ev_var rfl) (kx.sm S02)))) (fun e H3 S3 => ?_) (fun e H3 S3 => ?_)
        · exact hb (by unfold goodV; rw [show sideV x = false by simpa using e]; rfl) H3 (S02.trans S3)
        · have gx : sideV x = true := by simpa using e
          have S03 := S02.trans S3
          refine qs_if (evt_not (evt_b (ev_num (ev_var rfl) ev_c ev_c (ky.sm S03)))) (fun e H4 S4 => ?_) (fun e H4 S4 => ?_)
          · exact js2 _ ev_c (by decide) (by decide) (by decide +kernel) fun H5 S5 => hb (by unfold goodV; rw [gx, show numV 0 1000000000 y = false by simpa using e]; rfl) H5 (S03.trans (S4.trans S5))
          · have gy : numV 0 1000000000 y = true := by simpa using e
            have S04 := S03.trans S4
            refine qs_if (evt_not (evt_b (ev_num (ev_var rfl) ev_c ev_c (kz.sm S04)))) (fun e H5 S5 => ?_) (fun e H5 S5 => ?_)
            · exact js2 _ ev_c (by decide) (by decide) (by decide +kernel) fun H6 S6 => hb (by unfold goodV; rw [gx, gy, show numV 1 1000000 z = false by simpa using e]; rfl) H6 (S04.trans (S5.trans S6))
            · have gz : numV 1 1000000 z = true := by simpa using e
              refine q_ret (ev_var rfl) fun H6 S6 => ?_
              exact hg (by unfold goodV; rw [gx, gy, gz]; rfl) H6 (S04.trans (S5.trans S6))

/-! ### wanted, offered -/
def spWanted (K : PySem.W.Frag) (P : Addr) : Sp := fun vs H Q _ => ∃ (a : Addr) (ws : List Wish) (p : Int), vs = [.ref a, .int p] ∧ WishL K H a ws ∧ TabG H P ∧ ∀ H', Sm H H' → Q (.int (wantedOf ws p)) H'
def spOffered (K : PySem.W.Frag) (P : Addr) : Sp := fun vs H Q _ => ∃ (a : Addr) (ws : List Wish) (p : Int), vs = [.ref a, .int p] ∧ WishL K H a ws ∧ TabG H P ∧ ∀ H', Sm H H' → Q (.int (offeredOf ws p)) H'
theorem ev_wanted {K : PySem.W.Frag} {P : Addr} {σ : L2.St} {H : Hp} {ta tb : TE} {E : XK} {a : Addr} {ws : List Wish} {p : Int} (ha : Ev ta σ H (.ref a)) (hb : Ev tb σ H (.int p)) (hS : WishL K H a ws) (hT : TabG H P) :
    Ev (tCall (spWanted K P) [] E (tCons ta (tCons tb tNil))) σ H (.int (wantedOf ws p)) :=
  ev_call (evl_cons ha (evl_cons hb evl_nil)) fun H1 S Q q => ⟨a, ws, p, rfl, hS.sm S, S.tabG hT, q⟩
theorem ev_offered {K : PySem.W.Frag} {P : Addr} {σ : L2.St} {H : Hp} {ta tb : TE} {E : XK} {a : Addr} {ws : List Wish} {p : Int} (ha : Ev ta σ H (.ref a)) (hb : Ev tb σ H (.int p)) (hS : WishL K H a ws) (hT : TabG H P) :
    Ev (tCall (spOffered K P) [] E (tCons ta (tCons tb tNil))) σ H (.int (offeredOf ws p)) :=
  ev_call (evl_cons ha (evl_cons hb evl_nil)) fun H1 S Q q => ⟨a, ws, p, rfl, hS.sm S, S.tabG hT, q⟩
local macro_rules | `(tactic| walk_at "ev") => `(tactic| first
  | ((with_reducible refine' ev_wanted ?a ?b ?c ?d); (case a => walk_at "ev"); (case b => walk_at "ev"); (case c => walk_at "sq"); (case d => walk_at "sq"))
  | ((with_reducible refine' ev_offered ?a ?b ?c ?d); (case a => walk_at "ev"); (case b => walk_at "ev"); (case c => walk_at "sq"); (case d => walk_at "sq")))
theorem good3 (cvs r : List V) (h : GoodP cvs r) : r.length = 3 := by
  obtain ⟨p, w, _, rfl⟩ := h
  rfl
theorem ok_wanted (T : Txt K mg) (TB : TabB base mg T.k_wanted.1 T.k_wanted.2) : FnOk P w K mg base CX0 1 T.f_wanted T.d_wanted ["wishes", "price"] (spWanted K T.k_wanted.2) := by
  refine T.D_wanted.ok sc_wanted (fun vs H Q E h => ?_) (fun A outer s H vs Q E hr h => ?_)
  · obtain ⟨a, ws, p, rfl, _⟩ := h
    rfl
  · obtain ⟨a, ws, p, rfl, ⟨xs, hx, hw⟩, hT, q⟩ := h
    refine ⟨_, pss_one (ps_ret (G3.pe_sumG (ces := [("price", 1)]) (Good := GoodP) (pz := pzB) (val := amtR) (P := T.k_wanted.2) hr (by rfl) T.n_sum TB rfl ⟨rfl, rfl, by decide +kernel, rfl, rfl⟩ (pv 0) (List.forall_mem_cons.mpr ⟨⟨rfl, rfl, rfl⟩, fun _ h => nomatch h⟩) rfl rfl rfl
      (by decide) (by decide) (by decide) good3 (fun cvs r cenv A E s m Q hg hs hn l1 l2 hQ => ?_) (fun cvs r hg hz => ?_) (by intro _; rfl))), ?_⟩
    · obtain ⟨p, w, rfl, rfl⟩ := hg
      exact wpAny_tests_one ((G3.gt_and2 (G3.gt_eqS (G3.gv_loc rfl rfl List.mem_cons_self) G3.gv_str) (G3.gt_ge (G3.gv_loc rfl rfl (List.mem_cons_of_mem _ List.mem_cons_self)) (G3.gv_free rfl rfl List.mem_cons_self))).plain cenv A E s m Q hs hn l1 l2 hQ)
    · obtain ⟨p, w, rfl, rfl⟩ := hg
      exact G3.gv_loc rfl rfl (List.mem_cons_of_mem _ (List.mem_cons_of_mem _ List.mem_cons_self))
    · refine ⟨.ref a, rfl, a, xs, ws.map Wish.row, [.int p], rfl, hx, hw.rows, rfl, fun r hr => ?_, hT, fun H2 h2 => ?_⟩
      · obtain ⟨w, _, rfl⟩ := List.mem_map.mp hr
        exact ⟨p, w, rfl, rfl⟩
      · rw [rows_buy]
        exact q H2 (Sm.tab hT h2)
theorem ok_offered (T : Txt K mg) (TB : TabB base mg T.k_offered.1 T.k_offered.2) : FnOk P w K mg base CX0 1 T.f_offered T.d_offered ["wishes", "price"] (spOffered K T.k_offered.2) := by
  refine T.D_offered.ok sc_offered (fun vs H Q E h => ?_) (fun A outer s H vs Q E hr h => ?_)
  · obtain ⟨a, ws, p, rfl, _⟩ := h
    rfl
  · obtain ⟨a, ws, p, rfl, ⟨xs, hx, hw⟩, hT, q⟩ := h
    refine ⟨_, pss_one (ps_ret (G3.pe_sumG (ces := [("price", 1)]) (Good := GoodP) (pz := pzS) (val := amtR) (P := T.k_offered.2) hr (by rfl) T.n_sum TB rfl ⟨rfl, rfl, by decide +kernel, rfl, rfl⟩ (pv 0) (List.forall_mem_cons.mpr ⟨⟨rfl, rfl, rfl⟩, fun _ h => nomatch h⟩) rfl rfl rfl
      (by decide) (by decide) (by decide) good3 (fun cvs r cenv A E s m Q hg hs hn l1 l2 hQ => ?_) (fun cvs r hg hz => ?_) (by intro _; rfl))), ?_⟩
    · obtain ⟨p, w, rfl, rfl⟩ := hg
      exact wpAny_tests_one ((G3.gt_and2 (G3.gt_eqS (G3.gv_loc rfl rfl List.mem_cons_self) G3.gv_str) (G3.gt_le (G3.gv_loc rfl rfl (List.mem_cons_of_mem _ List.mem_cons_self)) (G3.gv_free rfl rfl List.mem_cons_self))).plain cenv A E s m Q hs hn l1 l2 hQ)
    · obtain ⟨p, w, rfl, rfl⟩ := hg
      exact G3.gv_loc rfl rfl (List.mem_cons_of_mem _ (List.mem_cons_of_mem _ List.mem_cons_self))
    · refine ⟨.ref a, rfl, a, xs, ws.map Wish.row, [.int p], rfl, hx, hw.rows, rfl, fun r hr => ?_, hT, fun H2 h2 => ?_⟩
      · obtain ⟨w, _, rfl⟩ := List.mem_map.mp hr
        exact ⟨p, w, rfl, rfl⟩
      · rw [rows_sell]
        exact q H2 (Sm.tab hT h2)

/-! ### is_too_low, is_too_high, clears -/
/-- a def of a list of wishes and a price: f's answer; P1, P2 the tables of wanted and offered -/
def spTest (K : PySem.W.Frag) (P1 P2 : Addr) (f : List Wish → Int → Bool) : Sp := fun vs H Q _ => ∃ (a : Addr) (ws : List Wish) (p : Int), vs = [.ref a, .int p] ∧ WishL K H a ws ∧ TabG H P1 ∧ TabG H P2 ∧ ∀ H', Sm H H' → Q (.bl (f ws p)) H'
theorem ev_test {K : PySem.W.Frag} {P1 P2 : Addr} {f : List Wish → Int → Bool} {σ : L2.St} {H : Hp} {ta tb : TE} {E : XK} {a : Addr} {ws : List Wish} {p : Int} (ha : Ev ta σ H (.ref a)) (hb : Ev tb σ H (.int p)) (hS : WishL K H a ws) (hT : TabG H P1) (hT2 : TabG H P2) :
    Ev (tCall (spTest K P1 P2 f) [] E (tCons ta (tCons tb tNil))) σ H (.bl (f ws p)) :=
  ev_call (evl_cons ha (evl_cons hb evl_nil)) fun H1 S Q q => ⟨a, ws, p, rfl, hS.sm S, S.tabG hT, S.tabG hT2, q⟩
local macro_rules | `(tactic| walk_at "ev") => `(tactic| ((with_reducible refine' ev_test ?a ?b ?c ?d ?e); (case a => walk_at "ev"); (case b => walk_at "ev"); (case c => walk_at "sq"); (case d => walk_at "sq"); (case e => walk_at "sq")))
theorem ok_is_too_low (T : Txt K mg) (TB1 : TabB base mg T.k_wanted.1 T.k_wanted.2) (TB2 : TabB base mg T.k_offered.1 T.k_offered.2) : FnOk P w K mg base CX0 2 T.f_is_too_low T.d_is_too_low ["wishes", "price"] (spTest K T.k_wanted.2 T.k_offered.2 lowB) := by
  have G_wanted : FnOk P w K mg base CX0 1 T.f_wanted T.d_wanted ["wishes", "price"] (spWanted K T.k_wanted.2) := ok_wanted T TB1
  have G_offered : FnOk P w K mg base CX0 1 T.f_offered T.d_offered ["wishes", "price"] (spOffered K T.k_offered.2) := ok_offered T TB2
  refine T.D_is_too_low.F.ok sc_is_too_low (fun vs H Q E h => ?_) (fun cdv A outer s H vs Q E hr h => ?_)
  · obtain ⟨a, ws, p, rfl, _⟩ := h
    rfl
  · obtain ⟨a, ws, p, rfl, hW, hT1, hT2, q⟩ := h
    refine ⟨_, (pss_one (ps_ret (pe_cmpR op_gt (pe_call G_wanted (hr.mono (by decide)) (by rfl) T.D_wanted.g T.D_wanted.F.kp T.D_wanted.b .nil pass0 (pa_cons (pv 0) (pa_cons (pe_op op_add (pv 1) pe_int) pa_nil))) (pe_call G_offered (hr.mono (by decide)) (by rfl) T.D_offered.g T.D_offered.F.kp T.D_offered.b .nil pass0 (pa_cons (pv 0) (pa_cons (pv 1) pa_nil))) (nomark _)))), ?_⟩
    try dsimp only [cxOf, Cx.nox, Cx.wish]
    refine q_ret (by walk_at "ev") fun H1 S1 => ?_
    exact q H1 S1
theorem ok_is_too_high (T : Txt K mg) (TB1 : TabB base mg T.k_wanted.1 T.k_wanted.2) (TB2 : TabB base mg T.k_offered.1 T.k_offered.2) : FnOk P w K mg base CX0 2 T.f_is_too_high T.d_is_too_high ["wishes", "price"] (spTest K T.k_wanted.2 T.k_offered.2 highB) := by
  have G_wanted : FnOk P w K mg base CX0 1 T.f_wanted T.d_wanted ["wishes", "price"] (spWanted K T.k_wanted.2) := ok_wanted T TB1
  have G_offered : FnOk P w K mg base CX0 1 T.f_offered T.d_offered ["wishes", "price"] (spOffered K T.k_offered.2) := ok_offered T TB2
  refine T.D_is_too_high.F.ok sc_is_too_high (fun vs H Q E h => ?_) (fun cdv A outer s H vs Q E hr h => ?_)
  · obtain ⟨a, ws, p, rfl, _⟩ := h
    rfl
  · obtain ⟨a, ws, p, rfl, hW, hT1, hT2, q⟩ := h
    refine ⟨_, (pss_one (ps_ret (pe_cmpR op_gt (pe_call G_offered (hr.mono (by decide)) (by rfl) T.D_offered.g T.D_offered.F.kp T.D_offered.b .nil pass0 (pa_cons (pv 0) (pa_cons (pe_op op_sub (pv 1) pe_int) pa_nil))) (pe_call G_wanted (hr.mono (by decide)) (by rfl) T.D_wanted.g T.D_wanted.F.kp T.D_wanted.b .nil pass0 (pa_cons (pv 0) (pa_cons (pv 1) pa_nil))) (nomark _)))), ?_⟩
    try dsimp only [cxOf, Cx.nox, Cx.wish]
    refine q_ret (by walk_at "ev") fun H1 S1 => ?_
    exact q H1 S1

/-! ### lowest, highest -/
def spLeast (K : PySem.W.Frag) (P1 P2 : Addr) (R : List Wish → Int → Prop) : Sp := fun vs H Q _ => ∃ (a : Addr) (ws : List Wish), vs = [.ref a] ∧ WishL K H a ws ∧ Goods ws ∧ TabG H P1 ∧ TabG H P2 ∧ ∀ p H', Sm H H' → R ws p → Q (.int p) H'
theorem evp_least {K : PySem.W.Frag} {P1 P2 : Addr} {R : List Wish → Int → Prop} {σ : L2.St} {H : Hp} {ta : TE} {E : XK} {a : Addr} {ws : List Wish} (ha : Ev ta σ H (.ref a)) (hS : WishL K H a ws) (hg : Goods ws) (hT : TabG H P1) (hT2 : TabG H P2) :
    EvP (tCall (spLeast K P1 P2 R) [] E (tCons ta tNil)) σ H fun v _ => ∃ p, v = .int p ∧ R ws p :=
  evp_call (evl_cons ha evl_nil) fun H1 S Q q => ⟨a, ws, rfl, hS.sm S, hg, S.tabG hT, S.tabG hT2, fun p H' S' h => q _ _ S' ⟨p, rfl, h⟩⟩
theorem ok_lowest (T : Txt K mg) (TB1 : TabB base mg T.k_wanted.1 T.k_wanted.2) (TB2 : TabB base mg T.k_offered.1 T.k_offered.2) : FnOk P w K mg base CX0 3 T.f_lowest T.d_lowest ["wishes"] (spLeast K T.k_wanted.2 T.k_offered.2 IsLow) := by
  have G_is_too_low : FnOk P w K mg base CX0 2 T.f_is_too_low T.d_is_too_low ["wishes", "price"] (spTest K T.k_wanted.2 T.k_offered.2 lowB) := ok_is_too_low T TB1 TB2
  refine T.D_lowest.F.ok sc_lowest (fun vs H Q E h => ?_) (fun cdv A outer s H vs Q E hr h => ?_)
  · obtain ⟨a, ws, rfl, _⟩ := h
    rfl
  · obtain ⟨a, ws, rfl, hW, hg, hT1, hT2, q⟩ := h
    refine ⟨_, (pss_cons (ps_set (i := 1) sc_lowest.nd rfl (.inl rfl) pe_int)
  (pss_cons (ps_set (i := 2) sc_lowest.nd rfl (.inl rfl) (pe_glob (v := .int 1000000000) (by rfl) T.c_TOP ⟨_, rfl⟩))
  (pss_cons (ps_while PassesOwn.never (pt_cmpR op_lt (pv 1) (pv 2) (nomark _))
    (pss_cons (ps_set (i := 3) sc_lowest.nd rfl (.inl rfl) (pe_op op_fdiv (pe_op op_add (pv 1) (pv 2)) pe_int))
  (pss_one (ps_if (pt_val (pe_call G_is_too_low (hr.mono (by decide)) (by rfl) T.D_is_too_low.g T.D_is_too_low.F.kp T.D_is_too_low.b .nil pass0 (pa_cons (pv 0) (pa_cons (pv 3) pa_nil))))
    (pss_one (ps_set (i := 1) sc_lowest.nd rfl (.inl rfl) (pe_op op_add (pv 3) pe_int)))
    (pss_one (ps_set (i := 2) sc_lowest.nd rfl (.inl rfl) (pv 3)))))))
  (pss_one (ps_ret (pv 1)))))), ?_⟩
    try dsimp only [cxOf, Cx.nox, Cx.wish]
    refine qs_set ev_c fun H1 S1 => ?_
    refine qs_set ev_c fun H2 S2 => ?_
    refine q_while (D := { nx := _, rt := _ }) (fun m σ' H' => ∃ lo hi y, σ' = [some (.ref a), some (.int lo), some (.int hi), y] ∧ Sm H H' ∧ m = (hi - lo).toNat ∧ 0 ≤ lo ∧ lo ≤ hi ∧ hi ≤ 1000000000 ∧ lowB ws hi = false ∧ (lo = 0 ∨ lowB ws (lo - 1) = true))
      ⟨0, 1000000000, none, rfl, S1.trans S2, rfl, by decide, by decide, by decide, low_top hg, .inl rfl⟩ (fun m σ' H' hP => ?_)
    obtain ⟨lo, hi, y, rfl, S, rfl, h0, h1, h2, h3, h4⟩ := hP
    have hW' := hW.sm S
    have hT1' := S.tabG hT1
    have hT2' := S.tabG hT2
    refine ⟨_, by walk_at "et", fun e H3 S3 => ?_, fun e H3 S3 => ?_⟩
    · have e1 : lo < hi := of_decide_eq_true e
      refine qs_setI (by walk_at "ev") fun mid hm H4 S4 => ?_
      refine q_if (evt_b (by walk_at "ev")) (fun e2 H5 S5 => q_setI (by walk_at "ev") fun z hz H6 S6 => ?_) (fun e2 H5 S5 => q_setI (by walk_at "ev") fun z hz H6 S6 => ?_)
      · refine ⟨(hi - z).toNat, by omega, z, hi, some (.int mid), rfl, S.trans (S3.trans (S4.trans (S5.trans S6))), rfl, by omega, by omega, h2, h3, .inr ?_⟩
        rw [hz, show mid + 1 - 1 = mid by omega]
        exact e2
      · refine ⟨(z - lo).toNat, by omega, lo, z, some (.int mid), rfl, S.trans (S3.trans (S4.trans (S5.trans S6))), rfl, h0, by omega, by omega, ?_, h4⟩
        rw [hz]
        exact e2
    · have e1 : ¬ lo < hi := of_decide_eq_false e
      dsimp only
      refine q_ret (ev_var rfl) fun H4 S4 => q lo H4 (S.trans (S3.trans S4)) ⟨h0, by omega, ?_, h4⟩
      rw [show lo = hi by omega]
      exact h3
theorem ok_highest (T : Txt K mg) (TB1 : TabB base mg T.k_wanted.1 T.k_wanted.2) (TB2 : TabB base mg T.k_offered.1 T.k_offered.2) : FnOk P w K mg base CX0 3 T.f_highest T.d_highest ["wishes"] (spLeast K T.k_wanted.2 T.k_offered.2 IsHigh) := by
  have G_is_too_high : FnOk P w K mg base CX0 2 T.f_is_too_high T.d_is_too_high ["wishes", "price"] (spTest K T.k_wanted.2 T.k_offered.2 highB) := ok_is_too_high T TB1 TB2
  refine T.D_highest.F.ok sc_highest (fun vs H Q E h => ?_) (fun cdv A outer s H vs Q E hr h => ?_)
  · obtain ⟨a, ws, rfl, _⟩ := h
    rfl
  · obtain ⟨a, ws, rfl, hW, hg, hT1, hT2, q⟩ := h
    refine ⟨_, (pss_cons (ps_set (i := 1) sc_highest.nd rfl (.inl rfl) pe_int)
  (pss_cons (ps_set (i := 2) sc_highest.nd rfl (.inl rfl) (pe_glob (v := .int 1000000000) (by rfl) T.c_TOP ⟨_, rfl⟩))
  (pss_cons (ps_while PassesOwn.never (pt_cmpR op_lt (pv 1) (pv 2) (nomark _))
    (pss_cons (ps_set (i := 3) sc_highest.nd rfl (.inl rfl) (pe_op op_fdiv (pe_op op_add (pe_op op_add (pv 1) (pv 2)) pe_int) pe_int))
  (pss_one (ps_if (pt_val (pe_call G_is_too_high (hr.mono (by decide)) (by rfl) T.D_is_too_high.g T.D_is_too_high.F.kp T.D_is_too_high.b .nil pass0 (pa_cons (pv 0) (pa_cons (pv 3) pa_nil))))
    (pss_one (ps_set (i := 2) sc_highest.nd rfl (.inl rfl) (pe_op op_sub (pv 3) pe_int)))
    (pss_one (ps_set (i := 1) sc_highest.nd rfl (.inl rfl) (pv 3)))))))
  (pss_one (ps_ret (pv 1)))))), ?_⟩
    try dsimp only [cxOf, Cx.nox, Cx.wish]
    refine qs_set ev_c fun H1 S1 => ?_
    refine qs_set ev_c fun H2 S2 => ?_
    refine q_while (D := { nx := _, rt := _ }) (fun m σ' H' => ∃ lo hi y, σ' = [some (.ref a), some (.int lo), some (.int hi), y] ∧ Sm H H' ∧ m = (hi - lo).toNat ∧ 0 ≤ lo ∧ lo ≤ hi ∧ hi ≤ 1000000000 ∧ highB ws lo = false ∧ (hi = 1000000000 ∨ highB ws (hi + 1) = true))
      ⟨0, 1000000000, none, rfl, S1.trans S2, rfl, by decide, by decide, by decide, high_zero hg, .inl rfl⟩ (fun m σ' H' hP => ?_)
    obtain ⟨lo, hi, y, rfl, S, rfl, h0, h1, h2, h3, h4⟩ := hP
    have hW' := hW.sm S
    have hT1' := S.tabG hT1
    have hT2' := S.tabG hT2
    refine ⟨_, by walk_at "et", fun e H3 S3 => ?_, fun e H3 S3 => ?_⟩
    · have e1 : lo < hi := of_decide_eq_true e
      refine qs_setI (by walk_at "ev") fun mid hm H4 S4 => ?_
      refine q_if (evt_b (by walk_at "ev")) (fun e2 H5 S5 => q_setI (by walk_at "ev") fun z hz H6 S6 => ?_) (fun e2 H5 S5 => q_setI (by walk_at "ev") fun z hz H6 S6 => ?_)
      · refine ⟨(z - lo).toNat, by omega, lo, z, some (.int mid), rfl, S.trans (S3.trans (S4.trans (S5.trans S6))), rfl, h0, by omega, by omega, h3, .inr ?_⟩
        rw [hz, show mid - 1 + 1 = mid by omega]
        exact e2
      · refine ⟨(hi - z).toNat, by omega, z, hi, some (.int mid), rfl, S.trans (S3.trans (S4.trans (S5.trans S6))), rfl, by omega, by omega, h2, ?_, h4⟩
        rw [hz]
        exact e2
    · have e1 : ¬ lo < hi := of_decide_eq_false e
      dsimp only
      refine q_ret (ev_var rfl) fun H4 S4 => q lo H4 (S.trans (S3.trans S4)) ⟨h0, by omega, h3, ?_⟩
      rw [show lo = hi by omega]
      exact h4

/-! ### checked_price, price_by -/
def spCP (K : PySem.W.Frag) (C : Addr) : Sp := fun vs H Q E => ∃ v : V, vs = [v] ∧ Kn K v H ∧ ((numV 0 1000000000 v = false ∧ ∀ H', Sm H H' → E (.ref C) none H') ∨ (numV 0 1000000000 v = true ∧ ∀ H', Sm H H' → Q v H'))
theorem ok_checked_price (T : Txt K mg) : FnOk P w K mg base (L2.CX P w) 3 T.f_checked_price T.d_checked_price ["thing"] (spCP K T.a_BadPrice) := by
  have G_is_number : FnOk P w K mg base CX0 1 T.f_is_number T.d_is_number ["thing", "least", "most"] (spNum K) := ok_is_number T
  refine T.D_checked_price.F.okX sc_checked_price (fun vs H Q E h => ?_) (fun cdv A outer s H vs Q E hr h => ?_)
  · obtain ⟨v, rfl, _⟩ := h
    rfl
  · obtain ⟨v, rfl, hk, h⟩ := h
    refine ⟨_, (pss_cons (ps_if (pt_not (pt_val (pe_call G_is_number (hr.mono (by decide)) (by rfl) T.D_is_number.g T.D_is_number.F.kp T.D_is_number.b .nil pass0 (pa_cons (pv 0) (pa_cons pe_int (pa_cons (pe_glob (v := .int 1000000000) (by rfl) T.c_TOP ⟨_, rfl⟩) pa_nil))))))
    (pss_one (ps_raise rfl (takes_of rfl rfl rfl rfl) (SkE.pmk_own1 PySem.F.excBase_ValueError T.R_BadPrice.ex T.g_BadPrice T.R_BadPrice.kp (raises_own T.R_BadPrice.be T.R_BadPrice.ty) (by rfl) (pe_joined (.cons pe_str (.cons (pe_fmt (pe_glob (v := .int 1000000000) (by rfl) T.c_TOP ⟨_, rfl⟩)) .nil))))))
    pss_nil)
  (pss_one (ps_ret (pv 0)))), ?_⟩
    try dsimp only [cxOf, Cx.wish]
    rcases h with ⟨g, hE⟩ | ⟨g, hQ⟩
    · refine qs_if (evt_not (evt_b (ev_num (ev_var rfl) ev_c ev_c hk))) (fun e H1 S1 => ?_) (fun e H1 S1 => ?_)
      · exact js2 _ ev_c (by decide) (by decide) (by decide +kernel) fun H2 S2 => hE H2 (S1.trans S2)
      · rw [g] at e
        cases e
    · refine qs_if (evt_not (evt_b (ev_num (ev_var rfl) ev_c ev_c hk))) (fun e H1 S1 => ?_) (fun e H1 S1 => ?_)
      · rw [g] at e
        cases e
      · exact q_ret (ev_var rfl) fun H2 S2 => hQ H2 (S1.trans S2)

/-! ### price_by -/
def spPB (K : PySem.W.Frag) (P1 P2 C : Addr) : Sp := fun vs H Q E => ∃ (a : Addr) (ws : List Wish) (v : V), vs = [.ref a, v] ∧ WishL K H a ws ∧ Goods ws ∧ TabG H P1 ∧ TabG H P2 ∧ Kn K v H ∧
  ((numV 0 1000000000 v = false ∧ ∀ H', Sm H H' → E (.ref C) none H') ∨ ∃ o, v = .int o ∧ 0 ≤ o ∧ o ≤ 1000000000 ∧ ∀ p H', Sm H H' → Near ws o p → Q (.int p) H')
theorem ok_price_by (T : Txt K mg) (TB1 : TabB base mg T.k_wanted.1 T.k_wanted.2) (TB2 : TabB base mg T.k_offered.1 T.k_offered.2) : FnOk P w K mg base (L2.CX P w) 5 T.f_price_by T.d_price_by ["wishes", "old"] (spPB K T.k_wanted.2 T.k_offered.2 T.a_BadPrice) := by
  have G_checked_price : FnOk P w K mg base (L2.CX P w) 3 T.f_checked_price T.d_checked_price ["thing"] (spCP K T.a_BadPrice) := ok_checked_price T
  have G_lowest : FnOk P w K mg base CX0 3 T.f_lowest T.d_lowest ["wishes"] (spLeast K T.k_wanted.2 T.k_offered.2 IsLow) := ok_lowest T TB1 TB2
  have G_highest : FnOk P w K mg base CX0 3 T.f_highest T.d_highest ["wishes"] (spLeast K T.k_wanted.2 T.k_offered.2 IsHigh) := ok_highest T TB1 TB2
  refine T.D_price_by.F.okX sc_price_by (fun vs H Q E h => ?_) (fun cdv A outer s H vs Q E hr h => ?_)
  · obtain ⟨a, ws, v, rfl, _⟩ := h
    rfl
  · obtain ⟨a, ws, v, rfl, hW, hg, hT1, hT2, hk, h⟩ := h
    refine ⟨_, (pss_cons (ps_expr (pe_callS G_checked_price (hr.mono (by decide)) (by rfl) T.D_checked_price.g T.D_checked_price.F.kp T.D_checked_price.b (fun σ => passAt (takes_of rfl rfl rfl rfl) σ) (pa_cons (pv 1) pa_nil)))
  (pss_one (ps_ret (pe_callB (call_max2 rfl) (by rfl) T.n_max (by decide +kernel) (pa_cons (pe_call G_lowest (hr.mono (by decide)) (by rfl) T.D_lowest.g T.D_lowest.F.kp T.D_lowest.b .nil pass0 (pa_cons (pv 0) pa_nil)) (pa_cons (pe_callB (call_min2 rfl) (by rfl) T.n_min (by decide +kernel) (pa_cons (pv 1) (pa_cons (pe_call G_highest (hr.mono (by decide)) (by rfl) T.D_highest.g T.D_highest.F.kp T.D_highest.b .nil pass0 (pa_cons (pv 0) pa_nil)) pa_nil))) pa_nil)))))), ?_⟩
    try dsimp only [cxOf, Cx.wish]
    refine qs_dropS (evl_cons (ev_var rfl) evl_nil) fun H1 S1 => ⟨v, rfl, hk.sm S1, ?_⟩
    rcases h with ⟨g, hE⟩ | ⟨o, rfl, h0, h1, hQ⟩
    · exact .inl ⟨g, fun H2 S2 => hE H2 (S1.trans S2)⟩
    · refine .inr ⟨numV_in h0 h1, fun H2 S2 => ?_⟩
      have S := S1.trans S2
      refine q_retP (evp_maxmin (evp_least (ev_var rfl) (hW.sm S) hg (S.tabG hT1) (S.tabG hT2)) (ev_var rfl) (evp_least (ev_var rfl) (hW.sm S) hg (S.tabG hT1) (S.tabG hT2))) fun v H3 S3 hv => ?_
      obtain ⟨lo, hi, hlo, hhi, rfl⟩ := hv
      exact hQ _ H3 (S.trans S3) ⟨lo, hi, hlo, hhi, rfl⟩

/-! ### check_pieces -/
theorem ok_check_pieces (T : Txt K mg) : FnOk P w K mg base (L2.CX P w) 3 T.f_check_pieces T.d_check_pieces ["wishes", "pieces"] (spRow K T.a_BadPieces fun _ _ => .non) := by
  have G_is_number : FnOk P w K mg base CX0 1 T.f_is_number T.d_is_number ["thing", "least", "most"] (spNum K) := ok_is_number T
  refine T.D_check_pieces.F.okX sc_check_pieces (fun vs H Q E h => ?_) (fun cdv A outer s H vs Q E hr h => ?_)
  · obtain ⟨a, b, ws, xs, rfl, _⟩ := h
    rfl
  · obtain ⟨a, b, ws, xs, rfl, ⟨us, hu, hw⟩, hg, hn, hb, h⟩ := h
    refine ⟨_, (pss_cons (ps_if (PW.pt (pw_or (pt_not (pt_val (pe_callB call_isi (by rfl) T.n_isinstance (by decide +kernel) (pa_cons (pv 1) (pa_cons (pe_bltn (v := .ty "list") (by rfl) T.n_list (by decide +kernel) rfl) pa_nil))))) (pw_or1 (pt_cmpR op_ne (pe_callB call_len_seq (by rfl) T.n_len PySem.boot_len (pa_cons (pv 1) pa_nil)) (pe_callB call_len_seq (by rfl) T.n_len PySem.boot_len (pa_cons (pv 0) pa_nil)) (nomark _)))))
    (pss_one (ps_raise rfl (takes_of rfl rfl rfl rfl) (pmk_own PySem.F.excBase_ValueError T.R_BadPieces.ex T.g_BadPieces T.R_BadPieces.kp (raises_own T.R_BadPieces.be T.R_BadPieces.ty) (by rfl))))
    pss_nil)
  (pss_one (ps_for (passes_of rfl) rfl (pi_zip (by rfl) T.n_zip (pa_cons (pv 0) (pa_cons (pv 1) pa_nil))) (pg_tup (by rfl) (pgs_cons (pg_tup (by rfl) (pgs_cons (pg_name (i := 2) sc_check_pieces.nd rfl (.inl rfl)) (pgs_cons (pg_name (i := 3) sc_check_pieces.nd rfl (.inl rfl)) (pgs_cons (pg_name (i := 4) sc_check_pieces.nd rfl (.inl rfl)) pgs_nil)))) (pgs_cons (pg_name (i := 5) sc_check_pieces.nd rfl (.inl rfl)) pgs_nil)))
    (pss_one (ps_if (pt_not (pt_val (pe_call G_is_number (hr.mono (by decide)) (by rfl) T.D_is_number.g T.D_is_number.F.kp T.D_is_number.b .nil pass0 (pa_cons (pv 5) (pa_cons pe_int (pa_cons (pv 4) pa_nil))))))
    (pss_one (ps_raise rfl (takes_of rfl rfl rfl rfl) (pmk_own PySem.F.excBase_ValueError T.R_BadPieces.ex T.g_BadPieces T.R_BadPieces.kp (raises_own T.R_BadPieces.be T.R_BadPieces.ty) (by rfl))))
    pss_nil))))), ?_⟩
    try dsimp only [cxOf, Cx.wish]
    have hbS : SqL K H b xs := .inl (.inl hb)
    have hE : ∀ (bad : xs.length ≠ ws.length ∨ ∃ k v, k < ws.length ∧ xs[k]? = some v ∧ numV 0 (amtAt ws k) v = false), ∀ H', Sm H H' → E (.ref T.a_BadPieces) none H' := fun bad => by
      rcases h with ⟨_, hE⟩ | ⟨ns, rfl, hp, _⟩
      · exact hE
      · rcases bad with bad | ⟨k, v, hk, hv, hno⟩
        · exact absurd (by rw [List.length_map, hp.len]) bad
        · exfalso
          have hkl : k < ns.length := by rw [hp.len]; exact hk
          rw [List.getElem?_map, List.getElem?_eq_getElem hkl] at hv
          cases hv
          have h2 := hp.ok k hk
          rw [List.getD_eq_getElem?_getD, List.getElem?_eq_getElem hkl] at h2
          have := numV_in h2.1 h2.2
          simp only [Option.getD_some] at this
          rw [this] at hno
          cases hno
    have hK : ∀ v ∈ xs, Kn K v H := by
      rcases h with ⟨hbad, _⟩ | ⟨ns, rfl, _⟩
      · exact hbad.1
      · exact kn_ints
    refine qs_if (EvT.to (evt_or (evt_not (evt_b (b := true) (ev_isi (x := .ref b) (u := .type "list") (t := .type "list") (ev_var rfl) ev_c (.ty "list") (fun H' S' => .base (.lst (S'.lst hb))) (kit_ty (by decide +kernel))))) fun _ => evt_b (ev_neI (ev_len (ev_var rfl) hbS) (ev_len (ev_var rfl) hu))) rfl) (fun e H1 S1 => ?_) (fun e H1 S1 => ?_)
    · refine hE (.inl ?_) H1 S1
      have e1 : ¬ ((xs.length : Int) = (us.length : Int)) := by simpa using e
      rw [← hw.length]
      omega
    · have e1 : (xs.length : Int) = (us.length : Int) := by simpa using e
      have hlen : xs.length = ws.length := by rw [← hw.length]; omega
      refine q_forZ (D := { nx := _, rt := _ }) (a := a) (b := b) (xs := us) (ys := xs) (n := us.length) (fun i σ' H' => ∃ y2 y3 y4 y5, σ' = [some (.ref a), some (.ref b), y2, y3, y4, y5] ∧ Sm H H' ∧ ∀ k v, k < i → xs[k]? = some v → numV 0 (amtAt ws k) v = true)
        (evl_cons (ev_var rfl) (evl_cons (ev_var rfl) evl_nil)) (S1.sql hu) (S1.sql hbS) (by omega) (fun H2 S2 => ⟨none, none, none, none, rfl, S1.trans S2, fun k v hk => absurd hk (Nat.not_lt_zero k)⟩) (fun i σ' H' _ hP => ?_) (fun i x y t σ' H2 H3 hx hy hP S23 hT => ?_) (fun σ' H' hP => ?_)
      · obtain ⟨y2, y3, y4, y5, rfl, S2, _⟩ := hP
        exact ⟨S2.sql hu, S2.sql hbS⟩
      · obtain ⟨y2, y3, y4, y5, rfl, S2, hk⟩ := hP
        obtain ⟨hi, t1, rfl, ht1⟩ := hw.at hx
        refine ⟨_, evg_tup (.inl (.inl hT)) rfl (evgs_cons (evg_tup (S23.sqt (S2.sqt ht1)) rfl (evgs_cons evg_name (evgs_cons evg_name (evgs_cons evg_name evgs_nil)))) (evgs_cons evg_name evgs_nil)), fun H4 S4 => ?_⟩
        have S04 := S2.trans (S23.trans S4)
        have ky := (hK y (List.mem_of_getElem? hy)).sm S04
        refine q_if (evt_not (evt_b (ev_num (ev_var rfl) ev_c (ev_var rfl) ky))) (fun e H5 S5 => ?_) (fun e H5 S5 => q_next ?_)
        · exact hE (.inr ⟨i, y, hi, hy, by have := e; simp only [Bool.not_eq_true'] at this; exact this⟩) H5 (S04.trans S5)
        · refine ⟨_, _, _, _, rfl, S04.trans S5, fun k v hk2 hv => ?_⟩
          by_cases hki : k < i
          · exact hk k v hki hv
          · have e2 : k = i := by omega
            subst e2
            rw [hy] at hv
            cases hv
            have := e
            simp only [Bool.not_eq_false'] at this
            exact this
      · obtain ⟨y2, y3, y4, y5, rfl, S2, hk⟩ := hP
        rcases h with ⟨hbad, _⟩ | ⟨ns, rfl, hp, hQ⟩
        · exfalso
          rcases hbad.2.1 with z | ⟨k, v, hk1, hv, hno⟩
          · exact z hlen
          · rw [hk k v (by rw [hw.length]; exact hk1) hv] at hno
            cases hno
        · exact hQ H' S2

/-! ### buyers_in_turn, sellers_in_turn -/
theorem ok_buyers_in_turn (T : Txt K mg) : FnOk P w K mg base CX0 1 T.f_buyers_in_turn T.d_buyers_in_turn ["wishes", "price"] (spTurn K true) := by
  refine T.D_buyers_in_turn.F.ok sc_buyers_in_turn (fun vs H Q E h => ?_) (fun cdv A outer s H vs Q E hr h => ?_)
  · obtain ⟨a, ws, p, rfl, _⟩ := h
    rfl
  · obtain ⟨a, ws, p, rfl, ⟨us, hu, hw⟩, hg, hn, q⟩ := h
    refine ⟨_, (pss_cons (ps_setLc (i := 2) (own := [("number", 3), ("side", 4), ("limit", 5), ("amount", 6)]) (g := (gTup K 2 (gCons (gName 3) (gCons (gTup K 3 (gCons (gName 4) (gCons (gName 5) (gCons (gName 6) gNil)))) gNil)))) rfl sc_buyers_in_turn.nd rfl rfl (sw_true rfl rfl rfl (by decide +kernel)) (pi_enum (by rfl) T.n_enumerate (pa_cons (pv 0) pa_nil)) (blkOk_by (own := [("number", 3), ("side", 4), ("limit", 5), ("amount", 6)]) (N := names_buyers_in_turn) (sc := defScope s_buyers_in_turn) (by decide +kernel)) (fun _ _ _ _ _ => (pg_tup (by rfl) (pgs_cons (pg_name (i := 3) sc_buyers_in_turn.nd rfl (Or.inl rfl)) (pgs_cons (pg_tup (by rfl) (pgs_cons (pg_name (i := 4) sc_buyers_in_turn.nd rfl (Or.inl rfl)) (pgs_cons (pg_name (i := 5) sc_buyers_in_turn.nd rfl (Or.inl rfl)) (pgs_cons (pg_name (i := 6) sc_buyers_in_turn.nd rfl (Or.inl rfl)) pgs_nil)))) pgs_nil)))) (fun _ _ _ _ _ => (pts_one (PW.pt (pw_and (pt_cmpR op_eq (pv 4) pe_str (nomark _)) (pw_and1 (pt_cmpR op_ge (pv 5) (pv 1) (nomark _))))))) (fun _ _ _ _ _ => (pe_tup (pa_cons (pe_un un_neg (pv 5)) (pa_cons (pv 3) pa_nil)))))
  (pss_one (ps_ret (pe_lc (own := [("rank", 7), ("number", 3)]) (g := (gTup K 2 (gCons (gName 7) (gCons (gName 3) gNil)))) (by rfl) sc_buyers_in_turn.nd (pi_list (pe_callB cr_sortedPO (by rfl) T.n_sorted (by decide +kernel) (pa_cons (pv 2) pa_nil))) (blkOk_by (own := [("rank", 7), ("number", 3)]) (N := names_buyers_in_turn) (sc := defScope s_buyers_in_turn) (by decide +kernel)) (fun _ _ _ _ _ => (pg_tup (by rfl) (pgs_cons (pg_name (i := 7) sc_buyers_in_turn.nd rfl (Or.inl rfl)) (pgs_cons (pg_name (i := 3) sc_buyers_in_turn.nd rfl (Or.inl rfl)) pgs_nil)))) (fun _ _ _ _ _ => pts_nil) (fun _ _ _ _ _ => (pv 3)))))), ?_⟩
    try dsimp only [cxOf, Cx.nox, Cx.wish]
    refine qs_setP (evp_lcEnum (pz := inB ws true p) (P := fun i y H' => PairsAt H' (keyP ws i) y) (evl_cons (ev_var rfl) evl_nil) hu (fun i y H H' t ⟨c, e, h⟩ => ⟨c, e, t.tup _ _ h⟩) (by rw [hw.length]; omega) (fun i y t H2 hy S2 hT => ?_)) fun v H1 S1 hv => ?_
    · obtain ⟨hi, t1, rfl, ht1⟩ := hw.at hy
      refine ⟨_, evg_tup (.inl (.inl hT)) rfl (evgs_cons evg_name (evgs_cons (evg_tup (S2.sqt ht1) rfl (evgs_cons evg_name (evgs_cons evg_name (evgs_cons evg_name evgs_nil)))) evgs_nil)), rfl, EvT.to (evt_and (evt_test (ev_eqS (ev_var rfl) ev_c)) fun _ => evt_test (ev_opI0 (ev_var rfl) (ev_var rfl))) (in_buy ws p i), fun e => ?_⟩
      refine EvP.to (P := fun u H' => ∃ (a : Addr) (vs : List V), u = .ref a ∧ H' a = some (.tup vs) ∧ vs = [V.int (-(wAt ws i).lim), V.int (i : Int)]) (evp_tup K (evl_cons (ev_un (ev_var rfl)) (evl_cons (ev_var rfl) evl_nil)) (fun vs H' e => by rw [e]; show 2 ≤ sizeLine; decide) (fun _ _ _ _ e => e)) fun v H' S ⟨c, vs, e1, h1, e2⟩ => ⟨c, e1, ?_⟩
      rw [h1, e2, rank_buy e]
      rfl
    · obtain ⟨l, zs, rfl, nl, hl, hp⟩ := hv
      rw [hw.length] at hp
      have hq : Paired (PairsAt H1) ((kept (inB ws true p) ws.length).map (keyP ws)) zs := paired_mapL hp
      refine q_retP (evp_seconds (ev_var rfl) hl hq nodup_keys (by rw [List.length_map]; exact Nat.le_trans kept_len hn) (fun _ _ => rfl) (fun _ _ => rfl)) fun v H2 S2 hv => ?_
      obtain ⟨D, rs, rfl, nD, hD, h1, h2⟩ := hv
      obtain ⟨ms, ht, rfl⟩ := turn_of h1 h2
      exact q D H2 ms (S1.trans S2) (S1.free nD) (by rw [hD, List.map_map]; rfl) ht
theorem ok_sellers_in_turn (T : Txt K mg) : FnOk P w K mg base CX0 1 T.f_sellers_in_turn T.d_sellers_in_turn ["wishes", "price"] (spTurn K false) := by
  refine T.D_sellers_in_turn.F.ok sc_sellers_in_turn (fun vs H Q E h => ?_) (fun cdv A outer s H vs Q E hr h => ?_)
  · obtain ⟨a, ws, p, rfl, _⟩ := h
    rfl
  · obtain ⟨a, ws, p, rfl, ⟨us, hu, hw⟩, hg, hn, q⟩ := h
    refine ⟨_, (pss_cons (ps_setLc (i := 2) (own := [("number", 3), ("side", 4), ("limit", 5), ("amount", 6)]) (g := (gTup K 2 (gCons (gName 3) (gCons (gTup K 3 (gCons (gName 4) (gCons (gName 5) (gCons (gName 6) gNil)))) gNil)))) rfl sc_sellers_in_turn.nd rfl rfl (sw_true rfl rfl rfl (by decide +kernel)) (pi_enum (by rfl) T.n_enumerate (pa_cons (pv 0) pa_nil)) (blkOk_by (own := [("number", 3), ("side", 4), ("limit", 5), ("amount", 6)]) (N := names_sellers_in_turn) (sc := defScope s_sellers_in_turn) (by decide +kernel)) (fun _ _ _ _ _ => (pg_tup (by rfl) (pgs_cons (pg_name (i := 3) sc_sellers_in_turn.nd rfl (Or.inl rfl)) (pgs_cons (pg_tup (by rfl) (pgs_cons (pg_name (i := 4) sc_sellers_in_turn.nd rfl (Or.inl rfl)) (pgs_cons (pg_name (i := 5) sc_sellers_in_turn.nd rfl (Or.inl rfl)) (pgs_cons (pg_name (i := 6) sc_sellers_in_turn.nd rfl (Or.inl rfl)) pgs_nil)))) pgs_nil)))) (fun _ _ _ _ _ => (pts_one (PW.pt (pw_and (pt_cmpR op_eq (pv 4) pe_str (nomark _)) (pw_and1 (pt_cmpR op_le (pv 5) (pv 1) (nomark _))))))) (fun _ _ _ _ _ => (pe_tup (pa_cons (pv 5) (pa_cons (pv 3) pa_nil)))))
  (pss_one (ps_ret (pe_lc (own := [("rank", 7), ("number", 3)]) (g := (gTup K 2 (gCons (gName 7) (gCons (gName 3) gNil)))) (by rfl) sc_sellers_in_turn.nd (pi_list (pe_callB cr_sortedPO (by rfl) T.n_sorted (by decide +kernel) (pa_cons (pv 2) pa_nil))) (blkOk_by (own := [("rank", 7), ("number", 3)]) (N := names_sellers_in_turn) (sc := defScope s_sellers_in_turn) (by decide +kernel)) (fun _ _ _ _ _ => (pg_tup (by rfl) (pgs_cons (pg_name (i := 7) sc_sellers_in_turn.nd rfl (Or.inl rfl)) (pgs_cons (pg_name (i := 3) sc_sellers_in_turn.nd rfl (Or.inl rfl)) pgs_nil)))) (fun _ _ _ _ _ => pts_nil) (fun _ _ _ _ _ => (pv 3)))))), ?_⟩
    try dsimp only [cxOf, Cx.nox, Cx.wish]
    refine qs_setP (evp_lcEnum (pz := inB ws false p) (P := fun i y H' => PairsAt H' (keyP ws i) y) (evl_cons (ev_var rfl) evl_nil) hu (fun i y H H' t ⟨c, e, h⟩ => ⟨c, e, t.tup _ _ h⟩) (by rw [hw.length]; omega) (fun i y t H2 hy S2 hT => ?_)) fun v H1 S1 hv => ?_
    · obtain ⟨hi, t1, rfl, ht1⟩ := hw.at hy
      refine ⟨_, evg_tup (.inl (.inl hT)) rfl (evgs_cons evg_name (evgs_cons (evg_tup (S2.sqt ht1) rfl (evgs_cons evg_name (evgs_cons evg_name (evgs_cons evg_name evgs_nil)))) evgs_nil)), rfl, EvT.to (evt_and (evt_test (ev_eqS (ev_var rfl) ev_c)) fun _ => evt_test (ev_opI0 (ev_var rfl) (ev_var rfl))) (in_sell ws p i), fun e => ?_⟩
      refine (evp_tup (P := fun vs _ => vs = [V.int (wAt ws i).lim, V.int (i : Int)]) K (evl_cons (ev_var rfl) (evl_cons (ev_var rfl) evl_nil)) (fun vs H' e => by rw [e]; show 2 ≤ sizeLine; decide) (fun _ _ _ _ e => e)).to fun v H' S ⟨c, vs, e1, h1, e2⟩ => ⟨c, e1, ?_⟩
      rw [h1, e2, rank_sell e]
      rfl
    · obtain ⟨l, zs, rfl, nl, hl, hp⟩ := hv
      rw [hw.length] at hp
      have hq : Paired (PairsAt H1) ((kept (inB ws false p) ws.length).map (keyP ws)) zs := paired_mapL hp
      refine q_retP (evp_seconds (ev_var rfl) hl hq nodup_keys (by rw [List.length_map]; exact Nat.le_trans kept_len hn) (fun _ _ => rfl) (fun _ _ => rfl)) fun v H2 S2 hv => ?_
      obtain ⟨D, rs, rfl, nD, hD, h1, h2⟩ := hv
      obtain ⟨ms, ht, rfl⟩ := turn_of h1 h2
      exact q D H2 ms (S1.trans S2) (S1.free nD) (by rw [hD, List.map_map]; rfl) ht

/-! ### pieces_at -/
def spPA (K : PySem.W.Frag) (P1 P2 C : Addr) : Sp := fun vs H Q E => ∃ (a : Addr) (ws : List Wish) (v : V), vs = [.ref a, v] ∧ WishL K H a ws ∧ Goods ws ∧ ws.length ≤ 1000 ∧ TabG H P1 ∧ TabG H P2 ∧ Kn K v H ∧
  ((numV 0 1000000000 v = false ∧ ∀ H', Sm H H' → E (.ref C) none H') ∨ ∃ p, v = .int p ∧ 0 ≤ p ∧ p ≤ 1000000000 ∧ ∀ l H', Sm H H' → H l = none → H' l = some (.lst ((dues ws p).map V.int)) → Q (.ref l) H')
theorem ok_pieces_at (T : Txt K mg) (TB1 : TabB base mg T.k_wanted.1 T.k_wanted.2) (TB2 : TabB base mg T.k_offered.1 T.k_offered.2) : FnOk P w K mg base (L2.CX P w) 5 T.f_pieces_at T.d_pieces_at ["wishes", "price"] (spPA K T.k_wanted.2 T.k_offered.2 T.a_BadPrice) := by
  have G_checked_price : FnOk P w K mg base (L2.CX P w) 3 T.f_checked_price T.d_checked_price ["thing"] (spCP K T.a_BadPrice) := ok_checked_price T
  have G_wanted : FnOk P w K mg base CX0 1 T.f_wanted T.d_wanted ["wishes", "price"] (spWanted K T.k_wanted.2) := ok_wanted T TB1
  have G_offered : FnOk P w K mg base CX0 1 T.f_offered T.d_offered ["wishes", "price"] (spOffered K T.k_offered.2) := ok_offered T TB2
  have G_buyers_in_turn : FnOk P w K mg base CX0 1 T.f_buyers_in_turn T.d_buyers_in_turn ["wishes", "price"] (spTurn K true) := ok_buyers_in_turn T
  have G_sellers_in_turn : FnOk P w K mg base CX0 1 T.f_sellers_in_turn T.d_sellers_in_turn ["wishes", "price"] (spTurn K false) := ok_sellers_in_turn T
  refine T.D_pieces_at.F.okX sc_pieces_at (fun vs H Q E h => ?_) (fun cdv A outer s H vs Q E hr h => ?_)
  · obtain ⟨a, ws, v, rfl, _⟩ := h
    rfl
  · obtain ⟨a, ws, v, rfl, hW, hg, hn, hT1, hT2, hk, h⟩ := h
    refine ⟨_, (pss_cons (ps_expr (pe_callS G_checked_price (hr.mono (by decide)) (by rfl) T.D_checked_price.g T.D_checked_price.F.kp T.D_checked_price.b (fun σ => passAt (takes_of rfl rfl rfl rfl) σ) (pa_cons (pv 1) pa_nil)))
  (pss_cons (ps_set (i := 2) sc_pieces_at.nd rfl (.inl rfl) (pe_callB (call_min2 rfl) (by rfl) T.n_min (by decide +kernel) (pa_cons (pe_call G_wanted (hr.mono (by decide)) (by rfl) T.D_wanted.g T.D_wanted.F.kp T.D_wanted.b .nil pass0 (pa_cons (pv 0) (pa_cons (pv 1) pa_nil))) (pa_cons (pe_call G_offered (hr.mono (by decide)) (by rfl) T.D_offered.g T.D_offered.F.kp T.D_offered.b .nil pass0 (pa_cons (pv 0) (pa_cons (pv 1) pa_nil))) pa_nil))))
  (pss_cons (ps_set (i := 3) sc_pieces_at.nd rfl (.inl rfl) (pe_op op_rep (pe_lst (pa_cons pe_int pa_nil)) (pe_callB call_len_seq (by rfl) T.n_len PySem.boot_len (pa_cons (pv 0) pa_nil))))
  (pss_cons (ps_for (passes_of rfl) rfl (pi_tup (pe_tup (pa_cons (pe_call G_buyers_in_turn (hr.mono (by decide)) (by rfl) T.D_buyers_in_turn.g T.D_buyers_in_turn.F.kp T.D_buyers_in_turn.b .nil pass0 (pa_cons (pv 0) (pa_cons (pv 1) pa_nil))) (pa_cons (pe_call G_sellers_in_turn (hr.mono (by decide)) (by rfl) T.D_sellers_in_turn.g T.D_sellers_in_turn.F.kp T.D_sellers_in_turn.b .nil pass0 (pa_cons (pv 0) (pa_cons (pv 1) pa_nil))) pa_nil)))) (pg_name (i := 4) sc_pieces_at.nd rfl (.inl rfl))
    (pss_cons (ps_set (i := 5) sc_pieces_at.nd rfl (.inl rfl) (pv 2))
  (pss_one (ps_for (passes_of rfl) rfl (pi_list (pv 4)) (pg_name (i := 6) sc_pieces_at.nd rfl (.inl rfl))
    (pss_cons (ps_asg (pe_ix (r := rIxL K) ix_list (pv 0) (pv 6) (fun _ _ => rfl)) (pg_tup (by rfl) (pgs_cons (pg_name (i := 7) sc_pieces_at.nd rfl (.inl rfl)) (pgs_cons (pg_name (i := 8) sc_pieces_at.nd rfl (.inl rfl)) (pgs_cons (pg_name (i := 9) sc_pieces_at.nd rfl (.inl rfl)) pgs_nil)))))
  (pss_cons (ps_asg (pe_callB (call_min2 rfl) (by rfl) T.n_min (by decide +kernel) (pa_cons (pv 9) (pa_cons (pv 5) pa_nil))) (pg_sub (pv 3) (pv 6) set_list))
  (pss_one (ps_aug (i := 5) sc_pieces_at.nd rfl (.inl rfl) (pe_ix (r := rIxL K) ix_list (pv 3) (pv 6) (fun _ _ => rfl)) ip_sub))))))))
  (pss_one (ps_ret (pv 3))))))), ?_⟩
    try dsimp only [cxOf, Cx.wish]
    refine qs_dropS (evl_cons (ev_var rfl) evl_nil) fun H1 S1 => ⟨v, rfl, hk.sm S1, ?_⟩
    rcases h with ⟨g, hE⟩ | ⟨p, rfl, h0, h1, hQ⟩
    · exact .inl ⟨g, fun H2 S2 => hE H2 (S1.trans S2)⟩
    · refine .inr ⟨numV_in h0 h1, fun H2 S2 => ?_⟩
      have S02 := S1.trans S2
      refine qs_setI (ev_min2 (ev_wanted (ev_var rfl) (ev_var rfl) (hW.sm S02) (S02.tabG hT1)) (ev_offered (ev_var rfl) (ev_var rfl) (hW.sm S02) (S02.tabG hT2))) fun dealt hd H3 S3 => ?_
      have hdeal : dealt = deal ws p := by
        rw [hd]
        unfold deal
        split <;> omega
      have S03 := S02.trans S3
      refine qs_setP (evp_rep0 (ev_lenW (ev_var rfl) (hW.sm S03)) (by omega)) fun v H4 S4 hv => ?_
      obtain ⟨d, rfl, nd, hd4⟩ := hv
      have S04 := S03.trans S4
      show tSeq (tFor _ _ _) _ _ _ _
      refine q_seq (q_forTP (R := fun xs H' => ∃ lb ls mb ms, xs = [.ref lb, .ref ls] ∧ H' lb = some (.lst (natVs mb)) ∧ H' ls = some (.lst (natVs ms)) ∧ Turn ws true p mb ∧ Turn ws false p ms ∧ lb ≠ d ∧ ls ≠ d)
        ((evp_tup (P := fun vs H' => ∃ v r, vs = v :: r ∧ (∃ l ms, v = .ref l ∧ H4 l = none ∧ H' l = some (.lst (natVs ms)) ∧ Turn ws true p ms) ∧ ∃ v2 r2, r = v2 :: r2 ∧ (∃ l ms, v2 = .ref l ∧ H4 l = none ∧ H' l = some (.lst (natVs ms)) ∧ Turn ws false p ms) ∧ r2 = []) K
          (eva_consP (evp_turn (ev_var rfl) (ev_var rfl) (hW.sm S04) hg hn) (fun v H H' S ⟨l, ms, e, n, h, t⟩ => ⟨l, ms, e, n, S.lst h, t⟩) (eva_consP (evp_turn (ev_var rfl) (ev_var rfl) (hW.sm S04) hg hn) (fun v H H' S ⟨l, ms, e, n, h, t⟩ => ⟨l, ms, e, n, S.lst h, t⟩) eva_nil))
          (fun vs H' h => by obtain ⟨v, r, rfl, _, v2, r2, rfl, _, rfl⟩ := h; show 2 ≤ sizeLine; decide)
          (fun vs H H' S h => by obtain ⟨v, r, rfl, ⟨l, ms, e, n, h, t⟩, v2, r2, rfl, ⟨l2, ms2, e2, n2, h2, t2⟩, rfl⟩ := h; exact ⟨v, _, rfl, ⟨l, ms, e, n, S.lst h, t⟩, v2, _, rfl, ⟨l2, ms2, e2, n2, S.lst h2, t2⟩, rfl⟩)).to
          fun v H' S h => by
            obtain ⟨a2, vs, e, ha2, v, r, rfl, ⟨l, ms, rfl, n, h, t⟩, v2, r2, rfl, ⟨l2, ms2, rfl, n2, h2, t2⟩, rfl⟩ := h
            exact ⟨a2, _, e, ha2, l, l2, ms, ms2, rfl, h, h2, t, t2, fun z => (by rw [z, hd4] at n; cases n), fun z => (by rw [z, hd4] at n2; cases n2)⟩)
        fun a2 xs H5 S5 ha2 hR => ?_)
      obtain ⟨lb, ls, mb, ms, rfl, hlb, hls, tb, ts, nb, ns⟩ := hR
      have hd5 := S5.lst hd4
      have na2 : a2 ≠ d := fun z => by rw [z, hd5] at ha2; cases ha2
      have S35 := S4.trans S5
      have base3 : ∀ {H'}, SmE [d] H5 H' → Sm H3 H' := fun F => (S35.e.trans F).sm fun q hq => by rw [List.mem_singleton.mp hq]; exact nd
      have ind : ∀ {x : Addr}, x ≠ d → x ∉ [d] := fun h m => h (List.mem_singleton.mp m)
      have dn0 := deal_nn (p := p) hg
      refine q_forTup (D := { nx := _, rt := _ }) (a := a2) (xs := [.ref lb, .ref ls]) (fun i σ' H' => ∃ y4 y5 y6 y7 y8 y9, σ' = [some (.ref a), some (.int p), some (.int dealt), some (.ref d), y4, y5, y6, y7, y8, y9] ∧ SmE [d] H5 H' ∧
          ∃ ps : List Int, H' d = some (.lst (ps.map V.int)) ∧ ps.length = ws.length ∧ ∀ k, k < ws.length → ps.getD k 0 = if k ∈ (if i = 0 then [] else if i = 1 then mb else mb ++ ms) then due ws p k else 0)
        (.inl (.inl ha2)) ⟨none, none, none, none, none, none, rfl, SmE.refl, _, hd5, by rw [List.length_replicate], fun k hk => ?_⟩ (fun i σ' H' _ hP => ?_) (fun i x σ' H' hx hP => ?_) (fun σ' H' hP => ?_)
      · rw [if_pos rfl, if_neg (by simp), List.getD_eq_getElem?_getD, List.getElem?_replicate]
        split <;> rfl
      · obtain ⟨_, _, _, _, _, _, _, F, _⟩ := hP
        exact .inl (.inl (F.tup (ind na2) ha2))
      · obtain ⟨y4, y5, y6, y7, y8, y9, rfl, F, ps, hps, hpl, hpk⟩ := hP
        obtain ⟨b, lx, mx, rfl, hlx, nx, tx, hdn⟩ : ∃ b lx mx, x = .ref lx ∧ H5 lx = some (.lst (natVs mx)) ∧ lx ≠ d ∧ Turn ws b p mx ∧ (if i + 1 = 0 then [] else if i + 1 = 1 then mb else mb ++ ms) = (if i = 0 then [] else if i = 1 then mb else mb ++ ms) ++ mx := by
          match i, hx with
          | 0, hx =>
            cases (Option.some.inj hx)
            exact ⟨true, lb, mb, rfl, hlb, nb, tb, rfl⟩
          | 1, hx =>
            cases (Option.some.inj hx)
            exact ⟨false, ls, ms, rfl, hls, ns, ts, rfl⟩
          | i + 2, hx => simp at hx
        generalize (if i = 0 then [] else if i = 1 then mb else mb ++ ms) = done at hpk hdn
        refine ⟨_, evg_name, fun H6 S6 => ?_⟩
        have F6 := F.trans S6.e
        refine qs_setI (ev_var rfl) fun rest hrest H7 S7 => ?_
        have F7 := F6.trans S7.e
        refine q_forG (D := { nx := _, rt := _, bk := _, ct := _ }) (a := lx) (xs := natVs mx) (fun j σ' H' => ∃ y6 y7 y8 y9, σ' = [some (.ref a), some (.int p), some (.int dealt), some (.ref d), some (.ref lx), some (.int (max 0 (dealt - ((mx.take j).map (amtAt ws)).sum))), y6, y7, y8, y9] ∧ SmE [d] H5 H' ∧
            ∃ ps : List Int, H' d = some (.lst (ps.map V.int)) ∧ ps.length = ws.length ∧ ∀ k, k < ws.length → ps.getD k 0 = if k ∈ done ++ mx.take j then due ws p k else 0)
          (ev_var rfl) (.inl (.inl (F7.lst (ind nx) hlx))) (fun H8 S8 => ⟨y6, y7, y8, y9, ?_, F7.trans S8.e, ps, (S6.trans (S7.trans S8)).lst hps, hpl, fun k hk => by rw [List.take_zero, List.append_nil]; exact hpk k hk⟩) (fun j σ' H' _ hP => ?_) (fun j x σ' H' hx hP => ?_) (fun σ' H' hP => ?_)
        · have e : max 0 (dealt - ((mx.take 0).map (amtAt ws)).sum) = rest := by
            rw [List.take_zero, hrest]
            show max 0 (dealt - 0) = dealt
            omega
          rw [e]
          rfl
        · obtain ⟨_, _, _, _, _, G, _⟩ := hP
          exact .inl (.inl (G.lst (ind nx) hlx))
        · obtain ⟨z6, z7, z8, z9, rfl, G, qs, hqs, hql, hqk⟩ := hP
          obtain ⟨m, hm, rfl⟩ := natVs_get hx
          have hmn := (tx.mem (List.mem_of_getElem? hm)).1
          refine ⟨_, evg_name, fun H8 S8 => ?_⟩
          have G8 := G.trans S8.e
          refine qs_unw (w := wAt ws m) (evp_wish (ev_var rfl) (ev_var rfl) (hW.sm (S03.trans (base3 G8))) hmn) fun H9 S9 => ?_
          have G9 := G8.trans S9.e
          have hqs9 := (S8.trans S9).lst hqs
          have hqm : m < qs.length := by omega
          have hsum := take_sum (f := amtAt ws) hm
          have hdue := tx.due hm
          have ha1 : 1 ≤ amtAt ws m := (wAt_good hg hmn).a0
          refine q_seq (q_put (P := fun y _ => y = .int (due ws p m)) (Ev.p (Ev.to (ev_min2 (ev_var rfl) (ev_var rfl)) ?_)) (ev_var rfl) (ev_var rfl) hqs9 (by rw [List.length_map]; exact ixN_nat hqm) fun y H10 H11 S10 ey S11 h11 => ?_)
          · rw [hdue, ← hdeal]
            show V.int (if _ < amtAt ws m then _ else amtAt ws m) = _
            congr 1
            split <;> omega
          · subst ey
            have G11 := (G9.trans (S10.trans S11).e).upd (p := d) (o := .lst ((qs.map V.int).set m (.int (due ws p m)))) List.mem_cons_self
            have hset : (qs.map V.int).set m (.int (due ws p m)) = (qs.set m (due ws p m)).map V.int := (List.map_set ..).symm
            dsimp only
            rw [hset]
            rw [hset] at G11
            have hm2 : m < (qs.set m (due ws p m)).length := by rw [List.length_set]; exact hqm
            refine q_aug rfl ((ev_ixN (ns := qs.set m (due ws p m)) (ev_var rfl) (ev_var rfl) (.inl (.inl upd_same)) hm2).to (v' := .int (due ws p m)) (by rw [getD_set hqm, if_pos rfl])) fun H12 S12 => ?_
            refine ⟨some (.int (m : Int)), some (.str (wAt ws m).side), some (.int (wAt ws m).lim), some (.int (wAt ws m).amt), ?_, G11.trans S12.e, _, S12.lst upd_same, by rw [List.length_set]; exact hql, fun k hk => ?_⟩
            · rw [hsum, show max 0 (dealt - (((mx.take j).map (amtAt ws)).sum + amtAt ws m)) = max 0 (dealt - ((mx.take j).map (amtAt ws)).sum) - due ws p m by rw [hdue, ← hdeal]; omega]
              rfl
            · rw [getD_set hqm, take_snoc hm]
              by_cases e : k = m
              · rw [if_pos e, if_pos (by rw [e]; simp), e]
              · rw [if_neg e, hqk k hk]
                have : (k ∈ done ++ (mx.take j ++ [m])) ↔ k ∈ done ++ mx.take j := by simp [e]
                by_cases hmem : k ∈ done ++ mx.take j
                · rw [if_pos hmem, if_pos (this.mpr hmem)]
                · rw [if_neg hmem, if_neg (fun z => hmem (this.mp z))]
        · obtain ⟨z6, z7, z8, z9, rfl, G, qs, hqs, hql, hqk⟩ := hP
          refine ⟨_, _, _, _, _, _, rfl, G, qs, hqs, hql, fun k hk => ?_⟩
          have e := hqk k hk
          rw [show (natVs mx).length = mx.length by unfold natVs; rw [List.length_map], List.take_length] at e
          rw [e, hdn]
      · obtain ⟨y4, y5, y6, y7, y8, y9, rfl, F, ps, hps, hpl, hpk⟩ := hP
        dsimp only
        have e : ps = dues ws p := by
          refine eq_of_getD (by rw [hpl, dues_len]) fun k hk => ?_
          rw [hpl] at hk
          rw [dues_at hk]
          refine (hpk k hk).trans ?_
          show (if k ∈ mb ++ ms then due ws p k else 0) = _
          by_cases hm : k ∈ mb ++ ms
          · rw [if_pos hm]
          · rw [if_neg hm]
            have h1 : inB ws true p k = false := by
              cases z : inB ws true p k with
              | false => rfl
              | true => exact absurd (List.mem_append_left _ (tb.has hk z)) hm
            have h2 : inB ws false p k = false := by
              cases z : inB ws false p k with
              | false => rfl
              | true => exact absurd (List.mem_append_right _ (ts.has hk z)) hm
            exact (due_off h1 h2).symm
        subst e
        refine q_ret (ev_var rfl) fun H6 S6 => hQ d H6 (S03.trans ((base3 F).trans S6)) (S03.free nd) (S6.lst hps)

/-! ### pieces_of_side, even -/
theorem ok_pieces_of_side (T : Txt K mg) : FnOk P w K mg base CX0 1 T.f_pieces_of_side T.d_pieces_of_side ["wishes", "pieces", "one_side"] (spPS K) := by
  refine T.D_pieces_of_side.F.ok sc_pieces_of_side (fun vs H Q E h => ?_) (fun cdv A outer s H vs Q E hr h => ?_)
  · obtain ⟨a, b, ws, ns, c, rfl, _⟩ := h
    rfl
  · obtain ⟨a, b, ws, ns, c, rfl, ⟨us, hu, hw⟩, hS, hl, hn, q⟩ := h
    refine ⟨_, (pss_one (ps_ret (pe_callB (cr_sum (by rfl)) (by rfl) T.n_sum (by decide +kernel) (pa_cons (pe_lc (own := [("side", 4), ("limit", 5), ("amount", 6), ("part", 3)]) (g := (gTup K 2 (gCons (gTup K 3 (gCons (gName 4) (gCons (gName 5) (gCons (gName 6) gNil)))) (gCons (gName 3) gNil)))) (by rfl) sc_pieces_of_side.nd (pi_zip (by rfl) T.n_zip (pa_cons (pv 0) (pa_cons (pv 1) pa_nil))) (blkOk_by (own := [("side", 4), ("limit", 5), ("amount", 6), ("part", 3)]) (N := names_pieces_of_side) (sc := defScope s_pieces_of_side) (by decide +kernel)) (fun _ _ _ _ _ => (pg_tup (by rfl) (pgs_cons (pg_tup (by rfl) (pgs_cons (pg_name (i := 4) sc_pieces_of_side.nd rfl (Or.inl rfl)) (pgs_cons (pg_name (i := 5) sc_pieces_of_side.nd rfl (Or.inl rfl)) (pgs_cons (pg_name (i := 6) sc_pieces_of_side.nd rfl (Or.inl rfl)) pgs_nil)))) (pgs_cons (pg_name (i := 3) sc_pieces_of_side.nd rfl (Or.inl rfl)) pgs_nil)))) (fun _ _ _ _ _ => (pts_one (pt_cmpR op_eq (pv 4) (pv 2) (nomark _)))) (fun _ _ _ _ _ => (pv 3))) pa_nil)))), ?_⟩
    try dsimp only [cxOf, Cx.nox, Cx.wish]
    refine q_ret ((ev_sumP (ns := (kept (onSide ws c) ws.length).map fun k => ns.getD k 0) ((evp_lcZip (pz := onSide ws c) (P := fun i y _ => y = .int (ns.getD i 0)) (evl_cons (ev_var rfl) (evl_cons (ev_var rfl) evl_nil)) hu hS (n := ws.length) (by rw [hw.length, List.length_map, hl]; omega) (fun _ _ _ _ _ e => e) (by omega) (fun i x y t H3 hx hy S3 hT => ?_)).to fun v H' S ⟨D, zs, e, nD, hD, hp⟩ => ⟨D, e, .inl (.inl ?_)⟩)).to (by rw [sum_kept])) fun H3 S3 => q H3 S3
    · obtain ⟨hi, t1, rfl, ht1⟩ := hw.at hx
      rw [List.getElem?_map] at hy
      obtain ⟨m, hm, rfl⟩ := Option.map_eq_some_iff.mp hy
      have em : ns.getD i 0 = m := by rw [List.getD_eq_getElem?_getD, hm]; rfl
      refine ⟨_, evg_tup (.inl (.inl hT)) rfl (evgs_cons (evg_tup (S3.sqt ht1) rfl (evgs_cons evg_name (evgs_cons evg_name (evgs_cons evg_name evgs_nil)))) (evgs_cons evg_name evgs_nil)), rfl, EvT.to (evt_test (ev_eqS (ev_var rfl) (ev_var rfl))) (side_test _ _), fun _ => ((ev_var rfl).p).to fun v H' S e => by rw [e, em]⟩
    · rw [hD, paired_map hp, List.map_map]
      rfl
def evenV (ws : List Wish) (ns : List Int) : V := .bl (decide (sideSum ws ns true ws.length = sideSum ws ns false ws.length))
theorem ok_even (T : Txt K mg) : FnOk P w K mg base (L2.CX P w) 5 T.f_even T.d_even ["wishes", "pieces"] (spRow K T.a_BadPieces evenV) := by
  have G_check_pieces : FnOk P w K mg base (L2.CX P w) 3 T.f_check_pieces T.d_check_pieces ["wishes", "pieces"] (spRow K T.a_BadPieces fun _ _ => .non) := ok_check_pieces T
  have G_pieces_of_side : FnOk P w K mg base CX0 1 T.f_pieces_of_side T.d_pieces_of_side ["wishes", "pieces", "one_side"] (spPS K) := ok_pieces_of_side T
  refine T.D_even.F.okX sc_even (fun vs H Q E h => ?_) (fun cdv A outer s H vs Q E hr h => ?_)
  · obtain ⟨a, b, ws, xs, rfl, _⟩ := h
    rfl
  · obtain ⟨a, b, ws, xs, rfl, hW, hg, hn, hb, h⟩ := h
    refine ⟨_, (pss_cons (ps_expr (pe_callS G_check_pieces (hr.mono (by decide)) (by rfl) T.D_check_pieces.g T.D_check_pieces.F.kp T.D_check_pieces.b (fun σ => passAt (takes_of rfl rfl rfl rfl) σ) (pa_cons (pv 0) (pa_cons (pv 1) pa_nil))))
  (pss_one (ps_ret (pe_cmpR op_eq (pe_call G_pieces_of_side (hr.mono (by decide)) (by rfl) T.D_pieces_of_side.g T.D_pieces_of_side.F.kp T.D_pieces_of_side.b .nil pass0 (pa_cons (pv 0) (pa_cons (pv 1) (pa_cons pe_str pa_nil)))) (pe_call G_pieces_of_side (hr.mono (by decide)) (by rfl) T.D_pieces_of_side.g T.D_pieces_of_side.F.kp T.D_pieces_of_side.b .nil pass0 (pa_cons (pv 0) (pa_cons (pv 1) (pa_cons pe_str pa_nil)))) (nomark _))))), ?_⟩
    try dsimp only [cxOf, Cx.wish]
    refine qs_dropS (evl_cons (ev_var rfl) (evl_cons (ev_var rfl) evl_nil)) fun H1 S1 => ⟨a, b, ws, xs, rfl, hW.sm S1, hg, hn, S1.lst hb, ?_⟩
    rcases h with ⟨hbad, hE⟩ | ⟨ns, rfl, hp, hQ⟩
    · exact .inl ⟨hbad.sm S1, fun H2 S2 => hE H2 (S1.trans S2)⟩
    · refine .inr ⟨ns, rfl, hp, fun H2 S2 => ?_⟩
      have S02 := S1.trans S2
      exact q_ret (ev_eqI (ev_ps (c := true) (ev_var rfl) (ev_var rfl) ev_c rfl (hW.sm S02) (.inl (.inl (S02.lst hb))) hp.len hn) (ev_ps (c := false) (ev_var rfl) (ev_var rfl) ev_c rfl (hW.sm S02) (.inl (.inl (S02.lst hb))) hp.len hn)) fun H3 S3 => hQ H3 (S02.trans S3)

/-! ### dealers, pairs -/
theorem ok_dealers (T : Txt K mg) : FnOk P w K mg base CX0 1 T.f_dealers T.d_dealers ["wishes", "pieces", "one_side"] (spDl K) := by
  refine T.D_dealers.F.ok sc_dealers (fun vs H Q E h => ?_) (fun cdv A outer s H vs Q E hr h => ?_)
  · obtain ⟨a, b, ws, ns, c, rfl, _⟩ := h
    rfl
  · obtain ⟨a, b, ws, ns, c, rfl, ⟨us, hu, hw⟩, hS, hl, hn, q⟩ := h
    refine ⟨_, (pss_one (ps_ret (pe_lc (own := [("number", 3), ("wish", 4)]) (g := (gTup K 2 (gCons (gName 3) (gCons (gName 4) gNil)))) (by rfl) sc_dealers.nd (pi_enum (by rfl) T.n_enumerate (pa_cons (pv 0) pa_nil)) (blkOk_by (own := [("number", 3), ("wish", 4)]) (N := names_dealers) (sc := defScope s_dealers) (by decide +kernel)) (fun _ _ _ _ _ => (pg_tup (by rfl) (pgs_cons (pg_name (i := 3) sc_dealers.nd rfl (Or.inl rfl)) (pgs_cons (pg_name (i := 4) sc_dealers.nd rfl (Or.inl rfl)) pgs_nil)))) (fun _ _ _ _ _ => (pts_one (PW.pt (pw_and (pt_cmpR op_eq (pe_ix (r := rIxT K) ix_tup (pv 4) pe_int (fun _ _ => rfl)) (pv 2) (nomark _)) (pw_and1 (pt_cmpR op_gt (pe_ix (r := rIxL K) ix_list (pv 1) (pv 3) (fun _ _ => rfl)) pe_int (nomark _))))))) (fun _ _ _ _ _ => (pv 3))))), ?_⟩
    try dsimp only [cxOf, Cx.nox, Cx.wish]
    refine q_retP (evp_lcEnum (pz := onB ws ns c) (P := fun i y _ => y = V.int (i : Int)) (evl_cons (ev_var rfl) evl_nil) hu (fun _ _ _ _ _ e => e) (by rw [hw.length]; omega) (fun i y t H5 hy S5 hT => ?_)) fun v H5 S5 hv => ?_
    · obtain ⟨hi, t1, rfl, ht1⟩ := hw.at hy
      refine ⟨_, evg_tup (.inl (.inl hT)) rfl (evgs_cons evg_name (evgs_cons evg_name evgs_nil)), rfl, EvT.to (evt_and (evt_test (ev_eqS (ev_vSide (ev_var rfl) (S5.sqt ht1)) (ev_var rfl))) fun _ => evt_test (ev_opI0 (ev_ixN (ev_var rfl) (ev_var rfl) (S5.sql hS) (by omega)) ev_c)) ?_, fun _ => (ev_var rfl).p⟩
      rw [side_test]
      rfl
    · obtain ⟨D, zs, rfl, nD, hD, hpd⟩ := hv
      refine q D H5 S5 nD ?_
      rw [hD, paired_map hpd, hw.length]
      rfl
set_option maxHeartbeats 2000000 in
theorem ok_pairs (T : Txt K mg) : FnOk P w K mg base (L2.CX P w) 7 T.f_pairs T.d_pairs ["wishes", "pieces"] (spPairs K T.a_BadPieces T.a_Uneven) := by
  have G_even : FnOk P w K mg base (L2.CX P w) 5 T.f_even T.d_even ["wishes", "pieces"] (spRow K T.a_BadPieces evenV) := ok_even T
  have G_dealers : FnOk P w K mg base CX0 1 T.f_dealers T.d_dealers ["wishes", "pieces", "one_side"] (spDl K) := ok_dealers T
  refine T.D_pairs.F.okX sc_pairs (fun vs H Q E h => ?_) (fun cdv A outer s H vs Q E hr h => ?_)
  · obtain ⟨a, b, ws, xs, rfl, _⟩ := h
    rfl
  · obtain ⟨a, b, ws, xs, rfl, hW, hg, hn, hb, h⟩ := h
    refine ⟨_, (pss_cons (ps_if (pt_not (pt_val (pe_callS G_even (hr.mono (by decide)) (by rfl) T.D_even.g T.D_even.F.kp T.D_even.b (fun σ => passAt (takes_of rfl rfl rfl rfl) σ) (pa_cons (pv 0) (pa_cons (pv 1) pa_nil)))))
    (pss_one (ps_raise rfl (takes_of rfl rfl rfl rfl) (pmk_own PySem.F.excBase_ValueError T.R_Uneven.ex T.g_Uneven T.R_Uneven.kp (raises_own T.R_Uneven.be T.R_Uneven.ty) (by rfl))))
    pss_nil)
  (pss_cons (ps_set (i := 2) sc_pairs.nd rfl (.inl rfl) (pe_callTy call_list_of (by rfl) T.n_list (by decide +kernel) (pa_cons (pv 1) pa_nil)))
  (pss_cons (ps_set (i := 3) sc_pairs.nd rfl (.inl rfl) (pe_call G_dealers (hr.mono (by decide)) (by rfl) T.D_dealers.g T.D_dealers.F.kp T.D_dealers.b .nil pass0 (pa_cons (pv 0) (pa_cons (pv 1) (pa_cons pe_str pa_nil)))))
  (pss_cons (ps_set (i := 4) sc_pairs.nd rfl (.inl rfl) pe_int)
  (pss_cons (ps_set (i := 5) sc_pairs.nd rfl (.inl rfl) (pe_lst pa_nil))
  (pss_cons (ps_for (passes_of rfl) rfl (pi_list (pe_call G_dealers (hr.mono (by decide)) (by rfl) T.D_dealers.g T.D_dealers.F.kp T.D_dealers.b .nil pass0 (pa_cons (pv 0) (pa_cons (pv 1) (pa_cons pe_str pa_nil))))) (pg_name (i := 6) sc_pairs.nd rfl (.inl rfl))
    (pss_one (ps_while (passes_of rfl) (pt_cmpR op_gt (pe_ix (r := rIxL K) ix_list (pv 2) (pv 6) (fun _ _ => rfl)) pe_int (nomark _))
    (pss_cons (ps_set (i := 7) sc_pairs.nd rfl (.inl rfl) (pe_ix (r := rIxL K) ix_list (pv 3) (pv 4) (fun _ _ => rfl)))
  (pss_cons (ps_set (i := 8) sc_pairs.nd rfl (.inl rfl) (pe_callB (call_min2 rfl) (by rfl) T.n_min (by decide +kernel) (pa_cons (pe_ix (r := rIxL K) ix_list (pv 2) (pv 6) (fun _ _ => rfl)) (pa_cons (pe_ix (r := rIxL K) ix_list (pv 2) (pv 7) (fun _ _ => rfl)) pa_nil))))
  (pss_cons (ps_expr (pe_bm PySem.F.plainAttrs_list PySem.F.slot_list_append PySem.F.type_list_append mt_append (pv 5) (pa_cons (pe_tup (pa_cons (pv 6) (pa_cons (pv 7) (pa_cons (pv 8) pa_nil)))) pa_nil)))
  (pss_cons (ps_augS (pv 2) (pv 6) get_list (pv 8) ip_sub set_list)
  (pss_cons (ps_augS (pv 2) (pv 7) get_list (pv 8) ip_sub set_list)
  (pss_one (ps_if (pt_cmpR op_eq (pe_ix (r := rIxL K) ix_list (pv 2) (pv 7) (fun _ _ => rfl)) pe_int (nomark _))
    (pss_one (ps_aug (i := 4) sc_pairs.nd rfl (.inl rfl) pe_int ip_add))
    pss_nil))))))))))
  (pss_one (ps_ret (pv 5))))))))), ?_⟩
    try dsimp only [cxOf, Cx.wish]
    refine qs_ifNotS (evl_cons (ev_var rfl) (evl_cons (ev_var rfl) evl_nil)) fun H1 S1 => ⟨a, b, ws, xs, rfl, hW.sm S1, hg, hn, S1.lst hb, ?_⟩
    rcases h with ⟨hbad, hE⟩ | ⟨ns, rfl, hp, h⟩
    · exact .inl ⟨hbad.sm S1, fun H2 S2 => hE H2 (S1.trans S2)⟩
    · refine .inr ⟨ns, rfl, hp, fun H2 S2 => ⟨_, rfl, fun e => ?_, fun e => ?_⟩⟩
      · rcases h with ⟨_, hE⟩ | ⟨hev, _⟩
        · exact hE H2 (S1.trans S2)
        · exact absurd hev (of_decide_eq_false (p := sideSum ws ns true ws.length = sideSum ws ns false ws.length) e)
      · have hev : EvenP ws ns := of_decide_eq_true (p := sideSum ws ns true ws.length = sideSum ws ns false ws.length) e
        have hQ : ∀ l H' ds ys, Sm H H' → H l = none → H' l = some (.lst ys) → Paired (DealAt H') ds ys → Paird ws ns ds → Q (.ref l) H' := by
          rcases h with ⟨hno, _⟩ | ⟨_, hQ⟩
          · exact absurd hev hno
          · exact hQ
        have S02 := S1.trans S2
        refine qs_setP (evp_copyN (ev_var rfl) (.inl (.inl (S02.lst hb)))) fun v H3 S3 hv => ?_
        obtain ⟨r, rfl, nr, hr3⟩ := hv
        have S03 := S02.trans S3
        refine qs_setP (evp_dl (c := false) (ev_var rfl) (ev_var rfl) ev_c rfl (hW.sm S03) (.inl (.inl (S03.lst hb))) hp.len hn) fun v H4 S4 hv => ?_
        obtain ⟨ls, rfl, nls, hls⟩ := hv
        have nsr : ls ≠ r := fun z => by rw [z, hr3] at nls; cases nls
        refine qs_set ev_c fun H5 S5 => ?_
        refine qs_setP evp_lst0 fun v H6 S6 hv => ?_
        obtain ⟨d, rfl, nd, hd6⟩ := hv
        have S45 := S4.trans S5
        have S06 := S03.trans (S45.trans S6)
        have hr5 := S45.lst hr3
        have hls5 := S5.lst hls
        have ndr : d ≠ r := fun z => by rw [z, hr5] at nd; cases nd
        have nds : ls ≠ d := fun z => by rw [← z, hls5] at nd; cases nd
        have nd0 : H d = none := S03.free (S45.free nd)
        have nr0 : H r = none := S02.free nr
        show tSeq (tFor _ _ _) _ _ _ _
        refine q_seq (q_forP (R := fun lb xs _ => xs = natVs (dl ws ns true) ∧ lb ≠ r ∧ lb ≠ d) ((evp_dl (c := true) (ev_var rfl) (ev_var rfl) ev_c rfl (hW.sm S06) (.inl (.inl (S06.lst hb))) hp.len hn).to fun v H' S ⟨l, e, n, hl⟩ => ⟨l, _, e, .inl (.inl hl), rfl, (fun z => by rw [z, (S6.lst hr5)] at n; cases n), (fun z => by rw [z, hd6] at n; cases n)⟩) fun lb xs H7 S7 hlb ⟨ex, nbr, nbd⟩ => ?_)
        subst ex
        have S07 := S06.trans S7
        have base0 : ∀ {H'}, SmE [r, d] H7 H' → Sm H H' := fun F => (S07.e.trans F).sm fun q hq => by
          rcases List.mem_cons.mp hq with z | z
          · rw [z]; exact nr0
          · rw [List.mem_singleton.mp z]; exact nd0
        have nin : ∀ {x : Addr}, x ≠ r → x ≠ d → x ∉ [r, d] := fun h1 h2 m => by
          rcases List.mem_cons.mp m with z | z
          · exact h1 z
          · exact h2 (List.mem_singleton.mp z)
        have hls7 : H7 ls = some (.lst (natVs (dl ws ns false))) := S7.lst (S6.lst hls5)
        have hlbE : ∀ {H'}, SmE [r, d] H7 H' → SqL K H' lb (natVs (dl ws ns true)) := fun F => by
          rcases hlb with (z | ⟨o, z⟩) | z
          · exact .inl (.inl (F.lst (nin nbr nbd) z))
          · exact .inl (.inr ⟨o, F.at (nin nbr nbd) z fun _ y => by cases y⟩)
          · exact .inr z
        refine q_forG (D := { nx := _, rt := _ }) (a := lb) (xs := natVs (dl ws ns true)) (fun i σ' H' => ∃ at_ rs ds ys y6 y7 y8, σ' = [some (.ref a), some (.ref b), some (.ref r), some (.ref ls), some (.int ((at_ : Nat) : Int)), some (.ref d), y6, y7, y8] ∧ SmE [r, d] H7 H' ∧ H' r = some (.lst (rs.map V.int)) ∧ H' d = some (.lst ys) ∧ Paired (DealAt H') ds ys ∧ PInv ws ns rs ds at_ i)
          ev_c hlb (fun H8 S8 => ⟨0, ns, [], [], none, none, none, rfl, S8.e, S8.lst (S7.lst (S6.lst hr5)), S8.lst (S7.lst hd6), .nil, PInv.start hp hev⟩) (fun i σ' H' _ hP => ?_) (fun i x σ' H' hx hP => ?_) (fun σ' H' hP => ?_)
        · obtain ⟨_, _, _, _, _, _, _, _, F, _⟩ := hP
          exact hlbE F
        · obtain ⟨at0, rs0, ds0, ys0, y6, y7, y8, rfl, F, hr0, hd0, hy0, I0⟩ := hP
          obtain ⟨bu, hbu, rfl⟩ := natVs_get hx
          have hbn := (dl_at hbu).1
          refine ⟨_, evg_name, fun H8 S8 => ?_⟩
          refine q_while (D := { nx := _, rt := _, bk := _, ct := _ }) (fun m σ' H' => ∃ at_ rs ds ys y7 y8, σ' = [some (.ref a), some (.ref b), some (.ref r), some (.ref ls), some (.int ((at_ : Nat) : Int)), some (.ref d), some (.int (bu : Int)), y7, y8] ∧ SmE [r, d] H7 H' ∧ H' r = some (.lst (rs.map V.int)) ∧ H' d = some (.lst ys) ∧ Paired (DealAt H') ds ys ∧ PInv ws ns rs ds at_ i ∧ m = (rs.getD bu 0).toNat)
            ⟨at0, rs0, ds0, ys0, y7, y8, rfl, F.trans S8.e, S8.lst hr0, S8.lst hd0, DealAt.sm S8 hy0, I0, rfl⟩ (fun m σ' H' hP => ?_)
          obtain ⟨at_, rs, ds, ys, z7, z8, rfl, G, hrr, hdd, hyy, I, rfl⟩ := hP
          have bl : bu < rs.length := by rw [I.len]; exact hbn
          refine ⟨_, evt_test (ev_opI0 (ev_ixN (ev_var rfl) (ev_var rfl) (.inl (.inl hrr)) bl) ev_c), fun e2 H9 S9 => ?_, fun e2 H9 S9 => ?_⟩
          · have hpos : 0 < rs.getD bu 0 := of_decide_eq_true e2
            obtain ⟨se, hse⟩ := I.seller hbu hpos
            have hsn := (dl_at hse).1
            have sl : se < rs.length := by rw [I.len]; exact hsn
            have hls9 : SqL K H9 ls (natVs (dl ws ns false)) := .inl (.inl (S9.lst (G.lst (nin nsr nds) hls7)))
            refine qs_setI (n := (se : Int)) (ev_ixL (ev_var rfl) (ev_var rfl) hls9 (at_of (j := at_) rfl (by unfold natVs; rw [List.getElem?_map, hse]; rfl))) fun sel hsel H10 S10 => ?_
            subst hsel
            have hr10 : SqL K H10 r (rs.map V.int) := .inl (.inl (S10.lst (S9.lst hrr)))
            refine qs_setI (ev_min2 (ev_ixN (ev_var rfl) (ev_var rfl) hr10 bl) (ev_ixN (ev_var rfl) (ev_var rfl) hr10 sl)) fun many hmany H11 S11 => ?_
            have hmin : many = min (rs.getD bu 0) (rs.getD se 0) := by
              rw [hmany]
              split <;> omega
            obtain ⟨m1, hs1, I2, hb2⟩ := I.step hbu hse hpos hmin
            have S911 := S9.trans (S10.trans S11)
            have hlen : ys.length < sizeLine := by
              have h1 := Paired.length hyy
              have h2 := deals_len I.ok I.ris
              exact Nat.lt_of_lt_of_le (show ys.length < 2001 by omega) (by decide)
            refine q_seq (q_app (P := fun y H' => ∃ t, y = .ref t ∧ H' t = some (.tup [.int (bu : Int), .int (se : Int), .int many])) (ev_var rfl) (S911.lst hdd) hlen ((evp_tup (P := fun vs _ => vs = [V.int (bu : Int), V.int (se : Int), V.int many]) K (evl_cons (ev_var rfl) (evl_cons (ev_var rfl) (evl_cons (ev_var rfl) evl_nil))) (fun vs H' e => by rw [e]; show 3 ≤ sizeLine; decide) (fun _ _ _ _ e => e)).to fun v H' S ⟨t, vs, e, h, e3⟩ => ⟨t, e, by rw [h, e3]⟩) fun y H12 S12 hy hd12 => ?_)
            obtain ⟨t, rfl, ht⟩ := hy
            have t1 : Tq K H12 (upd H12 d (.lst (ys ++ [.ref t]))) := tq_lst hd12
            have G12 := (G.trans (S911.trans S12).e).upd (p := d) (o := .lst (ys ++ [.ref t])) (List.mem_cons_of_mem _ List.mem_cons_self)
            have hr12 : upd H12 d (.lst (ys ++ [.ref t])) r = some (.lst (rs.map V.int)) := by
              rw [upd_ne (Ne.symm ndr)]
              exact (S911.trans S12).lst hrr
            have hd12' : upd H12 d (.lst (ys ++ [.ref t])) d = some (.lst (ys ++ [.ref t])) := upd_same
            have hy12 : Paired (DealAt (upd H12 d (.lst (ys ++ [.ref t])))) (ds ++ [(bu, se, many)]) (ys ++ [.ref t]) := Paired.snoc (DealAt.tq t1 (DealAt.sm (S911.trans S12) hyy)) ⟨t, rfl, t1.tup _ _ ht⟩
            generalize upd H12 d (.lst (ys ++ [.ref t])) = H13 at t1 G12 hr12 hd12' hy12
            dsimp only
            refine q_seq (q_augL (f := fun i j => i - j) (m := rs.getD bu 0) (n := many) (j := bu) (ev_var rfl) (ev_var rfl) (ev_var rfl) hr12 (by rw [List.length_map]; exact ixN_nat bl) (by rw [List.getElem?_map, List.getElem?_eq_getElem bl, List.getD_eq_getElem?_getD, List.getElem?_eq_getElem bl]; rfl) fun H14 S14 hr14 => ?_)
            have e14 : (rs.map V.int).set bu (.int (rs.getD bu 0 - many)) = (rs.set bu (rs.getD bu 0 - many)).map V.int := (List.map_set ..).symm
            rw [e14]
            have sl1 : se < (rs.set bu (rs.getD bu 0 - many)).length := by rw [List.length_set]; exact sl
            have t14 : Tq K H14 (upd H14 r (.lst ((rs.set bu (rs.getD bu 0 - many)).map V.int))) := tq_lst hr14
            have G14 := (G12.trans S14.e).upd (p := r) (o := .lst ((rs.set bu (rs.getD bu 0 - many)).map V.int)) List.mem_cons_self
            have hd14 : upd H14 r (.lst ((rs.set bu (rs.getD bu 0 - many)).map V.int)) d = some (.lst (ys ++ [.ref t])) := by
              rw [upd_ne ndr]
              exact S14.lst hd12'
            have hr14' : upd H14 r (.lst ((rs.set bu (rs.getD bu 0 - many)).map V.int)) r = some (.lst ((rs.set bu (rs.getD bu 0 - many)).map V.int)) := upd_same
            have hy14 := DealAt.tq t14 (DealAt.sm S14 hy12)
            generalize upd H14 r (.lst ((rs.set bu (rs.getD bu 0 - many)).map V.int)) = H15 at t14 G14 hd14 hr14' hy14
            dsimp only
            refine q_seq (q_augL (f := fun i j => i - j) (m := rs.getD se 0) (n := many) (j := se) (ev_var rfl) (ev_var rfl) (ev_var rfl) hr14' (by rw [List.length_map]; exact ixN_nat sl1) (by rw [List.getElem?_map, List.getElem?_eq_getElem sl1]; have := hs1; rw [List.getD_eq_getElem?_getD, List.getElem?_eq_getElem sl1] at this; exact congrArg (fun z => some (V.int z)) this) fun H16 S16 hr16 => ?_)
            have e16 : ((rs.set bu (rs.getD bu 0 - many)).map V.int).set se (.int (rs.getD se 0 - many)) = ((rs.set bu (rs.getD bu 0 - many)).set se (rs.getD se 0 - many)).map V.int := (List.map_set ..).symm
            rw [e16]
            have t16 : Tq K H16 (upd H16 r (.lst (((rs.set bu (rs.getD bu 0 - many)).set se (rs.getD se 0 - many)).map V.int))) := tq_lst hr16
            have G16 := (G14.trans S16.e).upd (p := r) (o := .lst (((rs.set bu (rs.getD bu 0 - many)).set se (rs.getD se 0 - many)).map V.int)) List.mem_cons_self
            have hd16 : upd H16 r (.lst (((rs.set bu (rs.getD bu 0 - many)).set se (rs.getD se 0 - many)).map V.int)) d = some (.lst (ys ++ [.ref t])) := by
              rw [upd_ne ndr]
              exact S16.lst hd14
            have hr16' : upd H16 r (.lst (((rs.set bu (rs.getD bu 0 - many)).set se (rs.getD se 0 - many)).map V.int)) r = some (.lst (((rs.set bu (rs.getD bu 0 - many)).set se (rs.getD se 0 - many)).map V.int)) := upd_same
            have hy16 := DealAt.tq t16 (DealAt.sm S16 hy14)
            generalize upd H16 r (.lst (((rs.set bu (rs.getD bu 0 - many)).set se (rs.getD se 0 - many)).map V.int)) = H17 at t16 G16 hd16 hr16' hy16
            have hlt : (((rs.set bu (rs.getD bu 0 - many)).set se (rs.getD se 0 - many)).getD bu 0).toNat < (rs.getD bu 0).toNat := by
              rw [hb2]
              omega
            have sl2 : se < ((rs.set bu (rs.getD bu 0 - many)).set se (rs.getD se 0 - many)).length := by rw [List.length_set]; exact sl1
            have vs2 : ((rs.set bu (rs.getD bu 0 - many)).set se (rs.getD se 0 - many)).getD se 0 = rs.getD se 0 - many := by rw [getD_set sl1, if_pos rfl]
            dsimp only
            refine q_if (b := decide (rs.getD se 0 - many = 0)) (EvT.to (evt_test (ev_eqI (ev_ixN (ev_var rfl) (ev_var rfl) (.inl (.inl hr16')) sl2) ev_c)) (by rw [vs2])) (fun e3 H18 S18 => ?_) (fun e3 H18 S18 => q_next ?_)
            · rw [if_pos (of_decide_eq_true e3)] at I2
              refine q_aug (f := fun i j => i + j) rfl ev_c fun H19 S19 => ?_
              have S1719 := S18.trans S19
              exact ⟨_, hlt, at_ + 1, _, _, _, _, _, rfl, G16.trans S1719.e, S1719.lst hr16', S1719.lst hd16, DealAt.sm S1719 hy16, I2, rfl⟩
            · rw [if_neg (of_decide_eq_false e3)] at I2
              exact ⟨_, hlt, at_, _, _, _, _, _, rfl, G16.trans S18.e, S18.lst hr16', S18.lst hd16, DealAt.sm S18 hy16, I2, rfl⟩
          · have hz : rs.getD bu 0 = 0 := by
              have h1 := I.nn bu hbn
              have h2 : ¬ 0 < rs.getD bu 0 := of_decide_eq_false e2
              omega
            exact ⟨at_, rs, ds, ys, _, _, _, rfl, G.trans S9.e, S9.lst hrr, S9.lst hdd, DealAt.sm S9 hyy, I.next hbu hz⟩
        · obtain ⟨at_, rs, ds, ys, y6, y7, y8, rfl, F, hrr, hdd, hyy, I⟩ := hP
          rw [show (natVs (dl ws ns true)).length = (dl ws ns true).length by unfold natVs; rw [List.length_map]] at I
          dsimp only
          exact q_ret (ev_var rfl) fun H9 S9 => hQ d H9 ds ys ((base0 F).trans S9) nd0 (S9.lst hdd) (DealAt.sm S9 hyy) I.fin

/-! ### part book -/
/-! ### the book -/
theorem ok__known (T : Txt K mg) : FnOk P w K mg base (L2N.CX P w) 3 T.f__known T.d__known ["self", "number"] (spKnown K T.a_Book T.a_NoSuch) := by
  have G_is_number : FnOk P w K mg base CX0 1 T.f_is_number T.d_is_number ["thing", "least", "most"] (spNum K) := ok_is_number T
  refine okN T.D__known.F sc__known (fun vs H Q E h => ?_) (fun cdv A outer s H vs Q E hr h => ?_)
  · obtain ⟨p, lw, ll, lp, B, v, rfl, _⟩ := h
    rfl
  · obtain ⟨p, lw, ll, lp, B, v, rfl, hB, hk, h⟩ := h
    refine ⟨_, (pss_cons (ps_if (pt_not (pt_val (pe_call G_is_number (hr.mono (by decide)) (by rfl) T.D_is_number.g T.D_is_number.F.kp T.D_is_number.b .nil pass0 (pa_cons (pv 1) (pa_cons pe_int (pa_cons (pe_op op_sub (pe_callB call_len_seq (by rfl) T.n_len PySem.boot_len (pa_cons (pe_fldK (K := K) rfl (pv 0) rfl) pa_nil)) pe_int) pa_nil))))))
    (pss_one (L2N.ps_raise rfl (L2N.takes_of rfl rfl rfl rfl) (L2N.pmk_own PySem.F.excBase_ValueError T.R_NoSuch.ex T.g_NoSuch T.R_NoSuch.kp (raises_own T.R_NoSuch.be T.R_NoSuch.ty) (by rfl))))
    pss_nil)
  (pss_one (ps_ret (pv 1)))), ?_⟩
    try dsimp only [cxOf, Cx.wish]
    obtain ⟨⟨dx, hp⟩, ⟨xs, hw, hws⟩, _⟩ := id hB
    have el : (xs.length : Int) = (B.n : Int) := by rw [hws.length]
    refine qs_if (evt_not (evt_b (ev_num (ev_var rfl) ev_c (ev_opI0 (ev_len (ev_fld (ev_var rfl) hp T.cl_Book T.n_Book__wishes bf_wishes) (.inl (.inl hw))) ev_c) hk))) (fun e H1 S1 => ?_) (fun e H1 S1 => ?_)
    · rw [el] at e
      rcases h with ⟨_, hE⟩ | ⟨g, _⟩
      · exact hE H1 S1
      · rw [g] at e
        cases e
    · rw [el] at e
      rcases h with ⟨g, _⟩ | ⟨_, hQ⟩
      · rw [g] at e
        cases e
      · exact q_ret (ev_var rfl) fun H2 S2 => hQ H2 (S1.trans S2)
theorem ok_left (T : Txt K mg) : FnOk P w K mg base (L2N.CX P w) 5 T.f_left T.d_left ["self", "number"] (spRead K T.a_Book T.a_NoSuch Book.lf) := by
  have N__known : FnOk P w K mg base (L2N.CX P w) 3 T.f__known T.d__known ["self", "number"] (spKnown K T.a_Book T.a_NoSuch) := ok__known T
  refine okN T.D_left.F sc_left (fun vs H Q E h => ?_) (fun cdv A outer s H vs Q E hr h => ?_)
  · obtain ⟨p, lw, ll, lp, B, v, rfl, _⟩ := h
    rfl
  · obtain ⟨p, lw, ll, lp, B, v, rfl, hB, hL, hk, h⟩ := h
    refine ⟨_, (pss_one (ps_ret (pe_ix (r := rIxL K) ix_list (pe_fldK (K := K) rfl (pv 0) rfl) (pe_methS (pv 0) T.cl_Book T.D__known.m N__known (hr.mono (by decide)) T.D__known.b (fun σ => L2N.passAt (L2N.takes_of rfl rfl rfl rfl) σ) (pa_cons (pv 1) pa_nil)) (fun _ _ => rfl)))), ?_⟩
    try dsimp only [cxOf, Cx.wish]
    obtain ⟨dx, hp⟩ := hB.ob
    refine q_retIxM (ev_fld (ev_var rfl) hp T.cl_Book T.n_Book__left bf_left) (ev_var rfl) hp bf_no (evl_cons (ev_var rfl) evl_nil) fun H1 S1 => ⟨p, lw, ll, lp, B, v, rfl, hB.sm S1, hk.sm S1, ?_⟩
    rcases h with ⟨g, hE⟩ | ⟨k, rfl, hkn, hQ⟩
    · exact .inl ⟨g, fun H2 S2 => hE H2 (S1.trans S2)⟩
    · refine .inr ⟨numV_in (by omega) (by omega), fun H2 S2 => ⟨ll, _, _, _, rfl, rfl, .inl (.inl ((hB.sm (S1.trans S2)).l)), at_of (j := k) (by omega) ?_, hQ H2 (S1.trans S2)⟩⟩
      have hkl : k < B.left.length := by rw [hL.l]; exact hkn
      rw [List.getElem?_map, List.getElem?_eq_getElem hkl]
      show some (V.int B.left[k]) = some (V.int (B.left.getD k 0))
      rw [List.getD_eq_getElem?_getD, List.getElem?_eq_getElem hkl]
      rfl
theorem ok_paid (T : Txt K mg) : FnOk P w K mg base (L2N.CX P w) 5 T.f_paid T.d_paid ["self", "number"] (spRead K T.a_Book T.a_NoSuch Book.pd) := by
  have N__known : FnOk P w K mg base (L2N.CX P w) 3 T.f__known T.d__known ["self", "number"] (spKnown K T.a_Book T.a_NoSuch) := ok__known T
  refine okN T.D_paid.F sc_paid (fun vs H Q E h => ?_) (fun cdv A outer s H vs Q E hr h => ?_)
  · obtain ⟨p, lw, ll, lp, B, v, rfl, _⟩ := h
    rfl
  · obtain ⟨p, lw, ll, lp, B, v, rfl, hB, hL, hk, h⟩ := h
    refine ⟨_, (pss_one (ps_ret (pe_ix (r := rIxL K) ix_list (pe_fldK (K := K) rfl (pv 0) rfl) (pe_methS (pv 0) T.cl_Book T.D__known.m N__known (hr.mono (by decide)) T.D__known.b (fun σ => L2N.passAt (L2N.takes_of rfl rfl rfl rfl) σ) (pa_cons (pv 1) pa_nil)) (fun _ _ => rfl)))), ?_⟩
    try dsimp only [cxOf, Cx.wish]
    obtain ⟨dx, hp⟩ := hB.ob
    refine q_retIxM (ev_fld (ev_var rfl) hp T.cl_Book T.n_Book__paid bf_paid) (ev_var rfl) hp bf_no (evl_cons (ev_var rfl) evl_nil) fun H1 S1 => ⟨p, lw, ll, lp, B, v, rfl, hB.sm S1, hk.sm S1, ?_⟩
    rcases h with ⟨g, hE⟩ | ⟨k, rfl, hkn, hQ⟩
    · exact .inl ⟨g, fun H2 S2 => hE H2 (S1.trans S2)⟩
    · refine .inr ⟨numV_in (by omega) (by omega), fun H2 S2 => ⟨lp, _, _, _, rfl, rfl, .inl (.inl ((hB.sm (S1.trans S2)).d)), at_of (j := k) (by omega) ?_, hQ H2 (S1.trans S2)⟩⟩
      have hkl : k < B.paid.length := by rw [hL.d]; exact hkn
      rw [List.getElem?_map, List.getElem?_eq_getElem hkl]
      show some (V.int B.paid[k]) = some (V.int (B.paid.getD k 0))
      rw [List.getD_eq_getElem?_getD, List.getElem?_eq_getElem hkl]
      rfl
/-! new lists as a book's -/
theorem ok___init__ (T : Txt K mg) : FnOk P w K mg base (L2.CX P w) 5 T.f___init__ T.d___init__ ["self", "old"] (spInit K T.a_Book T.a_BadPrice) := by
  have G_checked_price : FnOk P w K mg base (L2.CX P w) 3 T.f_checked_price T.d_checked_price ["thing"] (spCP K T.a_BadPrice) := ok_checked_price T
  refine T.D___init__.F.okX sc___init__ (fun vs H Q E h => ?_) (fun cdv A outer s H vs Q E hr h => ?_)
  · obtain ⟨p, dx, v, rfl, _⟩ := h
    rfl
  · obtain ⟨p, dx, v, rfl, hp, hk, h⟩ := h
    refine ⟨_, (pss_cons (ps_fld (pv 0) (pe_callS G_checked_price (hr.mono (by decide)) (by rfl) T.D_checked_price.g T.D_checked_price.F.kp T.D_checked_price.b (fun σ => passAt (takes_of rfl rfl rfl rfl) σ) (pa_cons (pv 1) pa_nil)) rfl)
  (pss_cons (ps_fld (pv 0) (pe_lst pa_nil) rfl)
  (pss_cons (ps_fld (pv 0) (pe_lst pa_nil) rfl)
  (pss_one (ps_fld (pv 0) (pe_lst pa_nil) rfl))))), ?_⟩
    try dsimp only [cxOf, Cx.wish]
    refine qs_fldS (p := p) (evl_cons (ev_var rfl) evl_nil) T.cl_Book T.n_Book_price rfl fun H1 S1 Q1 q1 => ⟨v, rfl, hk.sm S1, ?_⟩
    rcases h with ⟨g, hE⟩ | ⟨o, rfl, h0, h1, hQ⟩
    · exact .inl ⟨g, fun H2 S2 => hE H2 (S1.trans S2)⟩
    · refine .inr ⟨numV_in h0 h1, fun H2 S2 => ?_⟩
      have hp2 := (S1.trans S2).at hp fun _ z => by cases z
      refine q1 _ H2 dx [] hp2 (by decide) ?_
      have F2 : Fr K [p] [p] H (upd H2 p (.ins T.a_Book dx (putF "price" (.int o) []))) := (S1.trans S2).fr.trans (Fr.ins List.mem_cons_self hp2)
      have hp3 : upd H2 p (.ins T.a_Book dx (putF "price" (.int o) [])) p = some (.ins T.a_Book dx (putF "price" (.int o) [])) := upd_same
      generalize upd H2 p (.ins T.a_Book dx (putF "price" (.int o) [])) = H3 at F2 hp3
      refine q_seq (q_fldNew F2 hp3 T.cl_Book T.n_Book__wishes (Nat.lt_of_le_of_lt (putF_len _ _ _) (by decide)) (ev_var rfl) fun lw H4 n4 m4 _ F4 hlw hp4 t4 => ?_)
      dsimp only
      refine q_seq (q_fldNew F4 hp4 T.cl_Book T.n_Book__left (Nat.lt_of_le_of_lt (Nat.le_trans (putF_len _ _ _) (Nat.succ_le_succ (putF_len _ _ _))) (by decide)) (ev_var rfl) fun ll H5 n5 m5 _ F5 hll hp5 t5 => ?_)
      dsimp only
      refine q_fldNew F5 hp5 T.cl_Book T.n_Book__paid (Nat.lt_of_le_of_lt (Nat.le_trans (putF_len _ _ _) (Nat.succ_le_succ (Nat.le_trans (putF_len _ _ _) (Nat.succ_le_succ (putF_len _ _ _))))) (by decide)) (ev_var rfl) fun lp H6 n6 m6 _ F6 hlp hp6 t6 => ?_
      dsimp only
      rw [bf_init] at hp6
      refine hQ H6 lw ll lp (F6.shrink fun x hx => ?_) ⟨⟨dx, hp6⟩, ⟨[], t6 _ _ (t5 _ _ hlw), .nil⟩, t6 _ _ hll, hlp, fun e => ?_, fun e => ?_, fun e => ?_⟩
      · simp only [List.mem_cons, List.not_mem_nil, or_false] at hx ⊢
        rcases hx with z | z | z | z <;> simp [z]
      · rw [← e, hlw] at m5; cases m5
      · rw [← e, t5 _ _ hlw] at m6; cases m6
      · rw [← e, hll] at m6; cases m6
def spAdd (K : PySem.W.Frag) (C CW : Addr) : Sp := fun vs H Q E => ∃ (p lw ll lp : Addr) (B : Book) (v : V), vs = [.ref p, v] ∧ BookAt K C H p lw ll lp B ∧ B.Len ∧ B.n ≤ 1000 ∧
  ((BadV K v H ∧ ∀ H', Sm H H' → E (.ref CW) none H') ∨
   ∃ w, WishV K H v w ∧ w.Good ∧ ∀ H', Fr K (bfp p lw ll lp) (bfp p lw ll lp) H H' → BookAt K C H' p lw ll lp (B.add w) → Q (.int (B.n : Int)) H')
theorem ok_add (T : Txt K mg) : FnOk P w K mg base (L2.CX P w) 5 T.f_add T.d_add ["self", "wish"] (spAdd K T.a_Book T.a_BadWish) := by
  have G_checked : FnOk P w K mg base (L2.CX P w) 3 T.f_checked T.d_checked ["thing"] (spChecked K T.a_BadWish) := ok_checked T
  refine T.D_add.F.okX sc_add (fun vs H Q E h => ?_) (fun cdv A outer s H vs Q E hr h => ?_)
  · obtain ⟨p, lw, ll, lp, B, v, rfl, _⟩ := h
    rfl
  · obtain ⟨p, lw, ll, lp, B, v, rfl, hB, hL, hn, h⟩ := h
    refine ⟨_, (pss_cons (ps_asg (pe_callS G_checked (hr.mono (by decide)) (by rfl) T.D_checked.g T.D_checked.F.kp T.D_checked.b (fun σ => passAt (takes_of rfl rfl rfl rfl) σ) (pa_cons (pv 1) pa_nil)) (pg_tup (by rfl) (pgs_cons (pg_name (i := 2) sc_add.nd rfl (.inl rfl)) (pgs_cons (pg_name (i := 3) sc_add.nd rfl (.inl rfl)) (pgs_cons (pg_name (i := 4) sc_add.nd rfl (.inl rfl)) pgs_nil)))))
  (pss_cons (ps_expr (pe_bm PySem.F.plainAttrs_list PySem.F.slot_list_append PySem.F.type_list_append mt_append (pe_fldK (K := K) rfl (pv 0) rfl) (pa_cons (pv 1) pa_nil)))
  (pss_cons (ps_expr (pe_bm PySem.F.plainAttrs_list PySem.F.slot_list_append PySem.F.type_list_append mt_append (pe_fldK (K := K) rfl (pv 0) rfl) (pa_cons (pv 4) pa_nil)))
  (pss_cons (ps_expr (pe_bm PySem.F.plainAttrs_list PySem.F.slot_list_append PySem.F.type_list_append mt_append (pe_fldK (K := K) rfl (pv 0) rfl) (pa_cons pe_int pa_nil)))
  (pss_one (ps_ret (pe_op op_sub (pe_callB call_len_seq (by rfl) T.n_len PySem.boot_len (pa_cons (pe_fldK (K := K) rfl (pv 0) rfl) pa_nil)) pe_int))))))), ?_⟩
    try dsimp only [cxOf, Cx.wish]
    refine qs_asgS (evl_cons (ev_var rfl) evl_nil) fun H1 S1 => ⟨v, rfl, ?_⟩
    rcases h with ⟨hbad, hE⟩ | ⟨w, ⟨t, rfl, ht⟩, hg, hQ⟩
    · exact .inl ⟨hbad.sm S1, fun H2 S2 => hE H2 (S1.trans S2)⟩
    · refine .inr ⟨t, _, _, _, rfl, S1.sqt ht, kn_str, kn_int, kn_int, ?_, fun H2 S2 => ?_⟩
      · unfold goodV
        rw [show sideV (.str w.side) = true from side_sideV _, numV_in hg.l0 hg.l1, numV_in hg.a0 hg.a1]
        rfl
      have S02 := S1.trans S2
      refine ⟨t, _, rfl, S02.sqt ht, rfl, _, _, rfl, _, _, rfl, _, _, rfl, rfl, ?_⟩
      have hB2 := hB.sm S02
      obtain ⟨⟨dx, hp⟩, ⟨xs, hw, hws⟩, hl, hd, n1, n2, n3⟩ := id hB2
      obtain ⟨np1, np2, np3⟩ := hB2.p1
      have F2 : Fr K (bfp p lw ll lp) (bfp p lw ll lp) H H2 := S02.fr
      have hz : ∀ m : Nat, m = B.n → m < sizeLine := fun m e => Nat.lt_of_lt_of_le (show m < 1001 by omega) (by decide)
      show tSeq _ _ _ [some (.ref p), some (.ref t), some (.str w.side), some (.int w.lim), some (.int w.amt)] H2
      refine q_seq (q_app (ev_fld (ev_var rfl) hp T.cl_Book T.n_Book__wishes bf_wishes) hw (hz _ hws.length) (ev_var rfl).p fun y H3 S3 hy hw3 => ?_)
      subst hy
      have F3 : Fr K (bfp p lw ll lp) (bfp p lw ll lp) H (upd H3 lw (.lst (xs ++ [.ref t]))) := (F2.sm S3).trans (Fr.put (by simp) hw3)
      have hp3 : upd H3 lw (.lst (xs ++ [.ref t])) p = some (.ins T.a_Book dx (bflds B.price lw ll lp)) := by rw [upd_ne np1]; exact S3.at hp fun _ z => by cases z
      have hw3' : upd H3 lw (.lst (xs ++ [.ref t])) lw = some (.lst (xs ++ [.ref t])) := upd_same
      have hl3 : upd H3 lw (.lst (xs ++ [.ref t])) ll = some (.lst (B.left.map V.int)) := by rw [upd_ne (Ne.symm n1)]; exact S3.lst hl
      have hd3 : upd H3 lw (.lst (xs ++ [.ref t])) lp = some (.lst (B.paid.map V.int)) := by rw [upd_ne (Ne.symm n2)]; exact S3.lst hd
      have hws3 : Wishes K (upd H3 lw (.lst (xs ++ [.ref t]))) (xs ++ [.ref t]) (B.ws ++ [w]) := ((hws.sm S3).snoc ⟨t, rfl, (S02.trans S3).sqt ht⟩).tk (tk_lst hw3)
      generalize upd H3 lw (.lst (xs ++ [.ref t])) = H4 at F3 hp3 hw3' hl3 hd3 hws3
      dsimp only
      refine q_seq (q_app (ev_fld (ev_var rfl) hp3 T.cl_Book T.n_Book__left bf_left) hl3 (by rw [List.length_map]; exact hz _ hL.l) (ev_var rfl).p fun y H5 S5 hy hl5 => ?_)
      subst hy
      have e5 : B.left.map V.int ++ [V.int w.amt] = (B.left ++ [w.amt]).map V.int := by rw [List.map_append]; rfl
      rw [e5]
      have F5 : Fr K (bfp p lw ll lp) (bfp p lw ll lp) H (upd H5 ll (.lst ((B.left ++ [w.amt]).map V.int))) := (F3.sm S5).trans (Fr.put (by simp) hl5)
      have hp5 : upd H5 ll (.lst ((B.left ++ [w.amt]).map V.int)) p = some (.ins T.a_Book dx (bflds B.price lw ll lp)) := by rw [upd_ne np2]; exact S5.at hp3 fun _ z => by cases z
      have hw5 : upd H5 ll (.lst ((B.left ++ [w.amt]).map V.int)) lw = some (.lst (xs ++ [.ref t])) := by rw [upd_ne n1]; exact S5.lst hw3'
      have hl5' : upd H5 ll (.lst ((B.left ++ [w.amt]).map V.int)) ll = some (.lst ((B.left ++ [w.amt]).map V.int)) := upd_same
      have hd5 : upd H5 ll (.lst ((B.left ++ [w.amt]).map V.int)) lp = some (.lst (B.paid.map V.int)) := by rw [upd_ne (Ne.symm n3)]; exact S5.lst hd3
      have hws5 : Wishes K (upd H5 ll (.lst ((B.left ++ [w.amt]).map V.int))) (xs ++ [.ref t]) (B.ws ++ [w]) := (hws3.sm S5).tk (tk_lst hl5)
      generalize upd H5 ll (.lst ((B.left ++ [w.amt]).map V.int)) = H6 at F5 hp5 hw5 hl5' hd5 hws5
      dsimp only
      refine q_seq (q_app (ev_fld (ev_var rfl) hp5 T.cl_Book T.n_Book__paid bf_paid) hd5 (by rw [List.length_map]; exact hz _ hL.d) (ev_c (v := .int 0)).p fun y H7 S7 hy hd7 => ?_)
      subst hy
      have e7 : B.paid.map V.int ++ [V.int 0] = (B.paid ++ [0]).map V.int := by rw [List.map_append]; rfl
      rw [e7]
      have F7 : Fr K (bfp p lw ll lp) (bfp p lw ll lp) H (upd H7 lp (.lst ((B.paid ++ [0]).map V.int))) := (F5.sm S7).trans (Fr.put (by simp) hd7)
      have hp7 : upd H7 lp (.lst ((B.paid ++ [0]).map V.int)) p = some (.ins T.a_Book dx (bflds B.price lw ll lp)) := by rw [upd_ne np3]; exact S7.at hp5 fun _ z => by cases z
      have hw7 : upd H7 lp (.lst ((B.paid ++ [0]).map V.int)) lw = some (.lst (xs ++ [.ref t])) := by rw [upd_ne n2]; exact S7.lst hw5
      have hl7 : upd H7 lp (.lst ((B.paid ++ [0]).map V.int)) ll = some (.lst ((B.left ++ [w.amt]).map V.int)) := by rw [upd_ne n3]; exact S7.lst hl5'
      have hd7' : upd H7 lp (.lst ((B.paid ++ [0]).map V.int)) lp = some (.lst ((B.paid ++ [0]).map V.int)) := upd_same
      have hws7 : Wishes K (upd H7 lp (.lst ((B.paid ++ [0]).map V.int))) (xs ++ [.ref t]) (B.ws ++ [w]) := (hws5.sm S7).tk (tk_lst hd7)
      generalize upd H7 lp (.lst ((B.paid ++ [0]).map V.int)) = H8 at F7 hp7 hw7 hl7 hd7' hws7
      dsimp only
      have hB8 : BookAt K T.a_Book H8 p lw ll lp (B.add w) := ⟨⟨dx, hp7⟩, ⟨_, hw7, hws7⟩, hl7, hd7', n1, n2, n3⟩
      refine q_ret (v := .int (B.n : Int)) ((ev_opI0 (ev_len (ev_fld (ev_var rfl) hp7 T.cl_Book T.n_Book__wishes bf_wishes) (.inl (.inl hw7))) ev_c).to ?_) fun H9 S9 => hQ H9 (F7.sm S9) (hB8.sm S9)
      have : (xs ++ [V.ref t]).length = B.n + 1 := by rw [List.length_append, hws.length]; rfl
      rw [this]
      congr 1
      omega
theorem ok_drop (T : Txt K mg) : FnOk P w K mg base (L2.CX P w) 7 T.f_drop T.d_drop ["self", "number"] (spDrop K T.a_Book T.a_NoSuch) := by
  have G_left : FnOk P w K mg base (L2.CX P w) 5 T.f_left T.d_left ["self", "number"] (spRead K T.a_Book T.a_NoSuch Book.lf) := FnOk.noCtx (ok_left T)
  refine T.D_drop.F.okX sc_drop (fun vs H Q E h => ?_) (fun cdv A outer s H vs Q E hr h => ?_)
  · obtain ⟨p, lw, ll, lp, B, v, rfl, _⟩ := h
    rfl
  · obtain ⟨p, lw, ll, lp, B, v, rfl, hB, hL, hk, h⟩ := h
    refine ⟨_, (pss_cons (ps_set (i := 2) sc_drop.nd rfl (.inl rfl) (pe_methS (pv 0) T.cl_Book T.D_left.m G_left (hr.mono (by decide)) T.D_left.b (fun σ => passAt (takes_of rfl rfl rfl rfl) σ) (pa_cons (pv 1) pa_nil)))
  (pss_cons (ps_if (pt_cmpR op_eq (pv 2) pe_int (nomark _))
    (pss_one (ps_raise rfl (takes_of rfl rfl rfl rfl) (pmk_own PySem.F.excBase_ValueError T.R_NoSuch.ex T.g_NoSuch T.R_NoSuch.kp (raises_own T.R_NoSuch.be T.R_NoSuch.ty) (by rfl))))
    pss_nil)
  (pss_cons (ps_asg pe_int (pg_sub (pe_fldK (K := K) rfl (pv 0) rfl) (pv 1) set_list))
  (pss_one (ps_ret (pv 2)))))), ?_⟩
    try dsimp only [cxOf, Cx.wish]
    obtain ⟨dx, hp⟩ := hB.ob
    refine qs_setM (ev_var rfl) hp bf_no (evl_cons (ev_var rfl) evl_nil) fun H1 S1 => ⟨p, lw, ll, lp, B, v, rfl, hB.sm S1, hL, hk.sm S1, ?_⟩
    rcases h with ⟨g | ⟨k, rfl, hkn, hz⟩, hE⟩ | ⟨k, rfl, hkn, hz, hQ⟩
    · exact .inl ⟨g, fun H2 S2 => hE H2 (S1.trans S2)⟩
    · refine .inr ⟨k, rfl, hkn, fun H2 S2 => ?_⟩
      refine qs_if (evt_test (ev_eqI (ev_var rfl) ev_c)) (fun e H3 S3 => hE H3 (S1.trans (S2.trans S3))) (fun e => ?_)
      exact absurd hz (of_decide_eq_false e)
    · refine .inr ⟨k, rfl, hkn, fun H2 S2 => ?_⟩
      refine qs_if (evt_test (ev_eqI (ev_var rfl) ev_c)) (fun e => absurd (of_decide_eq_true e) hz) (fun e H3 S3 => ?_)
      have S03 := S1.trans (S2.trans S3)
      have hB3 := hB.sm S03
      obtain ⟨⟨dx3, hp3⟩, ⟨xs, hw, hws⟩, hl, hd, n1, n2, n3⟩ := id hB3
      obtain ⟨np1, np2, np3⟩ := hB3.p1
      refine q_seq (q_put (P := fun y _ => y = .int 0) ev_c.p (ev_fld (ev_var rfl) hp3 T.cl_Book T.n_Book__left bf_left) (ev_var rfl) hl (by rw [List.length_map, hL.l]; exact ixN_nat hkn) fun y H4 H5 S4 ey S5 h5 => ?_)
      subst ey
      rw [show (B.left.map V.int).set k (.int 0) = (B.left.set k 0).map V.int from (List.map_set ..).symm]
      have S45 := S4.trans S5
      have F5 : Fr K (bfp p lw ll lp) (bfp p lw ll lp) H (upd H5 ll (.lst ((B.left.set k 0).map V.int))) := (S03.trans S45).fr.trans (Fr.put (by simp) h5)
      have hB5 : BookAt K T.a_Book (upd H5 ll (.lst ((B.left.set k 0).map V.int))) p lw ll lp (B.drop k) :=
        ⟨⟨dx3, by rw [upd_ne np2]; exact S45.at hp3 fun _ z => by cases z⟩, ⟨xs, by rw [upd_ne n1]; exact S45.lst hw, (hws.sm S45).tk (tk_lst h5)⟩, upd_same, by rw [upd_ne (Ne.symm n3)]; exact S45.lst hd, n1, n2, n3⟩
      generalize upd H5 ll (.lst ((B.left.set k 0).map V.int)) = H6 at F5 hB5
      dsimp only
      exact q_ret (ev_var rfl) fun H7 S7 => hQ H7 (F5.sm S7) (hB5.sm S7)
theorem ok_standing (T : Txt K mg) : FnOk P w K mg base CX0 1 T.f_standing T.d_standing ["self"] (spStanding K T.a_Book) := by
  refine T.D_standing.F.ok sc_standing (fun vs H Q E h => ?_) (fun cdv A outer s H vs Q E hr h => ?_)
  · obtain ⟨p, lw, ll, lp, B, rfl, _⟩ := h
    rfl
  · obtain ⟨p, lw, ll, lp, B, rfl, hB, hL, hn, q⟩ := h
    refine ⟨_, (pss_one (ps_ret (pe_lc (own := [("number", 1), ("side", 2), ("limit", 3), ("amount", 4)]) (g := (gTup K 2 (gCons (gName 1) (gCons (gTup K 3 (gCons (gName 2) (gCons (gName 3) (gCons (gName 4) gNil)))) gNil)))) (by rfl) sc_standing.nd (pi_enum (by rfl) T.n_enumerate (pa_cons (pe_fldK (K := K) rfl (pv 0) rfl) pa_nil)) (blkOk_by (own := [("number", 1), ("side", 2), ("limit", 3), ("amount", 4)]) (N := names_standing) (sc := defScope s_standing) (by decide +kernel)) (fun _ _ _ _ _ => (pg_tup (by rfl) (pgs_cons (pg_name (i := 1) sc_standing.nd rfl (Or.inl rfl)) (pgs_cons (pg_tup (by rfl) (pgs_cons (pg_name (i := 2) sc_standing.nd rfl (Or.inl rfl)) (pgs_cons (pg_name (i := 3) sc_standing.nd rfl (Or.inl rfl)) (pgs_cons (pg_name (i := 4) sc_standing.nd rfl (Or.inl rfl)) pgs_nil)))) pgs_nil)))) (fun _ _ _ _ _ => (pts_one (pt_cmpR op_gt (pe_ix (r := rIxL K) ix_list (pe_fldK (K := K) rfl (pv 0) rfl) (pv 1) (fun _ _ => rfl)) pe_int (nomark _)))) (fun _ _ _ _ _ => (pe_tup (pa_cons (pv 1) (pa_cons (pe_tup (pa_cons (pv 2) (pa_cons (pv 3) (pa_cons (pe_ix (r := rIxL K) ix_list (pe_fldK (K := K) rfl (pv 0) rfl) (pv 1) (fun _ _ => rfl)) pa_nil)))) pa_nil))))))), ?_⟩
    try dsimp only [cxOf, Cx.nox, Cx.wish]
    obtain ⟨⟨dx, hp⟩, ⟨xs, hw, hws⟩, hl, hd, n1, n2, n3⟩ := id hB
    refine q_retP (evp_lcEnum (pz := fun k => decide (0 < B.lf k)) (P := fun i y H' => RowAt H' B i y) (evl_cons (ev_fld (ev_var rfl) hp T.cl_Book T.n_Book__wishes bf_wishes) evl_nil) (.inl (.inl hw)) (fun i y H H' t h => h.tq t) (by rw [hws.length]; exact Nat.le_trans hn (by decide)) (fun i y t H2 hy S2 hT => ?_)) fun v H1 S1 hv => ?_
    · obtain ⟨hi, t1, rfl, ht1⟩ := hws.at hy
      have hil : i < B.left.length := by rw [hL.l]; exact hi
      have hp2 := S2.at hp fun _ z => by cases z
      have lf2 : ∀ {σ' : L2.St}, σ'[0]? = some (some (.ref p)) → σ'[1]? = some (some (.int (i : Int))) → ∀ H3, Sm H2 H3 → Ev (tOp (rIxL K) (tFld K (tVar 0) "_left") (tVar 1)) σ' H3 (.int (B.lf i)) := fun h0 h1 H3 S3 =>
        ev_ixN (ev_fld (ev_var h0) (S3.at hp2 fun _ z => by cases z) T.cl_Book T.n_Book__left bf_left) (ev_var h1) (.inl (.inl (S3.lst (S2.lst hl)))) hil
      refine ⟨_, evg_tup (.inl (.inl hT)) rfl (evgs_cons evg_name (evgs_cons (evg_tup (S2.sqt ht1) rfl (evgs_cons evg_name (evgs_cons evg_name (evgs_cons evg_name evgs_nil)))) evgs_nil)), rfl, evt_test (ev_opI0 (lf2 rfl rfl _ (Sm.refl _)) ev_c), fun e => ?_⟩
      refine EvP.to (evp_tup (P := fun vs H' => ∃ z, vs = [.int (i : Int), .ref z] ∧ H' z = some (.tup (B.wl i).row)) K (EvA.to (eva_cons (ev_var rfl) (eva_consP (P := fun v H' => ∃ z, v = .ref z ∧ H' z = some (.tup (B.wl i).row))
          (EvP.to (evp_tup (P := fun vs _ => vs = (B.wl i).row) K (evl_cons (ev_var rfl) (evl_cons (ev_var rfl) (evl_cons (lf2 rfl rfl _ (Sm.refl _)) evl_nil))) (fun vs H' e => by rw [e]; show 3 ≤ sizeLine; decide) (fun _ _ _ _ e => e)) fun v H' S ⟨a, vs, e, h, e2⟩ => ⟨a, e, by rw [h, e2]⟩)
          (fun v H H' S ⟨z, e, h⟩ => ⟨z, e, S.tup h⟩) eva_nil)) fun vs H' S ⟨r, e1, v2, r2, e2, ⟨z, e3, h3⟩, e4⟩ => ⟨z, by rw [e1, e2, e3, e4], h3⟩)
        (fun vs H' ⟨z, e, _⟩ => by rw [e]; show 2 ≤ sizeLine; decide) (fun vs H H' S ⟨z, e, h⟩ => ⟨z, e, S.tup h⟩)) fun v H' S ⟨a, vs, e, h, z, e2, h2⟩ => ⟨a, z, e, by rw [h, e2], h2⟩
    · obtain ⟨D, zs, rfl, nD, hD, hpd⟩ := hv
      refine q D zs H1 S1 nD hD ?_
      rw [hws.length] at hpd
      exact hpd
theorem ok__settle (T : Txt K mg) : FnOk P w K mg base CX0 1 T.f__settle T.d__settle ["self", "number", "many"] (spSettle K T.a_Book) := by
  refine T.D__settle.F.ok sc__settle (fun vs H Q E h => ?_) (fun cdv A outer s H vs Q E hr h => ?_)
  · obtain ⟨p, lw, ll, lp, B, k, m, rfl, _⟩ := h
    rfl
  · obtain ⟨p, lw, ll, lp, B, k, m, rfl, hB, hL, hk, hp0, hp1, q⟩ := h
    refine ⟨_, (pss_cons (ps_augS (pe_fldK (K := K) rfl (pv 0) rfl) (pv 1) get_list (pv 2) ip_sub set_list)
  (pss_one (ps_augS (pe_fldK (K := K) rfl (pv 0) rfl) (pv 1) get_list (pe_op op_mul (pv 2) (pe_fldK (K := K) rfl (pv 0) rfl)) ip_add set_list))), ?_⟩
    try dsimp only [cxOf, Cx.nox, Cx.wish]
    obtain ⟨⟨dx, hp⟩, ⟨xs, hw, hws⟩, hl, hd, n1, n2, n3⟩ := id hB
    obtain ⟨np1, np2, np3⟩ := hB.p1
    have get : ∀ {ns : List Int}, k < ns.length → (ns.map V.int)[k]? = some (.int (ns.getD k 0)) := fun h => by
      rw [List.getElem?_map, List.getElem?_eq_getElem h, List.getD_eq_getElem?_getD, List.getElem?_eq_getElem h]
      rfl
    have hkl : k < B.left.length := by rw [hL.l]; exact hk
    have hkd : k < B.paid.length := by rw [hL.d]; exact hk
    refine q_seq (q_augL (f := fun i j => i - j) (m := B.lf k) (n := m) (j := k) (ev_fld (ev_var rfl) hp T.cl_Book T.n_Book__left bf_left) (ev_var rfl) (ev_var rfl) hl (by rw [List.length_map]; exact ixN_nat hkl) (get hkl) fun H1 S1 hl1 => ?_)
    rw [show (B.left.map V.int).set k (.int (B.lf k - m)) = (B.left.set k (B.lf k - m)).map V.int from (List.map_set ..).symm]
    have F1 : Fr K (bfp p lw ll lp) (bfp p lw ll lp) H (upd H1 ll (.lst ((B.left.set k (B.lf k - m)).map V.int))) := S1.fr.trans (Fr.put (by simp) hl1)
    have hp1' : upd H1 ll (.lst ((B.left.set k (B.lf k - m)).map V.int)) p = some (.ins T.a_Book dx (bflds B.price lw ll lp)) := by rw [upd_ne np2]; exact S1.at hp fun _ z => by cases z
    have hw1 : upd H1 ll (.lst ((B.left.set k (B.lf k - m)).map V.int)) lw = some (.lst xs) := by rw [upd_ne n1]; exact S1.lst hw
    have hl1' : upd H1 ll (.lst ((B.left.set k (B.lf k - m)).map V.int)) ll = some (.lst ((B.left.set k (B.lf k - m)).map V.int)) := upd_same
    have hd1 : upd H1 ll (.lst ((B.left.set k (B.lf k - m)).map V.int)) lp = some (.lst (B.paid.map V.int)) := by rw [upd_ne (Ne.symm n3)]; exact S1.lst hd
    have hws1 : Wishes K (upd H1 ll (.lst ((B.left.set k (B.lf k - m)).map V.int))) xs B.ws := (hws.sm S1).tk (tk_lst hl1)
    generalize upd H1 ll (.lst ((B.left.set k (B.lf k - m)).map V.int)) = H2 at F1 hp1' hw1 hl1' hd1 hws1
    dsimp only
    refine q_augL (f := fun i j => i + j) (m := B.pd k) (n := m * B.price) (j := k) (ev_fld (ev_var rfl) hp1' T.cl_Book T.n_Book__paid bf_paid) (ev_var rfl) (ev_opI (ev_var rfl) (ev_fld (ev_var rfl) hp1' T.cl_Book T.n_Book_price bf_price) (.inr ⟨by omega, by omega⟩)) hd1 (by rw [List.length_map]; exact ixN_nat hkd) (get hkd) fun H3 S3 hd3 => ?_
    rw [show (B.paid.map V.int).set k (.int (B.pd k + m * B.price)) = (B.paid.set k (B.pd k + m * B.price)).map V.int from (List.map_set ..).symm]
    have F3 : Fr K (bfp p lw ll lp) (bfp p lw ll lp) H (upd H3 lp (.lst ((B.paid.set k (B.pd k + m * B.price)).map V.int))) := (F1.sm S3).trans (Fr.put (by simp) hd3)
    refine q _ F3 ⟨⟨dx, by rw [upd_ne np3]; exact S3.at hp1' fun _ z => by cases z⟩, ⟨xs, by rw [upd_ne n2]; exact S3.lst hw1, (hws1.sm S3).tk (tk_lst hd3)⟩, by rw [upd_ne n3]; exact S3.lst hl1', upd_same, n1, n2, n3⟩

/-! ### part ring -/
/-! ### the ring -/
set_option maxHeartbeats 1000000 in
theorem ok_ring (T : Txt K mg) (TB1 : TabB base mg T.k_wanted.1 T.k_wanted.2) (TB2 : TabB base mg T.k_offered.1 T.k_offered.2) : FnOk P w K mg base CX0 9 T.f_ring T.d_ring ["self"] (spRing K T.a_Book T.k_wanted.2 T.k_offered.2) := by
  have G_standing : FnOk P w K mg base CX0 1 T.f_standing T.d_standing ["self"] (spStanding K T.a_Book) := ok_standing T
  have G__settle : FnOk P w K mg base CX0 1 T.f__settle T.d__settle ["self", "number", "many"] (spSettle K T.a_Book) := ok__settle T
  have G_price_by : FnOk P w K mg base (L2.CX P w) 5 T.f_price_by T.d_price_by ["wishes", "old"] (spPB K T.k_wanted.2 T.k_offered.2 T.a_BadPrice) := ok_price_by T TB1 TB2
  have G_pieces_at : FnOk P w K mg base (L2.CX P w) 5 T.f_pieces_at T.d_pieces_at ["wishes", "price"] (spPA K T.k_wanted.2 T.k_offered.2 T.a_BadPrice) := ok_pieces_at T TB1 TB2
  have G_pairs : FnOk P w K mg base (L2.CX P w) 7 T.f_pairs T.d_pairs ["wishes", "pieces"] (spPairs K T.a_BadPieces T.a_Uneven) := ok_pairs T
  refine T.D_ring.F.ok sc_ring (fun vs H Q E h => ?_) (fun cdv A outer s H vs Q E hr h => ?_)
  · obtain ⟨p, lw, ll, lp, B, rfl, _⟩ := h
    rfl
  · obtain ⟨p, lw, ll, lp, B, rfl, hB, hO, hn, hT1, hT2, q⟩ := h
    refine ⟨_, (pss_cons (ps_set (i := 1) sc_ring.nd rfl (.inl rfl) (pe_methS0 (pv 0) T.cl_Book T.D_standing.m G_standing (hr.mono (by decide)) T.D_standing.b (passN0 (fun _ => E0))))
  (pss_cons (ps_setLc (i := 2) (own := [("number", 8), ("wish", 9)]) (g := (gTup K 2 (gCons (gName 8) (gCons (gName 9) gNil)))) rfl sc_ring.nd rfl rfl (sw_true rfl rfl rfl (by decide +kernel)) (pi_list (pv 1)) (blkOk_by (own := [("number", 8), ("wish", 9)]) (N := names_ring) (sc := defScope s_ring) (by decide +kernel)) (fun _ _ _ _ _ => (pg_tup (by rfl) (pgs_cons (pg_name (i := 8) sc_ring.nd rfl (Or.inl rfl)) (pgs_cons (pg_name (i := 9) sc_ring.nd rfl (Or.inl rfl)) pgs_nil)))) (fun _ _ _ _ _ => pts_nil) (fun _ _ _ _ _ => (pv 8)))
  (pss_cons (ps_setLc (i := 3) (own := [("number", 8), ("wish", 9)]) (g := (gTup K 2 (gCons (gName 8) (gCons (gName 9) gNil)))) rfl sc_ring.nd rfl rfl (sw_true rfl rfl rfl (by decide +kernel)) (pi_list (pv 1)) (blkOk_by (own := [("number", 8), ("wish", 9)]) (N := names_ring) (sc := defScope s_ring) (by decide +kernel)) (fun _ _ _ _ _ => (pg_tup (by rfl) (pgs_cons (pg_name (i := 8) sc_ring.nd rfl (Or.inl rfl)) (pgs_cons (pg_name (i := 9) sc_ring.nd rfl (Or.inl rfl)) pgs_nil)))) (fun _ _ _ _ _ => pts_nil) (fun _ _ _ _ _ => (pv 9)))
  (pss_cons (ps_fld (pv 0) (pe_call G_price_by (hr.mono (by decide)) (by rfl) T.D_price_by.g T.D_price_by.F.kp T.D_price_by.b .nil passL (pa_cons (pv 3) (pa_cons (pe_fldK (K := K) rfl (pv 0) rfl) pa_nil))) rfl)
  (pss_cons (ps_set (i := 4) sc_ring.nd rfl (.inl rfl) (pe_lst pa_nil))
  (pss_cons (ps_for PassesOwn.never rfl (pi_list (pe_call G_pairs (hr.mono (by decide)) (by rfl) T.D_pairs.g T.D_pairs.F.kp T.D_pairs.b .nil passL (pa_cons (pv 3) (pa_cons (pe_call G_pieces_at (hr.mono (by decide)) (by rfl) T.D_pieces_at.g T.D_pieces_at.F.kp T.D_pieces_at.b .nil passL (pa_cons (pv 3) (pa_cons (pe_fldK (K := K) rfl (pv 0) rfl) pa_nil))) pa_nil)))) (pg_tup (by rfl) (pgs_cons (pg_name (i := 5) sc_ring.nd rfl (.inl rfl)) (pgs_cons (pg_name (i := 6) sc_ring.nd rfl (.inl rfl)) (pgs_cons (pg_name (i := 7) sc_ring.nd rfl (.inl rfl)) pgs_nil))))
    (pss_cons (ps_expr (pe_methS (pv 0) T.cl_Book T.D__settle.m G__settle (hr.mono (by decide)) T.D__settle.b (passN0 (fun _ => E0)) (pa_cons (pe_ix (r := rIxL K) ix_list (pv 2) (pv 5) (fun _ _ => rfl)) (pa_cons (pv 7) pa_nil))))
  (pss_cons (ps_expr (pe_methS (pv 0) T.cl_Book T.D__settle.m G__settle (hr.mono (by decide)) T.D__settle.b (passN0 (fun _ => E0)) (pa_cons (pe_ix (r := rIxL K) ix_list (pv 2) (pv 6) (fun _ _ => rfl)) (pa_cons (pv 7) pa_nil))))
  (pss_one (ps_expr (pe_bm PySem.F.plainAttrs_list PySem.F.slot_list_append PySem.F.type_list_append mt_append (pv 4) (pa_cons (pe_tup (pa_cons (pe_ix (r := rIxL K) ix_list (pv 2) (pv 5) (fun _ _ => rfl)) (pa_cons (pe_ix (r := rIxL K) ix_list (pv 2) (pv 6) (fun _ _ => rfl)) (pa_cons (pv 7) pa_nil)))) pa_nil)))))))
  (pss_one (ps_ret (pv 4))))))))), ?_⟩
    try dsimp only [cxOf, Cx.nox, Cx.wish]
    refine qs_setP (evp_standing (ev_var rfl) hB hO.len hn) fun v H1 S1 hv => ?_
    obtain ⟨rl, ys, rfl, nrl, hrl, hrows⟩ := hv
    have hlen : ys.length = B.nums.length := (Paired.length hrows).symm
    have hnl := nums_le (B := B)
    refine qs_setP (evp_lcL (K := K) (δ := Unit) (R := fun _ xs H' => ys = xs ∧ Rows' H' B ys) (pz := fun _ _ => true) (P := fun _ i y _ => y = .int ((B.num i : Nat) : Int))
      ((ev_var rfl).pp fun H' S => ⟨rl, ys, (), rfl, .inl (.inl (S.lst hrl)), rfl, hrows.tq (K := K) S.tq⟩)
      (fun d xs H H' S ⟨e, h⟩ => ⟨e, h.tq (K := K) S.tq⟩) (fun _ _ _ _ _ _ e => e) (fun d xs H' ⟨e, h⟩ => by rw [← e, hlen]; omega)
      (fun d xs i x H2 ⟨e, h⟩ hi S => ?_)) fun v H2 S2 hv => ?_
    · subst e
      obtain ⟨k, hk, t, z, rfl, ht, hz⟩ := paired_get h hi
      refine ⟨_, evg_tup (.inl (.inl ht)) rfl (evgs_cons evg_name (evgs_cons evg_name evgs_nil)), rfl, evt_yes rfl, fun _ => ((ev_var rfl).p).to fun v H' S e => ?_⟩
      have hil := (List.getElem?_eq_some_iff.mp hk).1
      rw [num_get hil] at hk
      rw [e, Option.some.inj hk]
    obtain ⟨nb, zs, _, _, rfl, nnb, hnb, ⟨rfl, _⟩, hpz⟩ := hv
    have ezs : zs = natVs B.nums := by
      rw [kept_all, hlen] at hpz
      rw [paired_map hpz, ← range_num (B := B)]
      unfold natVs
      rw [List.map_map, range_num]
      rfl
    subst ezs
    have hrl2 := S2.lst hrl
    have hrows2 := hrows.tq (K := K) S2.tq
    refine qs_setP (evp_lcL (K := K) (δ := Unit) (R := fun _ xs H' => ys = xs ∧ Rows' H' B ys) (pz := fun _ _ => true) (P := fun _ i y H' => WishV K H' y (B.wl (B.num i)))
      ((ev_var rfl).pp fun H' S => ⟨rl, ys, (), rfl, .inl (.inl (S.lst hrl2)), rfl, hrows2.tq (K := K) S.tq⟩)
      (fun d xs H H' S ⟨e, h⟩ => ⟨e, h.tq (K := K) S.tq⟩) (fun _ i y H H' S h => h.tk S.tk) (fun d xs H' ⟨e, h⟩ => by rw [← e, hlen]; omega)
      (fun d xs i x H2 ⟨e, h⟩ hi S => ?_)) fun v H3 S3 hv => ?_
    · subst e
      obtain ⟨k, hk, t, z, rfl, ht, hz⟩ := paired_get h hi
      refine ⟨_, evg_tup (.inl (.inl ht)) rfl (evgs_cons evg_name (evgs_cons evg_name evgs_nil)), rfl, evt_yes rfl, fun _ => ((ev_var rfl).p).to fun v H' S e => ?_⟩
      have hil := (List.getElem?_eq_some_iff.mp hk).1
      rw [num_get hil] at hk
      rw [Option.some.inj hk]
      exact ⟨z, e, .inl (.inl (S.tup hz))⟩
    obtain ⟨la, zs, _, _, rfl, nla, hla, ⟨rfl, _⟩, hpz⟩ := hv
    have hws3 : Wishes K H3 zs B.stands := by
      refine wishes_paired ?_
      rw [kept_all, hlen] at hpz
      have := paired_mapL (f := fun i => B.wl (B.num i)) (R := fun w y => WishV K H3 y w) hpz
      rw [range_wl] at this
      exact this
    have hW3 : WishL K H3 la B.stands := ⟨zs, .inl (.inl hla), hws3⟩
    have S03 := S1.trans (S2.trans S3)
    have hg := stands_good hO
    have hsl : B.stands.length ≤ 1000 := by rw [stands_len]; omega
    have hB3 := hB.sm S03
    have hnb3 := S3.lst hnb
    have nnb0 : H nb = none := S1.free nnb
    have nla0 : H la = none := S1.free (S2.free nla)
    have th := hB.there
    have nin : ∀ {a : Addr}, H a = none → a ∉ bfp p lw ll lp := fun h m => th _ m h
    have nt1 := hB.notab hT1
    have nt2 := hB.notab hT2
    obtain ⟨dx, hp3⟩ := hB3.ob
    show tSeq _ _ _ [some (.ref p), some (.ref rl), some (.ref nb), some (.ref la), none, none, none, none, none, none] H3
    refine q_seq (q_fld (P := fun v _ => ∃ z, v = .int z ∧ Near B.stands B.price z) (evp_call (evl_cons (ev_var rfl) (evl_cons (ev_bprice (ev_var rfl) hB3 T.cl_Book T.n_Book_price) evl_nil)) fun H4 S4 Q k => ⟨la, B.stands, .int B.price, rfl, hW3.sm S4, hg, (S03.trans S4).tabG hT1, (S03.trans S4).tabG hT2, kn_int, .inr ⟨_, rfl, hO.p0, hO.p1, fun z H' S' h => k _ H' S' ⟨z, rfl, h⟩⟩⟩)
      (ev_var rfl) hp3 T.cl_Book T.n_Book_price (by show 4 < 1000; decide) fun y H4 H5 S4 hy S5 hp5 => ?_)
    obtain ⟨z, rfl, hnear⟩ := hy
    rw [bf_put]
    have S05 := S03.trans (S4.trans S5)
    have F6 : Fr K (bfp p lw ll lp) (bfp p lw ll lp) H (upd H5 p (.ins T.a_Book dx (bflds z lw ll lp))) := S05.fr.trans (Fr.ins (by simp) hp5)
    have hB6 : BookAt K T.a_Book (upd H5 p (.ins T.a_Book dx (bflds z lw ll lp))) p lw ll lp (B.to z) := by
      obtain ⟨_, ⟨xs, hw, hws⟩, hl, hd, n1, n2, n3⟩ := hB.sm S05
      obtain ⟨np1, np2, np3⟩ := hB.p1
      exact ⟨⟨dx, upd_same⟩, ⟨xs, by rw [upd_ne (Ne.symm np1)]; exact hw, hws.tk (tq_ins hp5).tk⟩, by rw [upd_ne (Ne.symm np2)]; exact hl, by rw [upd_ne (Ne.symm np3)]; exact hd, n1, n2, n3⟩
    have hW6 : WishL K (upd H5 p (.ins T.a_Book dx (bflds z lw ll lp))) la B.stands := by
      have S35 := S4.trans S5
      exact ⟨zs, .inl (.inl (by rw [upd_ne (fun e => nin nla0 (by rw [e]; simp))]; exact S35.lst hla)), (hws3.sm S35).tk (tq_ins hp5).tk⟩
    have hnb6 : upd H5 p (.ins T.a_Book dx (bflds z lw ll lp)) nb = some (.lst (natVs B.nums)) := by rw [upd_ne (fun e => nin nnb0 (by rw [e]; simp))]; exact (S4.trans S5).lst hnb3
    generalize upd H5 p (.ins T.a_Book dx (bflds z lw ll lp)) = H6 at F6 hB6 hW6 hnb6
    dsimp only
    refine qs_setP evp_lst0 fun v H7 S7 hv => ?_
    obtain ⟨l, rfl, nl6, hl7⟩ := hv
    have F7 := F6.sm S7
    have hB7 := hB6.sm S7
    have hW7 := hW6.sm S7
    have hnb7 := S7.lst hnb6
    have nl0 : H l = none := by
      by_cases e : l ∈ bfp p lw ll lp
      · exact absurd nl6 (hB6.there l e)
      · exact F6.e.free e nl6
    have z01 := (near_all hg hO.p0 hO.p1 hnear).1
    show tSeq (tFor _ _ _) _ _ _ _
    refine q_seq (q_forP (R := fun lb xs H' => ∃ ds, Paired (DealAt H') ds xs ∧ Paird B.stands (dues B.stands z) ds ∧ H7 lb = none)
      ((evp_callA (P := fun v H' => ∃ lb xs ds, v = .ref lb ∧ H7 lb = none ∧ H' lb = some (.lst xs) ∧ Paired (DealAt H') ds xs ∧ Paird B.stands (dues B.stands z) ds)
        (eva_cons (ev_var rfl) (eva_consP (P := fun v H' => ∃ d, v = .ref d ∧ H' d = some (.lst ((dues B.stands z).map V.int)))
          (evp_call (evl_cons (ev_var rfl) (evl_cons (ev_bprice (ev_var rfl) hB7 T.cl_Book T.n_Book_price) evl_nil)) fun H8 S8 Q k => ⟨la, B.stands, .int z, rfl, hW7.sm S8, hg, hsl, S8.tabG (F7.e.tabG nt1 hT1), S8.tabG (F7.e.tabG nt2 hT2), kn_int, .inr ⟨z, rfl, z01.1, z01.2, fun d H' S' nd hd => k _ H' S' ⟨d, rfl, hd⟩⟩⟩)
          (fun v H H' S ⟨d, e, h⟩ => ⟨d, e, S.lst h⟩) eva_nil)) fun us H8 S8 hu Q k => by
            obtain ⟨r, rfl, v2, r2, rfl, ⟨d, rfl, hd⟩, rfl⟩ := hu
            exact ⟨la, d, B.stands, _, rfl, hW7.sm S8, hg, hsl, hd, .inr ⟨_, rfl, dues_pcs hg, .inr ⟨dues_even hg, fun lb H' ds xs S' nlb hlb h1 h2 => k _ H' S' ⟨lb, xs, ds, rfl, S8.free nlb, hlb, h1, h2⟩⟩⟩⟩).to
        fun v H' S ⟨lb, xs, ds, e, nlb, hlb, h1, h2⟩ => ⟨lb, xs, e, .inl (.inl hlb), ds, h1, h2, nlb⟩) fun lb xs H8 S8 hlb ⟨ds, hds, hpr, nlb⟩ => ?_)
    have R : Rung B z ds := ⟨hnear, hpr⟩
    have F8 := F7.sm S8
    have hB8 := hB7.sm S8
    have hl8 := S8.lst hl7
    have hnb8 := S8.lst hnb7
    have nlin : l ∉ bfp p lw ll lp := nin nl0
    have nlb' : lb ∉ l :: bfp p lw ll lp := fun m => by
      rcases List.mem_cons.mp m with e | e
      · rw [e, hl7] at nlb; cases nlb
      · exact hB7.there _ e nlb
    have nnb' : nb ∉ l :: bfp p lw ll lp := fun m => by
      rcases List.mem_cons.mp m with e | e
      · rw [← e, hnb6] at nl6; cases nl6
      · exact nin nnb0 e
    have sub : ∀ x ∈ bfp p lw ll lp, x ∈ l :: bfp p lw ll lp := fun x hx => List.mem_cons_of_mem _ hx
    refine q_forG (D := { nx := _, rt := _ }) (a := lb) (xs := xs) (fun i σ' H' => ∃ y5 y6 y7 ys, σ' = [some (.ref p), some (.ref rl), some (.ref nb), some (.ref la), some (.ref l), y5, y6, y7, none, none] ∧ Fr K (l :: bfp p lw ll lp) (l :: bfp p lw ll lp) H8 H' ∧ H' l = some (.lst ys) ∧ Paired (DealAt H') ((B.told ds).take i) ys ∧ BookAt K T.a_Book H' p lw ll lp ((B.to z).deals ((B.told ds).take i)))
      ev_c hlb (fun H9 S9 => ⟨none, none, none, [], rfl, S9.fr, S9.lst hl8, .nil, hB8.sm S9⟩) (fun i σ' H' _ hP => ?_) (fun i x σ' H' hx hP => ?_) (fun σ' H' hP => ?_)
    · obtain ⟨_, _, _, _, _, F, _⟩ := hP
      exact F.e.sql nlb' hlb
    · obtain ⟨y5, y6, y7, ys', rfl, F, hl', hyy, hBi⟩ := hP
      obtain ⟨d, hd, t, rfl, ht⟩ := paired_get hds hx
      have hdm := List.mem_of_getElem? hd
      have ix := R.ix d hdm
      have hti : (B.told ds)[i]? = some (B.ren d) := by unfold Book.told; rw [List.getElem?_map, hd]; rfl
      refine ⟨_, evg_tup (.inl (.inl (F.t.tup _ _ ht))) rfl (evgs_cons evg_name (evgs_cons evg_name (evgs_cons evg_name evgs_nil))), fun H10 S10 => ?_⟩
      show tSeq _ _ _ [some (.ref p), some (.ref rl), some (.ref nb), some (.ref la), some (.ref l), some (.int (d.1 : Int)), some (.int (d.2.1 : Int)), some (.int d.2.2), none, none] H10
      have hn1 := num_at ix.1
      have hn2 := num_at ix.2
      have hL : ((B.to z).deals ((B.told ds).take i)).Len := Book.Len.deals _ (Book.to_len hO.len)
      have hws := Book.deals_ws ((B.told ds).take i) (B.to z)
      have hnn : ((B.to z).deals ((B.told ds).take i)).n = B.n := by rw [Book.deals_n]; rfl
      have hpp : ((B.to z).deals ((B.told ds).take i)).price = z := hws.2
      have hstep : (((B.to z).deals ((B.told ds).take i)).settle (B.num d.1) d.2.2).settle (B.num d.2.1) d.2.2 = (B.to z).deals ((B.told ds).take (i + 1)) := by
        rw [take_snoc hti, Book.deals_snoc]
        rfl
      generalize (B.to z).deals ((B.told ds).take i) = Bi at hBi hL hnn hpp hstep
      have F10 := F.sm S10
      have hB10 := hBi.sm S10
      obtain ⟨dx10, hp10⟩ := hB10.ob
      have nbAt : ∀ {H'}, Fr K (l :: bfp p lw ll lp) (l :: bfp p lw ll lp) H8 H' → H' nb = some (.lst (natVs B.nums)) := fun G => G.e.lst nnb' hnb8
      refine qs_dropM (ev_var rfl) hp10 bf_no (evl_cons (ev_natIx (ev_var rfl) (ev_var rfl) (nbAt F10) (num_get ix.1)) (evl_cons (ev_var rfl) evl_nil)) fun H11 S11 => ⟨p, lw, ll, lp, Bi, B.num d.1, d.2.2, rfl, hB10.sm S11, hL, by rw [hnn]; exact hn1.1, by rw [hpp]; exact z01.1, by rw [hpp]; exact z01.2, fun H12 G12 hB12 => ?_⟩
      have F12 : Fr K (l :: bfp p lw ll lp) (l :: bfp p lw ll lp) H8 H12 := (F10.sm S11).trans (G12.weak sub)
      obtain ⟨dx12, hp12⟩ := hB12.ob
      refine qs_dropM (ev_var rfl) hp12 bf_no (evl_cons (ev_natIx (ev_var rfl) (ev_var rfl) (nbAt F12) (num_get ix.2)) (evl_cons (ev_var rfl) evl_nil)) fun H13 S13 => ⟨p, lw, ll, lp, _, B.num d.2.1, d.2.2, rfl, hB12.sm S13, hL.settle, by show _ < Bi.n; rw [hnn]; exact hn2.1, by show 0 ≤ Bi.price; rw [hpp]; exact z01.1, by show Bi.price ≤ _; rw [hpp]; exact z01.2, fun H14 G14 hB14 => ?_⟩
      rw [hstep] at hB14
      have F14 : Fr K (l :: bfp p lw ll lp) (l :: bfp p lw ll lp) H8 H14 := (F12.sm S13).trans (G14.weak sub)
      have hl14 : H14 l = some (.lst ys') := G14.e.lst nlin (S13.lst (G12.e.lst nlin (S11.lst (S10.lst hl'))))
      have t14 : Tq K H' H14 := S10.tq.trans (S11.tq.trans (G12.t.trans (S13.tq.trans G14.t)))
      have hsz : ys'.length < sizeLine := by
        have h1 := Paired.length hyy
        rw [List.length_take] at h1
        have h2 := deals_len hpr.ok hpr.ris
        have h3 : (B.told ds).length = ds.length := by unfold Book.told; rw [List.length_map]
        exact Nat.lt_of_lt_of_le (show ys'.length < 2001 by omega) (by decide)
      refine q_app (P := fun y H' => ∃ t, y = .ref t ∧ H' t = some (.tup [.int ((B.num d.1 : Nat) : Int), .int ((B.num d.2.1 : Nat) : Int), .int d.2.2])) (ev_var rfl) hl14 hsz ((evp_tup (P := fun vs _ => vs = [V.int ((B.num d.1 : Nat) : Int), V.int ((B.num d.2.1 : Nat) : Int), V.int d.2.2]) K (evl_cons (ev_natIx (ev_var rfl) (ev_var rfl) (nbAt F14) (num_get ix.1)) (evl_cons (ev_natIx (ev_var rfl) (ev_var rfl) (nbAt F14) (num_get ix.2)) (evl_cons (ev_var rfl) evl_nil))) (fun vs H' e => by rw [e]; show 3 ≤ sizeLine; decide) (fun _ _ _ _ e => e)).to fun v H' S ⟨t, vs, e, h, e3⟩ => ⟨t, e, by rw [h, e3]⟩) fun y H15 S15 hy hl15 => ?_
      obtain ⟨t2, rfl, ht2⟩ := hy
      have t16 : Tq K H15 (upd H15 l (.lst (ys' ++ [.ref t2]))) := tq_lst hl15
      have F16 : Fr K (l :: bfp p lw ll lp) (l :: bfp p lw ll lp) H8 (upd H15 l (.lst (ys' ++ [.ref t2]))) := (F14.sm S15).trans (Fr.put List.mem_cons_self hl15)
      refine ⟨_, _, _, ys' ++ [.ref t2], rfl, F16, upd_same, ?_, ?_⟩
      · rw [take_snoc hti]
        exact Paired.snoc (DealAt.tq (t14.trans (S15.tq.trans t16)) hyy) ⟨t2, rfl, t16.tup _ _ ht2⟩
      · obtain ⟨⟨dx, h1⟩, ⟨xs, h2, h3⟩, h4, h5, n1, n2, n3⟩ := hB14.sm S15
        have ne : ∀ {a : Addr}, a ∈ bfp p lw ll lp → a ≠ l := fun m e => nlin (e ▸ m)
        exact ⟨⟨dx, by rw [upd_ne (ne (by simp))]; exact h1⟩, ⟨xs, by rw [upd_ne (ne (by simp))]; exact h2, h3.tk t16.tk⟩, by rw [upd_ne (ne (by simp))]; exact h4, by rw [upd_ne (ne (by simp))]; exact h5, n1, n2, n3⟩
    · obtain ⟨y5, y6, y7, ys', rfl, F, hl', hyy, hBi⟩ := hP
      dsimp only
      have ex : (B.told ds).take xs.length = B.told ds := List.take_of_length_le (by unfold Book.told; rw [List.length_map, Paired.length hds]; exact Nat.le_refl _)
      rw [ex] at hyy hBi
      refine q_ret (ev_var rfl) fun H9 S9 => q l ys' H9 z ds ?_ nl0 (S9.lst hl') (DealAt.sm S9 hyy) R (hBi.sm S9)
      exact (((F8.grow nl0).trans F).sm S9).shrink sub

/-! ### part sp -/
theorem side_at {i : Int} (h0 : 0 ≤ i) (h1 : i < 2) : atI [V.str (PySem.Str.ofString "buy"), V.str (PySem.Str.ofString "sell")] i = some (.str (sideS (decide (i = 0)))) := by
  have h : i = 0 ∨ i = 1 := by omega
  rcases h with rfl | rfl <;> rfl
/-! ### _law_wish_by -/
/-- a new wish within the bounds -/
def spWishBy (K : PySem.W.Frag) : Sp := fun vs H Q _ => ∃ c : Int, vs = [.int c] ∧ ∀ v H' w, Sm H H' → WishV K H' v w → w.Good → Q v H'
theorem evp_wishBy {K : PySem.W.Frag} {σ : L2.St} {H : Hp} {ta : TE} {E : XK} {c : Int} (ha : Ev ta σ H (.int c)) : EvP (tCall (spWishBy K) [] E (tCons ta tNil)) σ H fun v H' => ∃ w, WishV K H' v w ∧ w.Good :=
  evp_call (evl_cons ha evl_nil) fun H1 S Q q => ⟨c, rfl, fun v H' w S' h1 h2 => q v H' S' ⟨w, h1, h2⟩⟩
theorem ok__law_wish_by (T : Txt K mg) : FnOk P w K mg base CX0 1 T.f__law_wish_by T.d__law_wish_by ["_law_cell"] (spWishBy K) := by
  refine T.D__law_wish_by.F.ok sc__law_wish_by (fun vs H Q E h => ?_) (fun cdv A outer s H vs Q E hr h => ?_)
  · obtain ⟨c, rfl, _⟩ := h
    rfl
  · obtain ⟨c, rfl, q⟩ := h
    refine ⟨_, (pss_cons (ps_set (i := 1) sc__law_wish_by.nd rfl (.inl rfl) (pe_ix (r := rIxL K) ix_list (pe_lst (pa_cons pe_str (pa_cons pe_str pa_nil))) (pe_op op_mod (pv 0) pe_int) (fun _ _ => rfl)))
  (pss_cons (ps_set (i := 2) sc__law_wish_by.nd rfl (.inl rfl) (pe_op op_mod (pe_op op_mul (pv 0) pe_int) pe_int))
  (pss_cons (ps_set (i := 3) sc__law_wish_by.nd rfl (.inl rfl) (pe_op op_add pe_int (pe_op op_mod (pe_op op_fdiv (pv 2) pe_int) pe_int)))
  (pss_cons (ps_if (pt_cmpR op_eq (pe_op op_mod (pv 2) pe_int) pe_int (nomark _))
    (pss_one (ps_set (i := 3) sc__law_wish_by.nd rfl (.inl rfl) (pe_op op_mod (pe_op op_mod (pe_op op_mul (pv 0) pe_int) pe_int) pe_int)))
    pss_nil)
  (pss_cons (ps_if (pt_cmpR op_eq (pe_op op_mod (pv 2) pe_int) pe_int (nomark _))
    (pss_one (ps_set (i := 3) sc__law_wish_by.nd rfl (.inl rfl) (pe_ix (r := rIxL K) ix_list (pe_lst (pa_cons pe_int (pa_cons pe_int (pa_cons pe_int (pa_cons pe_int pa_nil))))) (pe_op op_mod (pe_op op_fdiv (pv 2) pe_int) pe_int) (fun _ _ => rfl))))
    pss_nil)
  (pss_cons (ps_set (i := 4) sc__law_wish_by.nd rfl (.inl rfl) (pe_op op_add pe_int (pe_op op_mod (pe_op op_fdiv (pv 2) pe_int) pe_int)))
  (pss_cons (ps_if (pt_cmpR op_eq (pe_op op_mod (pe_op op_fdiv (pv 2) pe_int) pe_int) pe_int (nomark _))
    (pss_one (ps_set (i := 4) sc__law_wish_by.nd rfl (.inl rfl) (pe_op op_add pe_int (pe_op op_mod (pe_op op_mod (pe_op op_mul (pv 0) pe_int) pe_int) pe_int))))
    pss_nil)
  (pss_cons (ps_if (pt_cmpR op_eq (pe_op op_mod (pe_op op_fdiv (pv 2) pe_int) pe_int) pe_int (nomark _))
    (pss_one (ps_set (i := 4) sc__law_wish_by.nd rfl (.inl rfl) pe_int))
    pss_nil)
  (pss_one (ps_ret (pe_tup (pa_cons (pv 1) (pa_cons (pv 3) (pa_cons (pv 4) pa_nil)))))))))))))), ?_⟩
    try dsimp only [cxOf, Cx.nox, Cx.wish]
    refine qs_set (ev_ixLP (i := c % 2) (evp_lstV (K := K) (evl_cons ev_c (evl_cons ev_c evl_nil)) (by decide)) (by walk_at "ev") (side_at (by omega) (by omega))) fun H2 S2 => ?_
    refine qs_setI (by walk_at "ev") fun far hfar H3 S3 => ?_
    refine qs_setI (by walk_at "ev") fun l1 hl1 H4 S4 => ?_
    refine qs_ifsetI (by walk_at "et") rfl (fun _ => by walk_at "ev") fun l2 hl2 H5 S5 => ?_
    refine qs_ifsetI (by walk_at "et") rfl (fun _ => by walk_at "ev") fun l3 hl3 H6 S6 => ?_
    refine qs_setI (by walk_at "ev") fun a1 ha1 H7 S7 => ?_
    refine qs_ifsetI (by walk_at "et") rfl (fun _ => by walk_at "ev") fun a2 ha2 H8 S8 => ?_
    refine qs_ifsetI (by walk_at "et") rfl (fun _ => by walk_at "ev") fun a3 ha3 H9 S9 => ?_
    refine q_retP (evp_tupV (K := K) (by walk_at "el") (by show 3 ≤ sizeLine; decide)) fun v H10 S10 hv => ?_
    obtain ⟨t, rfl, ht⟩ := hv
    refine q (.ref t) H10 ⟨decide (c % 2 = 0), l3, a3⟩ (S2.trans (S3.trans (S4.trans (S5.trans (S6.trans (S7.trans (S8.trans (S9.trans S10)))))))) ⟨t, rfl, ht⟩ ?_
    have m4 : ∀ k : Int, 0 ≤ [(0 : Int), 1, 999999999, 1000000000].getD k.toNat 0 ∧ [(0 : Int), 1, 999999999, 1000000000].getD k.toNat 0 ≤ 1000000000 := fun k => menu_all (P := fun z => 0 ≤ z ∧ z ≤ 1000000000) (by decide) (by decide) _
    have m := m4 (far / 7 % 4)
    refine ⟨?_, ?_, ?_, ?_⟩
    · show 0 ≤ l3
      rw [hl3, hl2, hl1]
      split <;> (try split) <;> omega
    · show l3 ≤ 1000000000
      rw [hl3, hl2, hl1]
      split <;> (try split) <;> omega
    · show 1 ≤ a3
      rw [ha3, ha2, ha1]
      split <;> (try split) <;> omega
    · show a3 ≤ 1000000
      rw [ha3, ha2, ha1]
      split <;> (try split) <;> omega

/-! ### part a -/
/-! ### _law_sum -/
def spSum14 (K : PySem.W.Frag) : Sp := fun vs H Q _ => ∃ (a : Addr) (B : Book) (b : Bool) (p : Int), vs = [.ref a, .str (sideS b), .int p] ∧ RL H a B ∧ ∀ H', Sm H H' → Q (.int (sumOf b B.stands p)) H'
theorem ev_sumB {K : PySem.W.Frag} {σ : L2.St} {H : Hp} {ta tc : TE} {E : XK} {a : Addr} {B : Book} {p : Int} (ha : Ev ta σ H (.ref a)) (hc : Ev tc σ H (.int p)) (hS : RL H a B) :
    Ev (tCall (spSum14 K) [] E (tCons ta (tCons (tC (.str (PySem.Str.ofString "buy"))) (tCons tc tNil)))) σ H (.int (wantedOf B.stands p)) :=
  ev_call (evl_cons ha (evl_cons ev_c (evl_cons hc evl_nil))) fun H1 S Q q => ⟨a, B, true, p, rfl, hS.sm S, q⟩
theorem ev_sumS {K : PySem.W.Frag} {σ : L2.St} {H : Hp} {ta tc : TE} {E : XK} {a : Addr} {B : Book} {p : Int} (ha : Ev ta σ H (.ref a)) (hc : Ev tc σ H (.int p)) (hS : RL H a B) :
    Ev (tCall (spSum14 K) [] E (tCons ta (tCons (tC (.str (PySem.Str.ofString "sell"))) (tCons tc tNil)))) σ H (.int (offeredOf B.stands p)) :=
  ev_call (evl_cons ha (evl_cons ev_c (evl_cons hc evl_nil))) fun H1 S Q q => ⟨a, B, false, p, rfl, hS.sm S, q⟩
local macro_rules | `(tactic| walk_at "ev") => `(tactic| first
  | ((with_reducible refine' ev_ixT ?a ?b ?c ?d); (case a => walk_at "ev"); (case b => walk_at "ev"); (case c => walk_at "sq"); (case d => rfl)))
theorem ok__law_sum (T : Txt K mg) : FnOk P w K mg base CX0 1 T.f__law_sum T.d__law_sum ["_law_rows", "_law_side", "_law_price"] (spSum14 K) := by
  refine T.D__law_sum.F.ok sc__law_sum (fun vs H Q E h => ?_) (fun cdv A outer s H vs Q E hr h => ?_)
  · obtain ⟨a, B, b, p, rfl, _⟩ := h
    rfl
  · obtain ⟨a, B, b, p, rfl, ⟨ys, hx, hw⟩, q⟩ := h
    refine ⟨_, (pss_cons (ps_set (i := 3) sc__law_sum.nd rfl (.inl rfl) pe_int)
  (pss_cons (ps_for PassesOwn.never rfl (pi_list (pv 0)) (pg_name (i := 4) sc__law_sum.nd rfl (.inl rfl))
    (pss_cons (ps_if (PW.pt (pw_and (pt_cmpR op_eq (pv 1) pe_str (nomark _)) (pw_and (pt_cmpR op_eq (pe_ix (r := rIxT K) ix_tup (pe_ix (r := rIxT K) ix_tup (pv 4) pe_int (fun _ _ => rfl)) pe_int (fun _ _ => rfl)) pe_str (nomark _)) (pw_and1 (pt_cmpR op_ge (pe_ix (r := rIxT K) ix_tup (pe_ix (r := rIxT K) ix_tup (pv 4) pe_int (fun _ _ => rfl)) pe_int (fun _ _ => rfl)) (pv 2) (nomark _))))))
    (pss_one (ps_set (i := 3) sc__law_sum.nd rfl (.inl rfl) (pe_op op_add (pv 3) (pe_ix (r := rIxT K) ix_tup (pe_ix (r := rIxT K) ix_tup (pv 4) pe_int (fun _ _ => rfl)) pe_int (fun _ _ => rfl)))))
    pss_nil)
  (pss_one (ps_if (PW.pt (pw_and (pt_cmpR op_eq (pv 1) pe_str (nomark _)) (pw_and (pt_cmpR op_eq (pe_ix (r := rIxT K) ix_tup (pe_ix (r := rIxT K) ix_tup (pv 4) pe_int (fun _ _ => rfl)) pe_int (fun _ _ => rfl)) pe_str (nomark _)) (pw_and1 (pt_cmpR op_le (pe_ix (r := rIxT K) ix_tup (pe_ix (r := rIxT K) ix_tup (pv 4) pe_int (fun _ _ => rfl)) pe_int (fun _ _ => rfl)) (pv 2) (nomark _))))))
    (pss_one (ps_set (i := 3) sc__law_sum.nd rfl (.inl rfl) (pe_op op_add (pv 3) (pe_ix (r := rIxT K) ix_tup (pe_ix (r := rIxT K) ix_tup (pv 4) pe_int (fun _ _ => rfl)) pe_int (fun _ _ => rfl)))))
    pss_nil))))
  (pss_one (ps_ret (pv 3))))), ?_⟩
    try dsimp only [cxOf, Cx.nox, Cx.wish]
    refine qs_setI (by walk_at "ev") fun t0 ht0 H1 S1 => ?_
    refine q_forL (D := { nx := _, rt := _ }) (xs := ys) (fun i σ' H' => ∃ y4, σ' = [some (.ref a), some (.str (sideS b)), some (.int p), some (.int (sumOf b (B.stands.take i) p)), y4] ∧ Sm H H') (ev_var rfl) (.inl (.inl (S1.lst hx))) (fun H2 S2 => ⟨none, ?_, S1.trans S2⟩) (fun i σ' H' _ hP => ?_) (fun i x σ' H' hi hP => ?_) (fun σ' H' hP => ?_)
    · have e : t0 = sumOf b (B.stands.take 0) p := by
        rw [ht0]
        cases b <;> rfl
      rw [← e]
      rfl
    · obtain ⟨_, _, S⟩ := hP
      exact .inl (.inl (S.lst hx))
    · obtain ⟨y4, rfl, S⟩ := hP
      obtain ⟨hin, t, z, rfl, ht, hz, hwi⟩ := RL.at (hw.tq (K := K) S.tq) hi
      generalize wAt B.stands i = w at hz hwi
      have h1 : SqT K H' t [.int ((B.num i : Nat) : Int), .ref z] := .inl (.inl ht)
      have h2 : SqT K H' z w.row := .inl (.inl hz)
      refine qs_ifsetI (by walk_at "et") rfl (fun _ => by walk_at "ev") fun t1 ht1 H2 S2 => ?_
      refine q_ifsetI (by walk_at "et") rfl (fun _ => by walk_at "ev") fun t2 ht2 H3 S3 => ?_
      refine ⟨some (.ref t), ?_, S.trans (S2.trans S3)⟩
      have e : t2 = sumOf b (B.stands.take (i + 1)) p := by
        rw [take_snoc hwi, sumOf_snoc, ht2, ht1, show w.side = sideS w.buy from rfl, side_buy, side_buy, side_sell, side_sell]
        cases b <;> cases w.buy <;> simp
      rw [← e]
      rfl
    · obtain ⟨y4, rfl, S⟩ := hP
      rw [hw.len, ← stands_len, List.take_length]
      exact q_ret (ev_var rfl) fun H2 S2 => q H2 (S.trans S2)
/-! ### _law_clears -/
def spClr14 (K : PySem.W.Frag) : Sp := fun vs H Q _ => ∃ (a : Addr) (B : Book) (p : Int), vs = [.ref a, .int p] ∧ RL H a B ∧ ∀ H', Sm H H' → Q (.bl (clearsB B.stands p)) H'
theorem ev_clr14 {K : PySem.W.Frag} {σ : L2.St} {H : Hp} {ta tb : TE} {E : XK} {a : Addr} {B : Book} {p : Int} (ha : Ev ta σ H (.ref a)) (hb : Ev tb σ H (.int p)) (hS : RL H a B) : Ev (tCall (spClr14 K) [] E (tCons ta (tCons tb tNil))) σ H (.bl (clearsB B.stands p)) :=
  ev_call (evl_cons ha (evl_cons hb evl_nil)) fun H1 S Q q => ⟨a, B, p, rfl, hS.sm S, q⟩
theorem ok__law_clears (T : Txt K mg) : FnOk P w K mg base CX0 2 T.f__law_clears T.d__law_clears ["_law_rows", "_law_price"] (spClr14 K) := by
  have G__law_sum : FnOk P w K mg base CX0 1 T.f__law_sum T.d__law_sum ["_law_rows", "_law_side", "_law_price"] (spSum14 K) := ok__law_sum T
  refine T.D__law_clears.F.ok sc__law_clears (fun vs H Q E h => ?_) (fun cdv A outer s H vs Q E hr h => ?_)
  · obtain ⟨a, B, p, rfl, _⟩ := h
    rfl
  · obtain ⟨a, B, p, rfl, hS, q⟩ := h
    refine ⟨_, (pss_cons (ps_if (pt_cmpR op_gt (pe_call G__law_sum (hr.mono (by decide)) (by rfl) T.D__law_sum.g T.D__law_sum.F.kp T.D__law_sum.b .nil pass0 (pa_cons (pv 0) (pa_cons pe_str (pa_cons (pe_op op_add (pv 1) pe_int) pa_nil)))) (pe_call G__law_sum (hr.mono (by decide)) (by rfl) T.D__law_sum.g T.D__law_sum.F.kp T.D__law_sum.b .nil pass0 (pa_cons (pv 0) (pa_cons pe_str (pa_cons (pv 1) pa_nil)))) (nomark _))
    (pss_one (ps_ret pe_bl))
    pss_nil)
  (pss_one (ps_ret (pe_cmpR op_le (pe_call G__law_sum (hr.mono (by decide)) (by rfl) T.D__law_sum.g T.D__law_sum.F.kp T.D__law_sum.b .nil pass0 (pa_cons (pv 0) (pa_cons pe_str (pa_cons (pe_op op_sub (pv 1) pe_int) pa_nil)))) (pe_call G__law_sum (hr.mono (by decide)) (by rfl) T.D__law_sum.g T.D__law_sum.F.kp T.D__law_sum.b .nil pass0 (pa_cons (pv 0) (pa_cons pe_str (pa_cons (pv 1) pa_nil)))) (nomark _))))), ?_⟩
    try dsimp only [cxOf, Cx.nox, Cx.wish]
    refine qs_if (b := lowB B.stands p) (evt_test (ev_opI0 (ev_sumB (ev_var rfl) (ev_opI0 (ev_var rfl) ev_c) hS) (ev_sumS (ev_var rfl) (ev_var rfl) hS))) (fun e H1 S1 => ?_) (fun e H1 S1 => ?_)
    · refine q_ret ev_c fun H2 S2 => ?_
      have := q H2 (S1.trans S2)
      unfold clearsB at this
      rw [e] at this
      exact this
    · have hS1 := hS.sm S1
      refine q_ret (v := .bl (clearsB B.stands p)) ((ev_opI0 (ev_sumS (ev_var rfl) (ev_opI0 (ev_var rfl) ev_c) hS1) (ev_sumB (ev_var rfl) (ev_var rfl) hS1)).to ?_) fun H2 S2 => q H2 (S1.trans S2)
      unfold clearsB highB
      rw [e]
      show V.bl (decide (offeredOf B.stands (p - 1) ≤ wantedOf B.stands p)) = V.bl (true && !decide (wantedOf B.stands p < offeredOf B.stands (p - 1)))
      rw [Bool.true_and, ← decide_not]
      congr 1
      exact decide_eq_decide.mpr (by omega)
/-! ### _law_priced -/
def spPrc (K : PySem.W.Frag) : Sp := fun vs H Q _ => ∃ (a : Addr) (B : Book) (o p : Int), vs = [.ref a, .int o, .int p] ∧ RL H a B ∧ B.Ok ∧ 0 ≤ o ∧ o ≤ 1000000000 ∧ Near B.stands o p ∧ ∀ H', Sm H H' → Q (.bl true) H'
theorem ok__law_priced (T : Txt K mg) : FnOk P w K mg base CX0 3 T.f__law_priced T.d__law_priced ["_law_rows", "_law_old", "_law_price"] (spPrc K) := by
  have G__law_whole : FnOk P w K mg base CX0 1 T.f__law_whole T.d__law_whole ["_law_thing"] (spWhole K) := ok__law_whole T
  have G__law_clears : FnOk P w K mg base CX0 2 T.f__law_clears T.d__law_clears ["_law_rows", "_law_price"] (spClr14 K) := ok__law_clears T
  refine T.D__law_priced.F.ok sc__law_priced (fun vs H Q E h => ?_) (fun cdv A outer s H vs Q E hr h => ?_)
  · obtain ⟨a, B, o, p, rfl, _⟩ := h
    rfl
  · obtain ⟨a, B, o, p, rfl, hS, ok, o0, o1, hnear, q⟩ := h
    refine ⟨_, (pss_cons (ps_if (PW.pt (pw_or (pt_not (pt_val (pe_call G__law_whole (hr.mono (by decide)) (by rfl) T.D__law_whole.g T.D__law_whole.F.kp T.D__law_whole.b .nil pass0 (pa_cons (pv 2) pa_nil)))) (pw_or (pt_not (pt_chain op_le op_le pe_int (pv 2) pe_int)) (pw_or1 (pt_not (pt_val (pe_call G__law_clears (hr.mono (by decide)) (by rfl) T.D__law_clears.g T.D__law_clears.F.kp T.D__law_clears.b .nil pass0 (pa_cons (pv 0) (pa_cons (pv 2) pa_nil)))))))))
    (pss_one (ps_ret pe_bl))
    pss_nil)
  (pss_cons (ps_if (PW.pt (pw_or (PW.pt (pw_and (pt_cmpR op_lt (pv 2) (pv 1) (nomark _)) (pw_and1 (pt_val (pe_call G__law_clears (hr.mono (by decide)) (by rfl) T.D__law_clears.g T.D__law_clears.F.kp T.D__law_clears.b .nil pass0 (pa_cons (pv 0) (pa_cons (pe_op op_add (pv 2) pe_int) pa_nil))))))) (pw_or1 (PW.pt (pw_and (pt_cmpR op_gt (pv 2) (pv 1) (nomark _)) (pw_and1 (pt_val (pe_call G__law_clears (hr.mono (by decide)) (by rfl) T.D__law_clears.g T.D__law_clears.F.kp T.D__law_clears.b .nil pass0 (pa_cons (pv 0) (pa_cons (pe_op op_sub (pv 2) pe_int) pa_nil))))))))))
    (pss_one (ps_ret pe_bl))
    pss_nil)
  (pss_one (ps_ret (pe_or (pe_cmpR op_eq (pv 2) (pv 1) (nomark _)) (pe_one (pe_not (pe_call G__law_clears (hr.mono (by decide)) (by rfl) T.D__law_clears.g T.D__law_clears.F.kp T.D__law_clears.b .nil pass0 (pa_cons (pv 0) (pa_cons (pv 1) pa_nil)))))))))), ?_⟩
    try dsimp only [cxOf, Cx.nox, Cx.wish]
    obtain ⟨⟨p0, p1⟩, hc, hlt, hgt, heq, hne⟩ := near_all (stands_good ok) o0 o1 hnear
    refine qs_if (b := false) (EvT.to (evt_or (b := false) (c := false) (EvT.to (evt_not (evt_b (ev_wholeI (ev_var rfl)))) rfl) fun _ => EvT.to (evt_or (b := false) (c := false) (EvT.to (evt_not (b := true) (EvT.to (evt_test (ev_chain ev_c (ev_var rfl) ev_c)) (by rw [decide_eq_true p0, decide_eq_true p1]; rfl))) rfl) fun _ => EvT.to (evt_not (evt_b (ev_clr14 (ev_var rfl) (ev_var rfl) hS))) (by rw [hc]; rfl)) rfl) rfl) (fun e => by cases e) (fun e H1 S1 => ?_)
    have hS1 := hS.sm S1
    refine qs_if (b := false) (EvT.to (evt_or (b := false) (c := false) (EvT.to (evt_and (evt_test (ev_opI0 (ev_var rfl) (ev_var rfl))) fun _ => evt_b (ev_clr14 (ev_var rfl) (ev_opI0 (ev_var rfl) ev_c) hS1)) ?_) fun _ => EvT.to (evt_and (evt_test (ev_opI0 (ev_var rfl) (ev_var rfl))) fun _ => evt_b (ev_clr14 (ev_var rfl) (ev_opI0 (ev_var rfl) ev_c) hS1)) ?_) rfl) (fun e => by cases e) (fun e H2 S2 => ?_)
    · by_cases h : p < o
      · rw [hlt h, Bool.and_false]
      · rw [decide_eq_false h]; rfl
    · by_cases h : o < p
      · rw [hgt h, Bool.and_false]
      · rw [decide_eq_false h]; rfl
    · have hS2 := hS1.sm S2
      refine q_ret (v := .bl true) ((ev_or (ev_eqI (ev_var rfl) (ev_var rfl)) fun _ => ev_not (ev_clr14 (ev_var rfl) (ev_var rfl) hS2)).to ?_) fun H3 S3 => q H3 (S1.trans (S2.trans S3))
      by_cases h : p = o
      · rw [decide_eq_true h]; rfl
      · have : clearsB B.stands o = false := by
          cases z : clearsB B.stands o with
          | false => rfl
          | true => exact absurd (heq z) h
        rw [this, decide_eq_false h]
        rfl
/-! ### _law_deal_good -/
def spDG (K : PySem.W.Frag) : Sp := fun vs H Q _ => ∃ (t d : Addr) (B : Book) (f : Nat → V) (dl : Deal) (p : Int), vs = [.ref t, .ref d, .int p] ∧ H t = some (.tup [.int (dl.1 : Int), .int (dl.2.1 : Int), .int dl.2.2]) ∧ H d = some (.dK (dkv B.nums f)) ∧ (∀ k ∈ B.nums, ∃ z, f k = .ref z ∧ H z = some (.tup (B.wl k).row)) ∧ Told B p dl ∧ ∀ H', Sm H H' → Q (.bl true) H'
theorem ok__law_deal_good (T : Txt K mg) : FnOk P w K mg base CX0 2 T.f__law_deal_good T.d__law_deal_good ["_law_deal", "_law_stood_here", "_law_price"] (spDG K) := by
  have G__law_whole : FnOk P w K mg base CX0 1 T.f__law_whole T.d__law_whole ["_law_thing"] (spWhole K) := ok__law_whole T
  refine T.D__law_deal_good.F.ok sc__law_deal_good (fun vs H Q E h => ?_) (fun cdv A outer s H vs Q E hr h => ?_)
  · obtain ⟨t, d, B, f, dl, p, rfl, _⟩ := h
    rfl
  · obtain ⟨t, d, B, f, dl, p, rfl, ht, hd, hf, hT, q⟩ := h
    refine ⟨_, (pss_cons (ps_if (PW.pt (pw_or (pt_not (pt_val (pe_callB call_isi (by rfl) T.n_isinstance (by decide +kernel) (pa_cons (pv 0) (pa_cons (pe_bltn (v := .ty "tuple") (by rfl) T.n_tuple (by decide +kernel) rfl) pa_nil))))) (pw_or1 (pt_cmpR op_ne (pe_callB call_len_seq (by rfl) T.n_len PySem.boot_len (pa_cons (pv 0) pa_nil)) pe_int (nomark _)))))
    (pss_one (ps_ret pe_bl))
    pss_nil)
  (pss_cons (ps_for PassesOwn.never rfl (pi_tup (pv 0)) (pg_name (i := 3) sc__law_deal_good.nd rfl (.inl rfl))
    (pss_one (ps_if (pt_not (pt_val (pe_call G__law_whole (hr.mono (by decide)) (by rfl) T.D__law_whole.g T.D__law_whole.F.kp T.D__law_whole.b .nil pass0 (pa_cons (pv 3) pa_nil))))
    (pss_one (ps_ret pe_bl))
    pss_nil)))
  (pss_cons (ps_if (PW.pt (pw_or (pt_cmp (pc_dnotin (hu_of hr) (pe_ix (r := rIxT K) ix_tup (pv 0) pe_int (fun _ _ => rfl)) (pv 1))) (pw_or (pt_cmp (pc_dnotin (hu_of hr) (pe_ix (r := rIxT K) ix_tup (pv 0) pe_int (fun _ _ => rfl)) (pv 1))) (pw_or1 (pt_cmpR op_lt (pe_ix (r := rIxT K) ix_tup (pv 0) pe_int (fun _ _ => rfl)) pe_int (nomark _))))))
    (pss_one (ps_ret pe_bl))
    pss_nil)
  (pss_cons (ps_set (i := 4) sc__law_deal_good.nd rfl (.inl rfl) (pe_dget (hu_of hr) (pv 1) (pe_ix (r := rIxT K) ix_tup (pv 0) pe_int (fun _ _ => rfl)) (fun _ _ => rfl)))
  (pss_cons (ps_set (i := 5) sc__law_deal_good.nd rfl (.inl rfl) (pe_dget (hu_of hr) (pv 1) (pe_ix (r := rIxT K) ix_tup (pv 0) pe_int (fun _ _ => rfl)) (fun _ _ => rfl)))
  (pss_one (ps_ret (pe_and (pe_cmpR op_eq (pe_ix (r := rIxT K) ix_tup (pv 4) pe_int (fun _ _ => rfl)) pe_str (nomark _)) (pe_and (pe_cmpR op_eq (pe_ix (r := rIxT K) ix_tup (pv 5) pe_int (fun _ _ => rfl)) pe_str (nomark _)) (pe_one (pe_chain op_le op_le (pe_ix (r := rIxT K) ix_tup (pv 5) pe_int (fun _ _ => rfl)) (pv 2) (pe_ix (r := rIxT K) ix_tup (pv 4) pe_int (fun _ _ => rfl))))))))))))), ?_⟩
    try dsimp only [cxOf, Cx.nox, Cx.wish]
    have tS : ∀ {H'}, Sm H H' → SqT K H' t [.int (dl.1 : Int), .int (dl.2.1 : Int), .int dl.2.2] := fun S => .inl (.inl (S.tup ht))
    refine qs_if (b := false) (EvT.to (evt_or (b := false) (c := false) (EvT.to (evt_not (evt_b (b := true) (ev_isi (x := .ref t) (u := .type "tuple") (t := .type "tuple") (ev_var rfl) ev_c (.ty "tuple") (fun H' S' => .base (.tup (S'.tup ht))) (kit_ty (by decide +kernel))))) rfl) fun _ => EvT.to (evt_test (ev_neI (ev_lenT (ev_var rfl) (tS (Sm.refl _))) ev_c)) rfl) rfl) (fun e => by cases e) (fun e H1 S1 => ?_)
    show tSeq (tFor _ _ _) _ _ _ _
    refine q_seq (q_forTE (D := { nx := _, rt := _ }) (a := t) (xs := [.int (dl.1 : Int), .int (dl.2.1 : Int), .int dl.2.2]) (fun j σ' H' => ∃ y3, σ' = [some (.ref t), some (.ref d), some (.int p), y3, none, none] ∧ Sm H H')
      (ev_var rfl) (tS S1) (fun H2 S2 => ⟨none, rfl, S1.trans S2⟩) (fun j σ' H' _ hP => ?_) (fun j x σ' H' hx hP => ?_) (fun σ' H' hP => ?_))
    · obtain ⟨_, _, S⟩ := hP
      exact tS S
    · obtain ⟨y3, rfl, S⟩ := hP
      obtain ⟨i, rfl⟩ : ∃ i : Int, x = .int i := by
        match j, hx with
        | 0, hx => exact ⟨_, (Option.some.inj hx).symm⟩
        | 1, hx => exact ⟨_, (Option.some.inj hx).symm⟩
        | 2, hx => exact ⟨_, (Option.some.inj hx).symm⟩
        | j + 3, hx => simp at hx
      refine ⟨_, evg_name, fun H3 S3 => ?_⟩
      exact q_if (b := false) (EvT.to (evt_not (evt_b (ev_wholeI (ev_var rfl)))) rfl) (fun e => by cases e) (fun e H4 S4 => q_next ⟨_, rfl, S.trans (S3.trans S4)⟩)
    · obtain ⟨y3, rfl, S⟩ := hP
      dsimp only
      have hd' := S.at hd fun _ z => by cases z
      have x0 : ∀ {H2 σ'}, Sm H H2 → σ'[0]? = some (some (V.ref t)) → Ev (tOp (rIxT K) (tVar 0) (tC (.int 0))) σ' H2 (.int (dl.1 : Int)) := fun M h => ev_ixT (ev_var h) ev_c (tS M) rfl
      have x1 : ∀ {H2 σ'}, Sm H H2 → σ'[0]? = some (some (V.ref t)) → Ev (tOp (rIxT K) (tVar 0) (tC (.int 1))) σ' H2 (.int (dl.2.1 : Int)) := fun M h => ev_ixT (ev_var h) ev_c (tS M) rfl
      have hm := hT.m
      refine qs_if (b := false) (EvT.to (evt_or (b := false) (c := false) (evt_dnotin (ev_var rfl) (x0 S rfl) hd' hT.b.1) fun _ => EvT.to (evt_or (b := false) (c := false) (evt_dnotin (ev_var rfl) (x1 S rfl) hd' hT.s.1) fun _ => EvT.to (evt_test (ev_opI0 (ev_ixT (v := .int dl.2.2) (ev_var rfl) ev_c (tS S) rfl) ev_c)) (decide_eq_false (by omega))) rfl) rfl) (fun e => by cases e) (fun e H2 S2 => ?_)
      have M2 := S.trans S2
      obtain ⟨zb, eb, hb⟩ := hf _ hT.b.1
      obtain ⟨zs, es, hs⟩ := hf _ hT.s.1
      refine qs_set ((ev_dget (ev_var rfl) (x0 M2 rfl) (S2.at hd' fun _ z => by cases z) hT.b.1).to eb) fun H3 S3 => ?_
      have M3 := M2.trans S3
      refine qs_set ((ev_dget (ev_var rfl) (x1 M3 rfl) ((S2.trans S3).at hd' fun _ z => by cases z) hT.s.1).to es) fun H4 S4 => ?_
      have M4 := M3.trans S4
      have hbS : SqT K H4 zb (B.wl dl.1).row := .inl (.inl (M4.tup hb))
      have hsS : SqT K H4 zs (B.wl dl.2.1).row := .inl (.inl (M4.tup hs))
      refine q_ret (v := .bl true) ((ev_and (b := true) ((ev_eqS (i := (B.wl dl.1).side) (ev_ixT (ev_var rfl) ev_c hbS rfl) ev_c).to ?_) fun _ => ev_and (b := true) ((ev_eqS (i := (B.wl dl.2.1).side) (ev_ixT (ev_var rfl) ev_c hsS rfl) ev_c).to ?_) fun _ => (ev_chain (i := (B.wl dl.2.1).lim) (j := p) (k := (B.wl dl.1).lim) (ev_ixT (ev_var rfl) ev_c hsS rfl) (ev_var rfl) (ev_ixT (ev_var rfl) ev_c hbS rfl)).to ?_).to rfl) fun H5 S5 => q H5 (M4.trans S5)
      · rw [show (B.wl dl.1).side = sideS (wAt B.ws dl.1).buy from rfl, hT.b.2.1]
        decide +kernel
      · rw [show (B.wl dl.2.1).side = sideS (wAt B.ws dl.2.1).buy from rfl, hT.s.2.1]
        decide +kernel
      · exact (by rw [decide_eq_true (show (B.wl dl.2.1).lim ≤ p from hT.s.2.2), decide_eq_true (show p ≤ (B.wl dl.1).lim from hT.b.2.2)]; rfl)
/-! ### _law_rising -/
def spRis (K : PySem.W.Frag) : Sp := fun vs H Q _ => ∃ (l : Addr) (ds : List Deal) (ys : List V), vs = [.ref l] ∧ H l = some (.lst ys) ∧ Paired (DealAt H) ds ys ∧ ds.Pairwise Rise ∧ ds.length ≤ 3000 ∧ ∀ H', Sm H H' → Q (.bl true) H'
theorem ok__law_rising (T : Txt K mg) : FnOk P w K mg base CX0 1 T.f__law_rising T.d__law_rising ["_law_deals"] (spRis K) := by
  refine T.D__law_rising.F.ok sc__law_rising (fun vs H Q E h => ?_) (fun cdv A outer s H vs Q E hr h => ?_)
  · obtain ⟨l, ds, ys, rfl, _⟩ := h
    rfl
  · obtain ⟨l, ds, ys, rfl, hl, hd, hris, hn, q⟩ := h
    refine ⟨_, (pss_cons (ps_for PassesOwn.never rfl (pi_range2 (by rfl) T.n_range (pa_cons pe_int (pa_cons (pe_callB call_len_seq (by rfl) T.n_len PySem.boot_len (pa_cons (pv 0) pa_nil)) pa_nil))) (pg_name (i := 1) sc__law_rising.nd rfl (.inl rfl))
    (pss_cons (ps_set (i := 2) sc__law_rising.nd rfl (.inl rfl) (pe_ix (r := rIxL K) ix_list (pv 0) (pe_op op_sub (pv 1) pe_int) (fun _ _ => rfl)))
  (pss_one (ps_if (PW.pt (pw_or (pt_cmpR op_lt (pe_ix (r := rIxT K) ix_tup (pe_ix (r := rIxL K) ix_list (pv 0) (pv 1) (fun _ _ => rfl)) pe_int (fun _ _ => rfl)) (pe_ix (r := rIxT K) ix_tup (pv 2) pe_int (fun _ _ => rfl)) (nomark _)) (pw_or (pt_cmpR op_lt (pe_ix (r := rIxT K) ix_tup (pe_ix (r := rIxL K) ix_list (pv 0) (pv 1) (fun _ _ => rfl)) pe_int (fun _ _ => rfl)) (pe_ix (r := rIxT K) ix_tup (pv 2) pe_int (fun _ _ => rfl)) (nomark _)) (pw_or1 (pt_cmpR (op_eqD hr.units) (pe_slice sl_tup (pe_ix (r := rIxL K) ix_list (pv 0) (pv 1) (fun _ _ => rfl)) po_none (po_some pe_int)) (pe_slice sl_tup (pv 2) po_none (po_some pe_int)) (nomark _))))))
    (pss_one (ps_ret pe_bl))
    pss_nil))))
  (pss_one (ps_ret pe_bl))), ?_⟩
    try dsimp only [cxOf, Cx.nox, Cx.wish]
    have hyl := Paired.length hd
    show tSeq (tFor _ _ _) _ _ _ _
    refine q_seq (q_forR2 (D := { nx := _, rt := _ }) (lo := 1) (hi := (ys.length : Int)) (fun i σ' H' => ∃ y1 y2, σ' = [some (.ref l), y1, y2] ∧ Sm H H') (evl_cons ev_c (evl_cons (ev_len (ev_var rfl) (.inl (.inl hl))) evl_nil)) (by omega) (by omega) (fun H1 S1 => ⟨none, none, rfl, S1⟩) (fun i σ' H' hi hP => ?_) (fun σ' H' hP => ?_))
    · obtain ⟨y1, y2, rfl, S⟩ := hP
      have hd' := DealAt.sm S hd
      have hl' := S.lst hl
      obtain ⟨d, t, e1, e2, e3⟩ := deal_get hd' (i := i) (by omega)
      obtain ⟨d', t', e1', e2', e3'⟩ := deal_get hd' (i := i + 1) (by omega)
      have rr := rise_at hris e1 e1'
      refine qs_set (v := .ref t) (ev_ixL (i := (1 : Int) + (i : Int) - 1) (ev_var rfl) (ev_opI0 (ev_var rfl) ev_c) (.inl (.inl hl')) (at_of (j := i) (by omega) e2)) fun H1 S1 => ?_
      have M1 := S.trans S1
      have ix : ∀ {H2 σ'}, Sm H1 H2 → σ'[0]? = some (some (V.ref l)) → σ'[1]? = some (some (V.int ((1 : Int) + (i : Int)))) → Ev (tOp (rIxL K) (tVar 0) (tVar 1)) σ' H2 (.ref t') := fun M h0 h1 => ev_ixL (ev_var h0) (ev_var h1) (.inl (.inl (M.lst (S1.lst hl')))) (at_of (j := i + 1) (by omega) e2')
      have ht : SqT K H1 t [.int (d.1 : Int), .int (d.2.1 : Int), .int d.2.2] := .inl (.inl (S1.tup e3))
      have ht' : SqT K H1 t' [.int (d'.1 : Int), .int (d'.2.1 : Int), .int d'.2.2] := .inl (.inl (S1.tup e3'))
      obtain ⟨r1, r2, r3⟩ := rr
      refine q_if (b := false) (EvT.to (evt_or (b := false) (c := false) (EvT.to (evt_test (ev_opI0 (ev_ixT (v := .int (d'.1 : Int)) (ix (Sm.refl _) rfl rfl) ev_c ht' rfl) (ev_ixT (v := .int (d.1 : Int)) (ev_var rfl) ev_c ht rfl))) (decide_eq_false (by omega))) fun _ => EvT.to (evt_or (b := false) (c := false) (EvT.to (evt_test (ev_opI0 (ev_ixT (v := .int (d'.2.1 : Int)) (ix (Sm.refl _) rfl rfl) ev_c ht' rfl) (ev_ixT (v := .int (d.2.1 : Int)) (ev_var rfl) ev_c ht rfl))) (decide_eq_false (by omega))) fun _ =>
        EvT.to (evt_test (ev_eqD (d := .tuple [.int (d'.1 : Int), .int (d'.2.1 : Int)]) (e := .tuple [.int (d.1 : Int), .int (d.2.1 : Int)]) ((evp_cut2 (ix (Sm.refl _) rfl rfl) ht').to fun v H' M ⟨b, e, h⟩ => by rw [e]; exact .tup h (dp_ints [_, _])) ((evp_cut2 (ev_var rfl) ht).to fun v H' M ⟨b, e, h⟩ => by rw [e]; exact .tup h (dp_ints [_, _])) (shaped_two _ _) (shaped_two _ _))) (eqv_two (by omega))) rfl) rfl) (fun e => by cases e) (fun e H2 S2 => q_next ⟨_, _, rfl, M1.trans S2⟩)
    · obtain ⟨y1, y2, rfl, S⟩ := hP
      dsimp only
      exact q_ret ev_c fun H2 S2 => q H2 (S.trans S2)

/-! ### part b -/
/-! ### _law_stood -/
def spStood (K : PySem.W.Frag) : Sp := fun vs H Q _ => ∃ (ca da dr : Addr) (B : Book) (dl dp : List Int), vs = [.ref ca, .ref da, .ref dr] ∧ WishL K H ca B.ws ∧ H da = some (.lst (dl.map V.int)) ∧ H dr = some (.lst (dp.map V.int)) ∧ dl.length = B.n ∧ dp.length = B.n ∧ B.n ≤ 1000 ∧
  (∀ k, k < B.n → B.lf k = amtAt B.ws k - dl.getD k 0 - dp.getD k 0) ∧ ∀ l H', Sm H H' → H l = none → RL H' l B → Q (.ref l) H'
theorem ok__law_stood (T : Txt K mg) : FnOk P w K mg base CX0 1 T.f__law_stood T.d__law_stood ["_law_came", "_law_dealt", "_law_dropped"] (spStood K) := by
  refine T.D__law_stood.F.ok sc__law_stood (fun vs H Q E h => ?_) (fun cdv A outer s H vs Q E hr h => ?_)
  · obtain ⟨ca, da, dr, B, dl, dp, rfl, _⟩ := h
    rfl
  · obtain ⟨ca, da, dr, B, dl, dp, rfl, hW, hda, hdr, ll, lp, hn, hlf, q⟩ := h
    refine ⟨_, (pss_cons (ps_set (i := 3) sc__law_stood.nd rfl (.inl rfl) (pe_lst pa_nil))
  (pss_cons (ps_for PassesOwn.never rfl (pi_range1 (by rfl) T.n_range (pa_cons (pe_callB call_len_seq (by rfl) T.n_len PySem.boot_len (pa_cons (pv 0) pa_nil)) pa_nil)) (pg_name (i := 4) sc__law_stood.nd rfl (.inl rfl))
    (pss_cons (ps_set (i := 5) sc__law_stood.nd rfl (.inl rfl) (pe_op op_sub (pe_op op_sub (pe_ix (r := rIxT K) ix_tup (pe_ix (r := rIxL K) ix_list (pv 0) (pv 4) (fun _ _ => rfl)) pe_int (fun _ _ => rfl)) (pe_ix (r := rIxL K) ix_list (pv 1) (pv 4) (fun _ _ => rfl))) (pe_ix (r := rIxL K) ix_list (pv 2) (pv 4) (fun _ _ => rfl))))
  (pss_one (ps_if (pt_cmpR op_gt (pv 5) pe_int (nomark _))
    (pss_one (ps_expr (pe_bm PySem.F.plainAttrs_list PySem.F.slot_list_append PySem.F.type_list_append mt_append (pv 3) (pa_cons (pe_tup (pa_cons (pv 4) (pa_cons (pe_tup (pa_cons (pe_ix (r := rIxT K) ix_tup (pe_ix (r := rIxL K) ix_list (pv 0) (pv 4) (fun _ _ => rfl)) pe_int (fun _ _ => rfl)) (pa_cons (pe_ix (r := rIxT K) ix_tup (pe_ix (r := rIxL K) ix_list (pv 0) (pv 4) (fun _ _ => rfl)) pe_int (fun _ _ => rfl)) (pa_cons (pv 5) pa_nil)))) pa_nil))) pa_nil))))
    pss_nil))))
  (pss_one (ps_ret (pv 3))))), ?_⟩
    try dsimp only [cxOf, Cx.nox, Cx.wish]
    refine qs_setP evp_lst0 fun v H1 S1 hv => ?_
    obtain ⟨l, rfl, nl, hl⟩ := hv
    show tSeq (tFor _ _ _) _ _ _ _
    refine q_seq (q_forR (D := { nx := _, rt := _ }) (j := (B.n : Int)) (fun i σ' H' => i ≤ B.n ∧ ∃ y4 y5 ys, σ' = [some (.ref ca), some (.ref da), some (.ref dr), some (.ref l), y4, y5] ∧ Sm H H' ∧ H' l = some (.lst ys) ∧ Paired (RowAt H' B) (kept (fun k => decide (0 < B.lf k)) i) ys)
      (evl_cons (ev_lenW (ev_var rfl) (hW.sm S1)) evl_nil) (by omega) (fun H2 S2 => ⟨Nat.zero_le _, none, none, [], rfl, S1.trans S2, S2.lst hl, .nil⟩) (fun i σ' H' hi hP => ?_) (fun σ' H' hP => ?_))
    · obtain ⟨_, y4, y5, ys, rfl, S, hl', hp⟩ := hP
      have hi2 : i < B.n := by omega
      have hW' := hW.sm S
      show tSeq _ _ _ [some (.ref ca), some (.ref da), some (.ref dr), some (.ref l), some (.int (i : Int)), y5] H'
      refine qs_set (v := .int (B.lf i)) ((ev_opI0 (ev_opI0 (ev_wAmt (ev_var rfl) (ev_var rfl) hW' hi2) (ev_ixN (ev_var rfl) (ev_var rfl) (.inl (.inl (S.lst hda))) (by omega))) (ev_ixN (ev_var rfl) (ev_var rfl) (.inl (.inl (S.lst hdr))) (by omega))).to (by rw [hlf i hi2])) fun H2 S2 => ?_
      have hW2 := hW'.sm S2
      refine q_if (b := decide (0 < B.lf i)) (evt_test (ev_opI0 (ev_var rfl) ev_c)) (fun e H3 S3 => ?_) (fun e H3 S3 => q_next ?_)
      · have hW3 := hW2.sm S3
        have M3 := S2.trans S3
        have hlz : ys.length < sizeLine := by
          have h1 := Paired.length hp
          have h2 := kept_len (pz := fun k => decide (0 < B.lf k)) (n := i)
          exact Nat.lt_of_lt_of_le (show ys.length < 1001 by omega) (by decide)
        refine q_app (P := fun y H' => RowAt H' B i y) (ev_var rfl) (M3.lst hl') hlz (EvP.to (evp_tup (P := fun vs H' => ∃ z, vs = [.int (i : Int), .ref z] ∧ H' z = some (.tup (B.wl i).row)) K (EvA.to (eva_cons (ev_var rfl) (eva_consP (P := fun v H' => ∃ z, v = .ref z ∧ H' z = some (.tup (B.wl i).row))
            (EvP.to (evp_tup (P := fun vs _ => vs = (B.wl i).row) K (evl_cons (ev_wSide (ev_var rfl) (ev_var rfl) hW3 hi2) (evl_cons (ev_wLim (ev_var rfl) (ev_var rfl) hW3 hi2) (evl_cons (ev_var rfl) evl_nil))) (fun vs H' e => by rw [e]; show 3 ≤ sizeLine; decide) (fun _ _ _ _ e => e)) fun v H' S ⟨a, vs, e, h, e2⟩ => ⟨a, e, by rw [h, e2]⟩)
            (fun v H H' S ⟨z, e, h⟩ => ⟨z, e, S.tup h⟩) eva_nil)) fun vs H' S ⟨r, e1, v2, r2, e2, ⟨z, e3, h3⟩, e4⟩ => ⟨z, by rw [e1, e2, e3, e4], h3⟩)
          (fun vs H' ⟨z, e, _⟩ => by rw [e]; show 2 ≤ sizeLine; decide) (fun vs H H' S ⟨z, e, h⟩ => ⟨z, e, S.tup h⟩)) fun v H' S ⟨a, vs, e, h, z, e2, h2⟩ => ⟨a, z, e, by rw [h, e2], h2⟩) fun y H7 S7 hy hd7 => ?_
        refine ⟨by omega, _, _, ys ++ [y], rfl, (S.trans (M3.trans S7)).mut nl, upd_same, ?_⟩
        rw [kept_succ, if_pos e]
        exact Paired.snoc (Paired.mapR (fun _ _ h => h.tq (K := K) ((M3.trans S7).tq.trans (tq_lst hd7))) hp) (hy.tq (K := K) (tq_lst hd7))
      · have M3 := S2.trans S3
        refine ⟨by omega, _, _, ys, rfl, S.trans M3, M3.lst hl', ?_⟩
        rw [kept_succ, if_neg (by rw [e]; exact Bool.false_ne_true), List.append_nil]
        exact Paired.mapR (fun _ _ h => h.tq (K := K) M3.tq) hp
    · obtain ⟨_, y4, y5, ys, rfl, S, hl', hp⟩ := hP
      rw [Int.toNat_natCast] at hp
      dsimp only
      refine q_ret (ev_var rfl) fun H2 S2 => q l H2 (S.trans S2) nl ⟨ys, S2.lst hl', Rows'.tq (K := K) S2.tq hp⟩
/-! ### _law_quiet -/
def spQuiet (K : PySem.W.Frag) (C : Addr) : Sp := fun vs H Q _ => ∃ (p lw ll lp : Addr) (B : Book) (z : Int), vs = [.ref p, .int z] ∧ BookAt K C H p lw ll lp B ∧ B.Len ∧ B.n ≤ 1000 ∧ 0 ≤ z ∧ z ≤ 1000000000 ∧
  (∀ k ∈ B.nums, ((wAt B.ws k).buy = true → (wAt B.ws k).lim ≤ z) ∧ ((wAt B.ws k).buy = false → z ≤ (wAt B.ws k).lim)) ∧ ((∀ k ∈ B.nums, (wAt B.ws k).buy = true → (wAt B.ws k).lim < z) ∨ ∀ k ∈ B.nums, (wAt B.ws k).buy = false → z < (wAt B.ws k).lim) ∧ ∀ H', Sm H H' → Q (.bl true) H'
theorem ok__law_quiet (T : Txt K mg) : FnOk P w K mg base CX0 2 T.f__law_quiet T.d__law_quiet ["_law_book", "_law_price"] (spQuiet K T.a_Book) := by
  have G_standing : FnOk P w K mg base CX0 1 T.f_standing T.d_standing ["self"] (spStanding K T.a_Book) := ok_standing T
  refine T.D__law_quiet.F.ok sc__law_quiet (fun vs H Q E h => ?_) (fun cdv A outer s H vs Q E hr h => ?_)
  · obtain ⟨p, lw, ll, lp, B, z, rfl, _⟩ := h
    rfl
  · obtain ⟨p, lw, ll, lp, B, z, rfl, hB, hL, hn, z0, z1, q1, q2, q⟩ := h
    refine ⟨_, (pss_cons (ps_set (i := 2) sc__law_quiet.nd rfl (.inl rfl) (pe_methS0 (pv 0) T.cl_Book T.D_standing.m G_standing (hr.mono (by decide)) T.D_standing.b (passN0 (fun _ => E0))))
  (pss_cons (ps_setLc (i := 3) (own := [("_law_row", 7)]) (g := (gName 7)) rfl sc__law_quiet.nd rfl rfl (sw_true rfl rfl rfl (by decide +kernel)) (pi_list (pv 2)) (blkOk_by (own := [("_law_row", 7)]) (N := names__law_quiet) (sc := defScope s__law_quiet) (by decide +kernel)) (fun _ _ _ _ _ => (pg_name (i := 7) sc__law_quiet.nd rfl (Or.inl rfl))) (fun _ _ _ _ _ => (pts_one (pt_cmpR op_eq (pe_ix (r := rIxT K) ix_tup (pe_ix (r := rIxT K) ix_tup (pv 7) pe_int (fun _ _ => rfl)) pe_int (fun _ _ => rfl)) pe_str (nomark _)))) (fun _ _ _ _ _ => (pe_ix (r := rIxT K) ix_tup (pe_ix (r := rIxT K) ix_tup (pv 7) pe_int (fun _ _ => rfl)) pe_int (fun _ _ => rfl))))
  (pss_cons (ps_setLc (i := 4) (own := [("_law_row", 7)]) (g := (gName 7)) rfl sc__law_quiet.nd rfl rfl (sw_true rfl rfl rfl (by decide +kernel)) (pi_list (pv 2)) (blkOk_by (own := [("_law_row", 7)]) (N := names__law_quiet) (sc := defScope s__law_quiet) (by decide +kernel)) (fun _ _ _ _ _ => (pg_name (i := 7) sc__law_quiet.nd rfl (Or.inl rfl))) (fun _ _ _ _ _ => (pts_one (pt_cmpR op_eq (pe_ix (r := rIxT K) ix_tup (pe_ix (r := rIxT K) ix_tup (pv 7) pe_int (fun _ _ => rfl)) pe_int (fun _ _ => rfl)) pe_str (nomark _)))) (fun _ _ _ _ _ => (pe_ix (r := rIxT K) ix_tup (pe_ix (r := rIxT K) ix_tup (pv 7) pe_int (fun _ _ => rfl)) pe_int (fun _ _ => rfl))))
  (pss_cons (ps_set (i := 5) sc__law_quiet.nd rfl (.inl rfl) (pe_callB (cr_max rfl) (by rfl) T.n_max (by decide +kernel) (pa_cons (pe_op op_cat (pv 3) (pe_lst (pa_cons (pe_un un_neg pe_int) pa_nil))) pa_nil)))
  (pss_cons (ps_set (i := 6) sc__law_quiet.nd rfl (.inl rfl) (pe_callB (cr_min rfl) (by rfl) T.n_min (by decide +kernel) (pa_cons (pe_op op_cat (pv 4) (pe_lst (pa_cons pe_int pa_nil))) pa_nil)))
  (pss_one (ps_ret (pe_and (pe_chain op_le op_le (pv 5) (pv 1) (pv 6)) (pe_one (pe_cmpR op_lt (pv 5) (pv 6) (nomark _))))))))))), ?_⟩
    try dsimp only [cxOf, Cx.nox, Cx.wish]
    refine qs_setP (evp_standing (ev_var rfl) hB hL hn) fun v H1 S1 hv => ?_
    obtain ⟨rl, ys, rfl, _, hrl, hrows⟩ := hv
    have hnl := nums_le (B := B)
    have hyl := hrows.len
    have side : ∀ {c : Bool} {st : Str} {H0 : Hp} {y3 y4 : Option V}, Sm H1 H0 → (∀ w : Wish, decide (w.side = st) = decide (w.buy = c)) → EvP (tLc (iList K (tVar 2)) (gName 7) (fun σ H Q => tTest (tOp rEq (tOp (rIxT K) (tOp (rIxT K) (tVar 7) (tC (.int 1))) (tC (.int 0))) (tC (.str st))) σ H Q) (tOp (rIxT K) (tOp (rIxT K) (tVar 7) (tC (.int 1))) (tC (.int 1))) [7]) [some (.ref p), some (.int z), some (.ref rl), y3, y4, none, none, none] H0 fun u H' =>
        ∃ D, u = .ref D ∧ H' D = some (.lst ((((kept (fun i => decide ((wAt B.stands i).buy = c)) B.nums.length).map fun i => (wAt B.stands i).lim)).map V.int)) := by
      intro c st H0 y3 y4 M0 hst
      refine EvP.to (evp_lcL (K := K) (δ := Unit) (R := fun _ xs H' => ys = xs ∧ Rows' H' B ys) (pz := fun _ i => decide ((wAt B.stands i).buy = c)) (P := fun _ i y _ => y = .int (wAt B.stands i).lim)
        ((ev_var rfl).pp fun H' S => ⟨rl, ys, (), rfl, .inl (.inl ((M0.trans S).lst hrl)), rfl, hrows.tq (K := K) (M0.trans S).tq⟩)
        (fun d xs H H' S ⟨e, h⟩ => ⟨e, h.tq (K := K) S.tq⟩) (fun _ _ _ _ _ _ e => e) (fun d xs H' ⟨e, h⟩ => by rw [← e, hyl]; omega)
        (fun d xs i x H2 ⟨e, h⟩ hi S => ?_)) fun v H' S ⟨D, zs, xs, _, e, _, hD, ⟨ex, _⟩, hpz⟩ => ⟨D, e, ?_⟩
      · subst e
        obtain ⟨hin, t, zz, rfl, ht, hz, _⟩ := RL.at h hi
        refine ⟨_, evg_name, rfl, EvT.to (evt_test (ev_eqS (i := (wAt B.stands i).side) (ev_part2 (ev_var rfl) ht hz rfl) ev_c)) (hst _), fun _ => (ev_part2 (v := .int (wAt B.stands i).lim) (ev_var rfl) ht hz rfl).p⟩
      · rw [hD, paired_map hpz, ← ex, hyl, List.map_map]
        rfl
    refine qs_setP (side (c := true) (st := (PySem.Str.ofString "buy")) (Sm.refl _) fun w => by rw [show w.side = sideS w.buy from rfl, side_buy]; cases w.buy <;> rfl) fun v H2 S2 hv => ?_
    obtain ⟨bl, rfl, hbl⟩ := hv
    refine qs_setP (side (c := false) (st := (PySem.Str.ofString "sell")) S2 fun w => by rw [show w.side = sideS w.buy from rfl, side_sell]; cases w.buy <;> rfl) fun v H3 S3 hv => ?_
    obtain ⟨sl, rfl, hsl⟩ := hv
    have klen : ∀ (c : Bool), ((kept (fun i => decide ((wAt B.stands i).buy = c)) B.nums.length).map fun i => (wAt B.stands i).lim).length ≤ 1000 := fun c => by
      rw [List.length_map]
      exact Nat.le_trans kept_len (by omega)
    have kmem : ∀ (c : Bool) (x : Int), x ∈ ((kept (fun i => decide ((wAt B.stands i).buy = c)) B.nums.length).map fun i => (wAt B.stands i).lim) → ∃ k ∈ B.nums, (wAt B.ws k).buy = c ∧ (wAt B.ws k).lim = x := fun c x hx => by
      obtain ⟨i, hi, rfl⟩ := List.mem_map.mp hx
      obtain ⟨h1, h2⟩ := kept_lt hi
      have h2 := of_decide_eq_true h2
      rw [stands_at h1] at h2 ⊢
      exact ⟨_, num_mem h1, h2, rfl⟩
    have lb := klen true
    have ls := klen false
    refine qs_setP (evp_max (K := K) (evp_catI (ev_var rfl) (S3.lst hbl) (ev_un ev_c) (by omega)) (by rw [List.length_append]; exact Nat.succ_pos _)) fun v H4 S4 hv => ?_
    obtain ⟨most, rfl, hm1, _⟩ := hv
    refine qs_setP (evp_min (K := K) (evp_catI (ev_var rfl) (S4.lst hsl) ev_c (by omega)) (by rw [List.length_append]; exact Nat.succ_pos _)) fun v H5 S5 hv => ?_
    obtain ⟨least, rfl, hl1, _⟩ := hv
    have a1 : most ≤ z ∧ ((∀ k ∈ B.nums, (wAt B.ws k).buy = true → (wAt B.ws k).lim < z) → most < z) := by
      rcases List.mem_append.mp hm1 with h | h
      · obtain ⟨k, hk, hb, e⟩ := kmem true most h
        have := (q1 k hk).1 hb
        exact ⟨by omega, fun hq => by have := hq k hk hb; omega⟩
      · have := List.mem_singleton.mp h
        exact ⟨by omega, fun _ => by omega⟩
    have a2 : z ≤ least ∧ ((∀ k ∈ B.nums, (wAt B.ws k).buy = false → z < (wAt B.ws k).lim) → z < least) := by
      rcases List.mem_append.mp hl1 with h | h
      · obtain ⟨k, hk, hb, e⟩ := kmem false least h
        have := (q1 k hk).2 hb
        exact ⟨by omega, fun hq => by have := hq k hk hb; omega⟩
      · have := List.mem_singleton.mp h
        exact ⟨by omega, fun _ => by omega⟩
    have a3 : most < least := by
      rcases q2 with h | h
      · have := a1.2 h
        omega
      · have := a2.2 h
        omega
    refine q_ret (v := .bl true) ((ev_and (ev_chain (ev_var rfl) (ev_var rfl) (ev_var rfl)) fun _ => ev_opI0 (ev_var rfl) (ev_var rfl)).to ?_) fun H6 S6 => q H6 (S1.trans (S2.trans (S3.trans (S4.trans (S5.trans S6)))))
    rw [decide_eq_true a1.1, decide_eq_true a2.1, decide_eq_true a3]
    rfl
/-! ### _law_got -/
def spGot (K : PySem.W.Frag) : Sp := fun vs H Q _ => ∃ (l : Addr) (ys : List V) (B : Book) (p : Int) (ds : List Deal) (b : Bool), vs = [.ref l, .int (if b then 0 else 1)] ∧ H l = some (.lst ys) ∧ Paired (DealAt H) (B.told ds) ys ∧ Rung B p ds ∧ ds.length ≤ 3000 ∧
  ∀ l' zs H', Sm H H' → H' l' = some (.lst zs) → Paired (PairsAt H') (tgt B p b) zs → Q (.ref l') H'
theorem evp_got {σ : L2.St} {H : Hp} {ta tb : TE} {E : XK} {l : Addr} {ys : List V} {B : Book} {p : Int} {ds : List Deal} (b : Bool) (ha : Ev ta σ H (.ref l)) (hb : Ev tb σ H (.int (if b then 0 else 1))) (hl : H l = some (.lst ys)) (hd : Paired (DealAt H) (B.told ds) ys) (r : Rung B p ds) (hn : ds.length ≤ 3000) :
    EvP (tCall (spGot K) [] E (tCons ta (tCons tb tNil))) σ H fun v H' => ∃ l zs, v = .ref l ∧ H' l = some (.lst zs) ∧ Paired (PairsAt H') (tgt B p b) zs :=
  evp_call (evl_cons ha (evl_cons hb evl_nil)) fun H1 S Q q => ⟨l, ys, B, p, ds, b, rfl, S.lst hl, DealAt.sm S hd, r, hn, fun l' zs H' S' h1 h2 => q _ H' S' ⟨l', zs, rfl, h1, h2⟩⟩
theorem ok__law_got (T : Txt K mg) : FnOk P w K mg base CX0 1 T.f__law_got T.d__law_got ["_law_deals", "_law_at"] (spGot K) := by
  refine T.D__law_got.F.ok sc__law_got (fun vs H Q E h => ?_) (fun cdv A outer s H vs Q E hr h => ?_)
  · obtain ⟨l, ys, B, p, ds, b, rfl, _⟩ := h
    rfl
  · obtain ⟨l, ys, B, p, ds, b, rfl, hl, hd, r, hn, q⟩ := h
    refine ⟨_, (pss_cons (ps_set (i := 2) sc__law_got.nd rfl (.inl rfl) pe_dnewK)
  (pss_cons (ps_for PassesOwn.never rfl (pi_list (pv 0)) (pg_name (i := 3) sc__law_got.nd rfl (.inl rfl))
    (pss_one (ps_dput (hu_of hr) (pv 2) (pe_ix (r := rIxT K) ix_tup (pv 3) (pv 1) (fun _ _ => rfl)) (pe_op op_add (pe_dget2 (hu_of hr) (pv 2) (pe_ix (r := rIxT K) ix_tup (pv 3) (pv 1) (fun _ _ => rfl)) pe_int ⟨rfl, rfl, rfl, rfl⟩) (pe_ix (r := rIxT K) ix_tup (pv 3) pe_int (fun _ _ => rfl))) rfl)))
  (pss_one (ps_ret (pe_callB cr_sortedPO (by rfl) T.n_sorted (by decide +kernel) (pa_cons (LiI.pe_listItems rfl (pv 2) (by rfl) T.n_list (by decide +kernel)) pa_nil)))))), ?_⟩
    try dsimp only [cxOf, Cx.nox, Cx.wish]
    have hyl : ys.length = ds.length := by rw [← Paired.length hd]; unfold Book.told; rw [List.length_map]
    refine qs_setP evp_dnewN fun v H1 S1 hv => ?_
    obtain ⟨d, rfl, nd, hd1⟩ := hv
    show tSeq (tFor _ _ _) _ _ _ _
    refine q_seq (q_forL (D := { nx := _, rt := _ }) (a := l) (xs := ys) (fun i σ' H' => ∃ y3 ks, σ' = [some (.ref l), some (.int (if b then 0 else 1)), some (.ref d), y3] ∧ Sm H H' ∧ H' d = some (.dK (dkv ks fun k => .int (gotAt b ((B.told ds).take i) k))) ∧ ks.Nodup ∧ (∀ k, k ∈ ks ↔ ∃ e ∈ (B.told ds).take i, pick b e = k) ∧ ks.length ≤ i)
      (ev_var rfl) (.inl (.inl (S1.lst hl))) (fun H2 S2 => ⟨none, [], rfl, S1.trans S2, S2.at hd1 (fun _ z => by cases z), List.nodup_nil, fun k => ⟨fun h => (nomatch h), fun ⟨e, h, _⟩ => (nomatch h)⟩, Nat.le_refl 0⟩) (fun i σ' H' _ hP => ?_) (fun i x σ' H' hx hP => ?_) (fun σ' H' hP => ?_))
    · obtain ⟨_, _, _, S, _⟩ := hP
      exact .inl (.inl (S.lst hl))
    · obtain ⟨y3, ks, rfl, S, hdk, nk, hk, hkl⟩ := hP
      have hi := (List.getElem?_eq_some_iff.mp hx).1
      obtain ⟨e, he, t, rfl, ht⟩ := paired_get hd hx
      have ht' := S.tup ht
      have ix : ∀ {H2 σ'}, Sm H' H2 → σ'[3]? = some (some (V.ref t)) → σ'[1]? = some (some (V.int (if b then 0 else 1))) → Ev (tOp (rIxT K) (tVar 3) (tVar 1)) σ' H2 (.int ((pick b e : Nat) : Int)) := fun M h3 h1 => ev_ixT (ev_var h3) (ev_var h1) (.inl (.inl (M.tup ht'))) (by cases b <;> rfl)
      have g0 : (if pick b e ∈ ks then V.int (gotAt b ((B.told ds).take i) (pick b e)) else V.int 0) = V.int (gotAt b ((B.told ds).take i) (pick b e)) := by
        by_cases hm : pick b e ∈ ks
        · rw [if_pos hm]
        · rw [if_neg hm, gotAt_off fun d' hd' e' => hm ((hk _).mpr ⟨d', hd', e'⟩)]
      refine q_dput (k := pick b e) (v := .int (gotAt b ((B.told ds).take i) (pick b e) + e.2.2)) (ev_opI0 ((ev_dget2 (k := pick b e) (v := .int 0) (ev_var rfl) (ix (Sm.refl _) rfl rfl) ev_c hdk).to g0) (ev_ixT (v := .int e.2.2) (ev_var rfl) ev_c (.inl (.inl ht')) rfl)) (ev_var rfl) (ix (Sm.refl _) rfl rfl) hdk (Nat.lt_of_lt_of_le (show ks.length < 3001 by omega) (by decide)) fun H2 S2 h2 => ?_
      have ef : (fun j => if j = pick b e then V.int (gotAt b ((B.told ds).take i) (pick b e) + e.2.2) else V.int (gotAt b ((B.told ds).take i) j)) = fun k => V.int (gotAt b ((B.told ds).take (i + 1)) k) := by
        funext j
        rw [take_snoc he, gotAt_snoc]
        by_cases z : j = pick b e
        · subst z
          rw [if_pos rfl, if_pos rfl]
        · rw [if_neg z, if_neg (Ne.symm z), Int.add_zero]
      refine ⟨_, (if pick b e ∈ ks then ks else ks ++ [pick b e]), rfl, (S.trans S2).mut nd, by rw [upd_same, ef], ?_, fun k => ?_, ?_⟩
      · split
        · exact nk
        · rename_i hm
          rw [List.nodup_append]
          exact ⟨nk, by simp, fun x hx y hy z => hm (by rw [← List.mem_singleton.mp hy, ← z]; exact hx)⟩
      · rw [take_snoc he]
        by_cases hm : pick b e ∈ ks
        · rw [if_pos hm, hk]
          refine ⟨fun ⟨d', h1, h2⟩ => ⟨d', List.mem_append_left _ h1, h2⟩, fun ⟨d', h1, h2⟩ => ?_⟩
          rcases List.mem_append.mp h1 with h1 | h1
          · exact ⟨d', h1, h2⟩
          · rw [List.mem_singleton.mp h1] at h2
            rw [← h2]
            exact (hk _).mp hm
        · rw [if_neg hm]
          refine ⟨fun h => ?_, fun ⟨d', h1, h2⟩ => ?_⟩
          · rcases List.mem_append.mp h with h | h
            · obtain ⟨d', h1, h2⟩ := (hk _).mp h
              exact ⟨d', List.mem_append_left _ h1, h2⟩
            · exact ⟨e, List.mem_append_right _ List.mem_cons_self, (List.mem_singleton.mp h).symm⟩
          · rcases List.mem_append.mp h1 with h1 | h1
            · exact List.mem_append_left _ ((hk _).mpr ⟨d', h1, h2⟩)
            · rw [List.mem_singleton.mp h1] at h2
              exact List.mem_append_right _ (List.mem_singleton.mpr h2.symm)
      · split
        · omega
        · rw [List.length_append]
          show ks.length + 1 ≤ i + 1
          omega
    · obtain ⟨y3, ks, rfl, S, hdk, nk, hk, hkl⟩ := hP
      have ex : (B.told ds).take ys.length = B.told ds := List.take_of_length_le (by rw [Paired.length hd]; exact Nat.le_refl _)
      rw [ex] at hdk hk
      dsimp only
      have ndq : (ks.map fun (k : Nat) => ((k : Int), gotAt b (B.told ds) k)).Nodup := by
        rw [List.nodup_iff_pairwise_ne, List.pairwise_map]
        exact nk.imp fun h e => h (by have := (Prod.mk.inj e).1; omega)
      refine q_retP (evp_sortedP (K := K) (evp_items (ev_var rfl) hdk) ndq) fun v H2 S2 hv => ?_
      obtain ⟨a, xs, rs, rfl, ha, hp, hs, hx⟩ := hv
      rw [r.tgt_of hk hp hs] at hx
      exact q a xs H2 (S.trans S2) ha hx
/-! ### _law_served -/
def spServed (K : PySem.W.Frag) : Sp := fun vs H Q _ => ∃ (rl : Addr) (B : Book) (b : Bool) (p m : Int), vs = [.ref rl, .str (sideS b), .int p, .int m] ∧ RL H rl B ∧ B.Ok ∧ B.n ≤ 1000 ∧ m = deal B.stands p ∧
  ∀ l' zs H', Sm H H' → H' l' = some (.lst zs) → Paired (PairsAt H') (tgt B p b) zs → Q (.ref l') H'
theorem evp_served {σ : L2.St} {H : Hp} {ta tb tc td : TE} {E : XK} {rl : Addr} {B : Book} {p m : Int} {z : Str} (b : Bool) (ha : Ev ta σ H (.ref rl)) (hb : Ev tb σ H (.str z)) (hz : z = sideS b) (hc : Ev tc σ H (.int p)) (hd : Ev td σ H (.int m)) (hr : RL H rl B) (ok : B.Ok) (hn : B.n ≤ 1000) (hm : m = deal B.stands p) :
    EvP (tCall (spServed K) [] E (tCons ta (tCons tb (tCons tc (tCons td tNil))))) σ H fun v H' => ∃ l zs, v = .ref l ∧ H' l = some (.lst zs) ∧ Paired (PairsAt H') (tgt B p b) zs :=
  evp_call (evl_cons ha (evl_cons hb (evl_cons hc (evl_cons hd evl_nil)))) fun H1 S Q q => ⟨rl, B, b, p, m, by rw [hz], hr.sm S, ok, hn, hm, fun l' zs H' S' h1 h2 => q _ H' S' ⟨l', zs, rfl, h1, h2⟩⟩
set_option maxHeartbeats 1000000 in
theorem ok__law_served (T : Txt K mg) : FnOk P w K mg base CX0 1 T.f__law_served T.d__law_served ["_law_rows", "_law_side", "_law_price", "_law_many"] (spServed K) := by
  refine T.D__law_served.F.ok sc__law_served (fun vs H Q E h => ?_) (fun cdv A outer s H vs Q E hr h => ?_)
  · obtain ⟨rl, B, b, p, m, rfl, _⟩ := h
    rfl
  · obtain ⟨rl, B, b, p, m, rfl, ⟨ys, hrl, hrows⟩, ok, hn, hm, q⟩ := h
    refine ⟨_, (pss_cons (ps_set (i := 4) sc__law_served.nd rfl (.inl rfl) (pe_lst pa_nil))
  (pss_cons (ps_for PassesOwn.never rfl (pi_list (pv 0)) (pg_name (i := 5) sc__law_served.nd rfl (.inl rfl))
    (pss_cons (ps_set (i := 6) sc__law_served.nd rfl (.inl rfl) (pe_ix (r := rIxT K) ix_tup (pv 5) pe_int (fun _ _ => rfl)))
  (pss_cons (ps_if (PW.pt (pw_and (pt_cmpR op_eq (pv 1) pe_str (nomark _)) (pw_and (pt_cmpR op_eq (pe_ix (r := rIxT K) ix_tup (pv 6) pe_int (fun _ _ => rfl)) pe_str (nomark _)) (pw_and1 (pt_cmpR op_ge (pe_ix (r := rIxT K) ix_tup (pv 6) pe_int (fun _ _ => rfl)) (pv 2) (nomark _))))))
    (pss_one (ps_expr (pe_bm PySem.F.plainAttrs_list PySem.F.slot_list_append PySem.F.type_list_append mt_append (pv 4) (pa_cons (pe_tup (pa_cons (pe_un un_neg (pe_ix (r := rIxT K) ix_tup (pv 6) pe_int (fun _ _ => rfl))) (pa_cons (pe_ix (r := rIxT K) ix_tup (pv 5) pe_int (fun _ _ => rfl)) (pa_cons (pe_ix (r := rIxT K) ix_tup (pv 6) pe_int (fun _ _ => rfl)) pa_nil)))) pa_nil))))
    pss_nil)
  (pss_one (ps_if (PW.pt (pw_and (pt_cmpR op_eq (pv 1) pe_str (nomark _)) (pw_and (pt_cmpR op_eq (pe_ix (r := rIxT K) ix_tup (pv 6) pe_int (fun _ _ => rfl)) pe_str (nomark _)) (pw_and1 (pt_cmpR op_le (pe_ix (r := rIxT K) ix_tup (pv 6) pe_int (fun _ _ => rfl)) (pv 2) (nomark _))))))
    (pss_one (ps_expr (pe_bm PySem.F.plainAttrs_list PySem.F.slot_list_append PySem.F.type_list_append mt_append (pv 4) (pa_cons (pe_tup (pa_cons (pe_ix (r := rIxT K) ix_tup (pv 6) pe_int (fun _ _ => rfl)) (pa_cons (pe_ix (r := rIxT K) ix_tup (pv 5) pe_int (fun _ _ => rfl)) (pa_cons (pe_ix (r := rIxT K) ix_tup (pv 6) pe_int (fun _ _ => rfl)) pa_nil)))) pa_nil))))
    pss_nil)))))
  (pss_cons (ps_set (i := 7) sc__law_served.nd rfl (.inl rfl) (pe_lst pa_nil))
  (pss_cons (ps_for PassesOwn.never rfl (pi_list (pe_callB cr_sorted3 (by rfl) T.n_sorted (by decide +kernel) (pa_cons (pv 4) pa_nil))) (pg_name (i := 8) sc__law_served.nd rfl (.inl rfl))
    (pss_cons (ps_set (i := 9) sc__law_served.nd rfl (.inl rfl) (pe_callB (call_min2 rfl) (by rfl) T.n_min (by decide +kernel) (pa_cons (pe_ix (r := rIxT K) ix_tup (pv 8) pe_int (fun _ _ => rfl)) (pa_cons (pv 3) pa_nil))))
  (pss_cons (ps_set (i := 3) sc__law_served.nd rfl (.inl rfl) (pe_op op_sub (pv 3) (pv 9)))
  (pss_one (ps_if (pt_cmpR op_gt (pv 9) pe_int (nomark _))
    (pss_one (ps_expr (pe_bm PySem.F.plainAttrs_list PySem.F.slot_list_append PySem.F.type_list_append mt_append (pv 7) (pa_cons (pe_tup (pa_cons (pe_ix (r := rIxT K) ix_tup (pv 8) pe_int (fun _ _ => rfl)) (pa_cons (pv 9) pa_nil))) pa_nil))))
    pss_nil)))))
  (pss_one (ps_ret (pe_callB cr_sortedPO (by rfl) T.n_sorted (by decide +kernel) (pa_cons (pv 7) pa_nil)))))))), ?_⟩
    try dsimp only [cxOf, Cx.nox, Cx.wish]
    have hyl := hrows.len
    have hnl := nums_le (B := B)
    have hg := stands_good ok
    refine qs_setP evp_lst0 fun v H1 S1 hv => ?_
    obtain ⟨la, rfl, nla, hla⟩ := hv
    show tSeq (tFor _ _ _) _ _ _ _
    refine q_seq (q_forL (D := { nx := _, rt := _ }) (a := rl) (xs := ys) (fun i σ' H' => i ≤ ys.length ∧ ∃ y5 y6 ls, σ' = [some (.ref rl), some (.str (sideS b)), some (.int p), some (.int m), some (.ref la), y5, y6, none, none, none] ∧ Sm H H' ∧ H' la = some (.lst ls) ∧ Paired (TriAt H') ((kept (inB B.stands b p) i).map fun i => (rankOf (wAt B.stands i), ((B.num i : Nat) : Int), amtAt B.stands i)) ls)
      (ev_var rfl) (.inl (.inl (S1.lst hrl))) (fun H2 S2 => ⟨Nat.zero_le _, none, none, [], rfl, S1.trans S2, S2.lst hla, .nil⟩) (fun i σ' H' _ hP => ?_) (fun i x σ' H' hx hP => ?_) (fun σ' H' hP => ?_))
    · obtain ⟨_, _, _, _, _, S, _⟩ := hP
      exact .inl (.inl (S.lst hrl))
    · obtain ⟨_, y5, y6, ls, rfl, S, hls, hpl⟩ := hP
      obtain ⟨hin, t, z, rfl, ht, hz, _⟩ := RL.at (hrows.tq (K := K) S.tq) hx
      have hi := (List.getElem?_eq_some_iff.mp hx).1
      refine qs_set (v := .ref z) (ev_ixT (ev_var rfl) ev_c (.inl (.inl ht)) rfl) fun H2 S2 => ?_
      show tSeq _ _ _ [some (.ref rl), some (.str (sideS b)), some (.int p), some (.int m), some (.ref la), some (.ref t), some (.ref z), none, none, none] H2
      have M2 := S.trans S2
      have hz2 : ∀ {H3}, Sm H2 H3 → SqT K H3 z (wAt B.stands i).row := fun M => .inl (.inl ((S2.trans M).tup hz))
      have ht2 : ∀ {H3}, Sm H2 H3 → SqT K H3 t [.int ((B.num i : Nat) : Int), .ref z] := fun M => .inl (.inl ((S2.trans M).tup ht))
      have hlz : ls.length < sizeLine := by
        have h1 := Paired.length hpl
        rw [List.length_map] at h1
        have h2 := kept_len (pz := inB B.stands b p) (n := i)
        exact Nat.lt_of_lt_of_le (show ls.length < 1001 by omega) (by decide)
      -- the line grows by one, or not
      have grow : ∀ {D' : Ends} {te : TE} {H3}, Sm H2 H3 → inB B.stands b p i = true → Ev te [some (.ref rl), some (.str (sideS b)), some (.int p), some (.int m), some (.ref la), some (.ref t), some (.ref z), none, none, none] H3 (.int (rankOf (wAt B.stands i))) →
          (∀ H4 ls', Sm H H4 → H4 la = some (.lst ls') → Paired (TriAt H4) ((kept (inB B.stands b p) (i + 1)).map fun i => (rankOf (wAt B.stands i), ((B.num i : Nat) : Int), amtAt B.stands i)) ls' → D'.nx [some (.ref rl), some (.str (sideS b)), some (.int p), some (.int m), some (.ref la), some (.ref t), some (.ref z), none, none, none] H4) →
          tDrop (tBM K "list" rAppend (tVar 4) (tCons (tTup (tCons te (tCons (tOp (rIxT K) (tVar 5) (tC (.int 0))) (tCons (tOp (rIxT K) (tVar 6) (tC (.int 2))) tNil)))) tNil)) D' [some (.ref rl), some (.str (sideS b)), some (.int p), some (.int m), some (.ref la), some (.ref t), some (.ref z), none, none, none] H3 := by
        intro D' te H3 M3 hin' hte k
        refine q_app (P := fun y H' => TriAt H' (rankOf (wAt B.stands i), ((B.num i : Nat) : Int), amtAt B.stands i) y) (ev_var rfl) ((S2.trans M3).lst hls) hlz ((evp_tup (P := fun vs _ => vs = [V.int (rankOf (wAt B.stands i)), V.int ((B.num i : Nat) : Int), V.int (amtAt B.stands i)]) K (evl_cons hte (evl_cons (ev_ixT (v := .int ((B.num i : Nat) : Int)) (ev_var rfl) ev_c (ht2 M3) rfl) (evl_cons (ev_ixT (v := .int (amtAt B.stands i)) (ev_var rfl) ev_c (hz2 M3) rfl) evl_nil))) (fun vs H' e => by rw [e]; show 3 ≤ sizeLine; decide) (fun _ _ _ _ e => e)).to fun v H' S ⟨t, vs, e, h, e3⟩ => ⟨t, e, by rw [h, e3]⟩) fun y H4 S4 hy h4 => ?_
        have t4 : Tq K H4 (upd H4 la (.lst (ls ++ [y]))) := tq_lst h4
        refine k _ (ls ++ [y]) ((M2.trans (M3.trans S4)).mut nla) upd_same ?_
        rw [kept_succ, if_pos hin', List.map_append]
        obtain ⟨ty, ey, hty⟩ := hy
        exact Paired.snoc (TriAt.tq ((S2.trans (M3.trans S4)).tq.trans t4) hpl) ⟨ty, ey, t4.tup _ _ hty⟩
      have stay : ∀ {H3}, Sm H2 H3 → inB B.stands b p i = false → Paired (TriAt H3) ((kept (inB B.stands b p) (i + 1)).map fun i => (rankOf (wAt B.stands i), ((B.num i : Nat) : Int), amtAt B.stands i)) ls := fun M3 hno => by
        rw [kept_succ, if_neg (by rw [hno]; exact Bool.false_ne_true), List.append_nil]
        exact TriAt.tq (K := K) (S2.trans M3).tq hpl
      have fin : ∀ {H4 ls'}, Sm H H4 → H4 la = some (.lst ls') → Paired (TriAt H4) ((kept (inB B.stands b p) (i + 1)).map fun i => (rankOf (wAt B.stands i), ((B.num i : Nat) : Int), amtAt B.stands i)) ls' →
          (i + 1 ≤ ys.length ∧ ∃ y5 y6 ls, [some (V.ref rl), some (.str (sideS b)), some (.int p), some (.int m), some (.ref la), some (.ref t), some (.ref z), none, none, none] = [some (.ref rl), some (.str (sideS b)), some (.int p), some (.int m), some (.ref la), y5, y6, none, none, none] ∧ Sm H H4 ∧ H4 la = some (.lst ls) ∧ Paired (TriAt H4) ((kept (inB B.stands b p) (i + 1)).map fun i => (rankOf (wAt B.stands i), ((B.num i : Nat) : Int), amtAt B.stands i)) ls) := fun M h1 h2 => ⟨by omega, _, _, _, rfl, M, h1, h2⟩
      have ws : (wAt B.stands i).side = sideS (wAt B.stands i).buy := rfl
      cases b with
      | true =>
        refine qs_if (b := inB B.stands true p i) (EvT.to (evt_and (b := true) (EvT.to (evt_test (ev_eqS (ev_var rfl) ev_c)) (by decide +kernel)) fun _ => evt_and (evt_test (ev_eqS (i := (wAt B.stands i).side) (ev_ixT (ev_var rfl) ev_c (hz2 (Sm.refl _)) rfl) ev_c)) fun _ => evt_test (ev_opI0 (ev_ixT (v := .int (wAt B.stands i).lim) (ev_var rfl) ev_c (hz2 (Sm.refl _)) rfl) (ev_var rfl))) ?_) (fun e H3 S3 => ?_) (fun e H3 S3 => ?_)
        · rw [Bool.true_and]
          exact in_buy B.stands p i
        · refine grow S3 e (Ev.to (ev_un (ev_ixT (v := .int (wAt B.stands i).lim) (ev_var rfl) ev_c (hz2 S3) rfl)) (by rw [rank_buy e]; rfl)) fun H4 ls' M4 h1 h2 => ?_
          refine q_if (b := false) (EvT.to (evt_and (b := false) (c := false) (EvT.to (evt_test (ev_eqS (ev_var rfl) ev_c)) (by decide +kernel)) fun e => by cases e) rfl) (fun e => by cases e) (fun _ H5 S5 => q_next ?_)
          exact fin (M4.trans S5) (S5.lst h1) (TriAt.tq (K := K) S5.tq h2)
        · refine q_if (b := false) (EvT.to (evt_and (b := false) (c := false) (EvT.to (evt_test (ev_eqS (ev_var rfl) ev_c)) (by decide +kernel)) fun e => by cases e) rfl) (fun e => by cases e) (fun _ H5 S5 => q_next ?_)
          exact fin (M2.trans (S3.trans S5)) ((S2.trans (S3.trans S5)).lst hls) (stay (S3.trans S5) e)
      | false =>
        refine qs_if (b := false) (EvT.to (evt_and (b := false) (c := false) (EvT.to (evt_test (ev_eqS (ev_var rfl) ev_c)) (by decide +kernel)) fun e => by cases e) rfl) (fun e => by cases e) (fun _ H3 S3 => ?_)
        refine q_if (b := inB B.stands false p i) (EvT.to (evt_and (b := true) (EvT.to (evt_test (ev_eqS (ev_var rfl) ev_c)) (by decide +kernel)) fun _ => evt_and (evt_test (ev_eqS (i := (wAt B.stands i).side) (ev_ixT (ev_var rfl) ev_c (hz2 S3) rfl) ev_c)) fun _ => evt_test (ev_opI0 (ev_ixT (v := .int (wAt B.stands i).lim) (ev_var rfl) ev_c (hz2 S3) rfl) (ev_var rfl))) ?_) (fun e H4 S4 => ?_) (fun e H4 S4 => q_next ?_)
        · rw [Bool.true_and]
          exact in_sell B.stands p i
        · exact grow (S3.trans S4) e (Ev.to (ev_ixT (v := .int (wAt B.stands i).lim) (ev_var rfl) ev_c (hz2 (S3.trans S4)) rfl) (by rw [rank_sell e]; rfl)) fun H5 ls' M5 h1 h2 => fin M5 h1 h2
        · exact fin (M2.trans (S3.trans S4)) ((S2.trans (S3.trans S4)).lst hls) (stay (S3.trans S4) e)
    · obtain ⟨_, y5, y6, ls, rfl, S, hls, hpl⟩ := hP
      rw [hyl, ← stands_len] at hpl
      dsimp only
      refine qs_setP evp_lst0 fun v H2 S2 hv => ?_
      obtain ⟨fa, rfl, nfa, hfa⟩ := hv
      have M2 := S.trans S2
      have nfa0 : H fa = none := S.free nfa
      have dn := deal_nn (p := p) hg
      show tSeq (tFor _ _ _) _ _ [some (.ref rl), some (.str (sideS b)), some (.int p), some (.int m), some (.ref la), y5, y6, some (.ref fa), none, none] H2
      refine q_seq (q_forP (R := fun lb xs H' => ∃ ms, Turn B.stands b p ms ∧ Paired (TriAt H') (ms.map fun i => (rankOf (wAt B.stands i), ((B.num i : Nat) : Int), amtAt B.stands i)) xs ∧ H' lb = some (.lst xs) ∧ H2 lb = none)
        ((evp_sorted3 (K := K) ((ev_var rfl).pp fun H' M => ⟨la, ls, rfl, M.lst (S2.lst hls), TriAt.tq (K := K) (S2.trans M).tq hpl⟩)).to fun v H' M ⟨lb, xs, rs, e, nlb, hlb, h1, h2, h3⟩ => by
          obtain ⟨ms, tn, e2⟩ := srt3_turn h1 h2
          exact ⟨lb, xs, e, .inl (.inl hlb), ms, tn, by rw [← e2]; exact h3, hlb, nlb⟩) fun lb xs H3 S3 hlb ⟨ms, tn, hms, hlb3, nlb⟩ => ?_)
      have nlbf : lb ∉ [fa] := fun z => by
        rw [List.mem_singleton.mp z, hfa] at nlb
        cases nlb
      have hmx : xs.length = ms.length := by rw [← Paired.length hms, List.length_map]
      have hml : ms.length ≤ 1000 := by
        have := tn.len
        rw [stands_len] at this
        omega
      have base : ∀ {H'}, Fr K [fa] [fa] H3 H' → Sm H H' := fun F => ((M2.trans S3).e.trans F.e).sm fun x hx => by rw [List.mem_singleton.mp hx]; exact nfa0
      refine q_forG (D := { nx := _, rt := _ }) (a := lb) (xs := xs) (fun j σ' H' => ∃ y8 y9 fs, σ' = [some (.ref rl), some (.str (sideS b)), some (.int p), some (.int (max 0 (m - ((ms.take j).map (amtAt B.stands)).sum))), some (.ref la), y5, y6, some (.ref fa), y8, y9] ∧ Fr K [fa] [fa] H3 H' ∧ H' fa = some (.lst fs) ∧ Paired (PairsAt H') (((ms.take j).filter fun i => decide (0 < due B.stands p i)).map fun i => (((B.num i : Nat) : Int), due B.stands p i)) fs)
        ev_c hlb (fun H4 S4 => ⟨none, none, [], ?_, S4.fr, S4.lst (S3.lst hfa), .nil⟩) (fun j σ' H' _ hP => ?_) (fun j x σ' H' hx hP => ?_) (fun σ' H' hP => ?_)
      · have e : max 0 (m - ((ms.take 0).map (amtAt B.stands)).sum) = m := by
          rw [List.take_zero]
          show max 0 (m - 0) = m
          omega
        rw [e]
      · obtain ⟨_, _, _, _, F, _⟩ := hP
        exact .inl (.inl (F.e.lst nlbf hlb3))
      · obtain ⟨y8, y9, fs, rfl, F, hfs, hpf⟩ := hP
        obtain ⟨q3, hq3, t, rfl, ht⟩ := paired_get hms hx
        rw [List.getElem?_map] at hq3
        obtain ⟨k, hk, rfl⟩ := Option.map_eq_some_iff.mp hq3
        have kn := (tn.mem (List.mem_of_getElem? hk)).1
        have hdue := tn.due hk
        have hsum := take_sum (f := amtAt B.stands) hk
        have ha1 : 1 ≤ amtAt B.stands k := (wAt_good hg kn).a0
        refine ⟨_, evg_name, fun H4 S4 => ?_⟩
        have F4 := F.sm S4
        have tS : ∀ {H5}, Fr K [fa] [fa] H3 H5 → SqT K H5 t [.int (rankOf (wAt B.stands k)), .int ((B.num k : Nat) : Int), .int (amtAt B.stands k)] := fun G => .inl (.inl (G.t.tup _ _ ht))
        show tSeq _ _ _ [some (.ref rl), some (.str (sideS b)), some (.int p), some (.int (max 0 (m - ((ms.take j).map (amtAt B.stands)).sum))), some (.ref la), y5, y6, some (.ref fa), some (.ref t), y9] H4
        refine qs_set (v := .int (due B.stands p k)) ((ev_min2 (ev_ixT (v := .int (amtAt B.stands k)) (ev_var rfl) ev_c (tS F4) rfl) (ev_var rfl)).to ?_) fun H5 S5 => ?_
        · rw [hdue, ← hm]
          congr 1
          split <;> omega
        have F5 := F4.sm S5
        refine qs_set (v := .int (max 0 (m - ((ms.take (j + 1)).map (amtAt B.stands)).sum))) ((ev_opI0 (ev_var rfl) (ev_var rfl)).to ?_) fun H6 S6 => ?_
        · rw [hsum, hdue, ← hm]
          congr 1
          omega
        have F6 := F5.sm S6
        show tIfS _ _ _ _ [some (.ref rl), some (.str (sideS b)), some (.int p), some (.int (max 0 (m - ((ms.take (j + 1)).map (amtAt B.stands)).sum))), some (.ref la), y5, y6, some (.ref fa), some (.ref t), some (.int (due B.stands p k))] H6
        have et : (ms.take (j + 1)).filter (fun i => decide (0 < due B.stands p i)) = (ms.take j).filter (fun i => decide (0 < due B.stands p i)) ++ (if 0 < due B.stands p k then [k] else []) := by
          rw [take_snoc hk, List.filter_append, List.filter_cons]
          by_cases z : 0 < due B.stands p k
          · rw [if_pos (decide_eq_true z), if_pos z]; rfl
          · rw [if_neg (by rw [decide_eq_false z]; exact Bool.false_ne_true), if_neg z]; rfl
        refine q_if (b := decide (0 < due B.stands p k)) (evt_test (ev_opI0 (ev_var rfl) ev_c)) (fun e H7 S7 => ?_) (fun e H7 S7 => q_next ?_)
        · have F7 := F6.sm S7
          have hfz : fs.length < sizeLine := by
            have h1 := Paired.length hpf
            rw [List.length_map] at h1
            have h2 := List.length_filter_le (fun i => decide (0 < due B.stands p i)) (ms.take j)
            rw [List.length_take] at h2
            exact Nat.lt_of_lt_of_le (show fs.length < 1001 by omega) (by decide)
          refine q_app (P := fun y H' => PairsAt H' (((B.num k : Nat) : Int), due B.stands p k) y) (ev_var rfl) ((S4.trans (S5.trans (S6.trans S7))).lst hfs) hfz ((evp_tup (P := fun vs _ => vs = [V.int ((B.num k : Nat) : Int), V.int (due B.stands p k)]) K (evl_cons (ev_ixT (v := .int ((B.num k : Nat) : Int)) (ev_var rfl) ev_c (tS F7) rfl) (evl_cons (ev_var rfl) evl_nil)) (fun vs H' e => by rw [e]; show 2 ≤ sizeLine; decide) (fun _ _ _ _ e => e)).to fun v H' S ⟨t, vs, e, h, e3⟩ => ⟨t, e, by rw [h, e3]⟩) fun y H8 S8 hy h8 => ?_
          have t8 : Tq K H8 (upd H8 fa (.lst (fs ++ [y]))) := tq_lst h8
          refine ⟨_, _, fs ++ [y], rfl, (F7.sm S8).trans (Fr.put List.mem_cons_self h8), upd_same, ?_⟩
          rw [et, if_pos (of_decide_eq_true e), List.map_append]
          obtain ⟨ty, ey, hty⟩ := hy
          exact Paired.snoc (PairsAt.tq ((S4.trans (S5.trans (S6.trans (S7.trans S8)))).tq.trans t8) hpf) ⟨ty, ey, t8.tup _ _ hty⟩
        · have F7 := F6.sm S7
          refine ⟨_, _, fs, rfl, F7, (S4.trans (S5.trans (S6.trans S7))).lst hfs, ?_⟩
          rw [et, if_neg (of_decide_eq_false e), List.append_nil]
          exact PairsAt.tq (K := K) (S4.trans (S5.trans (S6.trans S7))).tq hpf
      · obtain ⟨y8, y9, fs, rfl, F, hfs, hpf⟩ := hP
        rw [hmx, List.take_length] at hpf
        dsimp only
        have ndm : ((ms.filter fun i => decide (0 < due B.stands p i)).map fun i => (((B.num i : Nat) : Int), due B.stands p i)).Nodup := by
          rw [List.nodup_iff_pairwise_ne, List.pairwise_map]
          refine (List.Pairwise.and_mem.mp (tn.nodup.filter _)).imp fun {i j} h e => ?_
          obtain ⟨hi, hj, hne⟩ := h
          have li := (tn.mem (List.mem_filter.mp hi).1).1
          have lj := (tn.mem (List.mem_filter.mp hj).1).1
          rw [stands_len] at li lj
          exact hne (num_inj li lj (by have := (Prod.mk.inj e).1; omega))
        refine q_retP (evp_sortedP (K := K) ((ev_var rfl).pp fun H' M => ⟨fa, fs, rfl, M.lst hfs, PairsAt.sm M hpf⟩) ndm) fun v H4 S4 hv => ?_
        obtain ⟨a, zs, rs, rfl, ha, hp, hs, hx⟩ := hv
        rw [tgt_turn tn (fun x => ?_) hs] at hx
        · exact q a zs H4 ((base F).trans S4) ha hx
        · rw [hp.mem_iff, List.mem_map]
          refine ⟨fun ⟨i, hi, e⟩ => ?_, fun ⟨i, hi, h1, e⟩ => ⟨i, List.mem_filter.mpr ⟨hi, decide_eq_true h1⟩, e.symm⟩⟩
          have := List.mem_filter.mp hi
          exact ⟨i, this.1, of_decide_eq_true this.2, e.symm⟩

/-! ### part c -/
theorem ev_prc {σ : L2.St} {H : Hp} {ta tb tc : TE} {E : XK} {a : Addr} {B : Book} {o p : Int} (ha : Ev ta σ H (.ref a)) (hb : Ev tb σ H (.int o)) (hc : Ev tc σ H (.int p)) (hS : RL H a B) (ok : B.Ok) (o0 : 0 ≤ o) (o1 : o ≤ 1000000000) (hn : Near B.stands o p) : Ev (tCall (spPrc K) [] E (tCons ta (tCons tb (tCons tc tNil)))) σ H (.bl true) :=
  ev_call (evl_cons ha (evl_cons hb (evl_cons hc evl_nil))) fun H1 S Q q => ⟨a, B, o, p, rfl, hS.sm S, ok, o0, o1, hn, q⟩
/-! ### _law_ring -/
def spLR14 (K : PySem.W.Frag) (C P1 P2 : Addr) : Sp := fun vs H Q _ => ∃ (S : S14) (B : Book) (dl dp : List Int), vs = [.ref S.p, .ref S.ca, .ref S.da, .ref S.dr] ∧ St14 K C H S B dl dp ∧ B.n ≤ 1000 ∧ TabG H P1 ∧ TabG H P2 ∧
  ∀ H' B' dl', Fr K S.fp S.fp H H' → St14 K C H' S B' dl' dp → B'.n = B.n → Q (.bl true) H'
set_option maxHeartbeats 2000000 in
theorem ok__law_ring (T : Txt K mg) (TB1 : TabB base mg T.k_wanted.1 T.k_wanted.2) (TB2 : TabB base mg T.k_offered.1 T.k_offered.2) : FnOk P w K mg base CX0 11 T.f__law_ring T.d__law_ring ["_law_book", "_law_came", "_law_dealt", "_law_dropped"] (spLR14 K T.a_Book T.k_wanted.2 T.k_offered.2) := by
  have G__law_whole : FnOk P w K mg base CX0 1 T.f__law_whole T.d__law_whole ["_law_thing"] (spWhole K) := ok__law_whole T
  have G_standing : FnOk P w K mg base CX0 1 T.f_standing T.d_standing ["self"] (spStanding K T.a_Book) := ok_standing T
  have G_ring : FnOk P w K mg base CX0 9 T.f_ring T.d_ring ["self"] (spRing K T.a_Book T.k_wanted.2 T.k_offered.2) := ok_ring T TB1 TB2
  have G__law_stood : FnOk P w K mg base CX0 1 T.f__law_stood T.d__law_stood ["_law_came", "_law_dealt", "_law_dropped"] (spStood K) := ok__law_stood T
  have G__law_priced : FnOk P w K mg base CX0 3 T.f__law_priced T.d__law_priced ["_law_rows", "_law_old", "_law_price"] (spPrc K) := ok__law_priced T
  have G__law_sum : FnOk P w K mg base CX0 1 T.f__law_sum T.d__law_sum ["_law_rows", "_law_side", "_law_price"] (spSum14 K) := ok__law_sum T
  have G__law_deal_good : FnOk P w K mg base CX0 2 T.f__law_deal_good T.d__law_deal_good ["_law_deal", "_law_stood_here", "_law_price"] (spDG K) := ok__law_deal_good T
  have G__law_rising : FnOk P w K mg base CX0 1 T.f__law_rising T.d__law_rising ["_law_deals"] (spRis K) := ok__law_rising T
  have G__law_quiet : FnOk P w K mg base CX0 2 T.f__law_quiet T.d__law_quiet ["_law_book", "_law_price"] (spQuiet K T.a_Book) := ok__law_quiet T
  have G__law_got : FnOk P w K mg base CX0 1 T.f__law_got T.d__law_got ["_law_deals", "_law_at"] (spGot K) := ok__law_got T
  have G__law_served : FnOk P w K mg base CX0 1 T.f__law_served T.d__law_served ["_law_rows", "_law_side", "_law_price", "_law_many"] (spServed K) := ok__law_served T
  refine T.D__law_ring.F.ok sc__law_ring (fun vs H Q E h => ?_) (fun cdv A outer s H vs Q E hr h => ?_)
  · obtain ⟨S, B, dl, dp, rfl, _⟩ := h
    rfl
  · obtain ⟨S, B, dl, dp, rfl, s, hn, hT1, hT2, fin⟩ := h
    refine ⟨_, (pss_cons (ps_set (i := 4) sc__law_ring.nd rfl (.inl rfl) (pe_call G__law_stood (hr.mono (by decide)) (by rfl) T.D__law_stood.g T.D__law_stood.F.kp T.D__law_stood.b .nil pass0 (pa_cons (pv 1) (pa_cons (pv 2) (pa_cons (pv 3) pa_nil)))))
  (pss_cons (ps_if (pt_cmpR (op_neD hr.units) (pe_methS0 (pv 0) T.cl_Book T.D_standing.m G_standing (hr.mono (by decide)) T.D_standing.b (passN0 (fun _ => E0))) (pv 4) (nomark _))
    (pss_one (ps_ret pe_bl))
    pss_nil)
  (pss_cons (ps_set (i := 5) sc__law_ring.nd rfl (.inl rfl) (pe_callTy (call_dictP rfl) (by rfl) T.n_dict (by decide +kernel) (pa_cons (pv 4) pa_nil)))
  (pss_cons (ps_set (i := 6) sc__law_ring.nd rfl (.inl rfl) (pe_fldK (K := K) rfl (pv 0) rfl))
  (pss_cons (ps_set (i := 7) sc__law_ring.nd rfl (.inl rfl) (pe_methS0 (pv 0) T.cl_Book T.D_ring.m G_ring (hr.mono (by decide)) T.D_ring.b (passN0 (fun _ => E0))))
  (pss_cons (ps_set (i := 8) sc__law_ring.nd rfl (.inl rfl) (pe_fldK (K := K) rfl (pv 0) rfl))
  (pss_cons (ps_if (PW.pt (pw_or (pt_not (pt_val (pe_callB call_isi (by rfl) T.n_isinstance (by decide +kernel) (pa_cons (pv 7) (pa_cons (pe_bltn (v := .ty "list") (by rfl) T.n_list (by decide +kernel) rfl) pa_nil))))) (pw_or1 (pt_not (pt_val (pe_call G__law_priced (hr.mono (by decide)) (by rfl) T.D__law_priced.g T.D__law_priced.F.kp T.D__law_priced.b .nil pass0 (pa_cons (pv 4) (pa_cons (pv 6) (pa_cons (pv 8) pa_nil)))))))))
    (pss_one (ps_ret pe_bl))
    pss_nil)
  (pss_cons (ps_set (i := 9) sc__law_ring.nd rfl (.inl rfl) (pe_callB (call_min2 rfl) (by rfl) T.n_min (by decide +kernel) (pa_cons (pe_call G__law_sum (hr.mono (by decide)) (by rfl) T.D__law_sum.g T.D__law_sum.F.kp T.D__law_sum.b .nil pass0 (pa_cons (pv 4) (pa_cons pe_str (pa_cons (pv 8) pa_nil)))) (pa_cons (pe_call G__law_sum (hr.mono (by decide)) (by rfl) T.D__law_sum.g T.D__law_sum.F.kp T.D__law_sum.b .nil pass0 (pa_cons (pv 4) (pa_cons pe_str (pa_cons (pv 8) pa_nil)))) pa_nil))))
  (pss_cons (ps_for PassesOwn.never rfl (pi_list (pv 7)) (pg_name (i := 10) sc__law_ring.nd rfl (.inl rfl))
    (pss_cons (ps_if (pt_not (pt_val (pe_call G__law_deal_good (hr.mono (by decide)) (by rfl) T.D__law_deal_good.g T.D__law_deal_good.F.kp T.D__law_deal_good.b .nil pass0 (pa_cons (pv 10) (pa_cons (pv 5) (pa_cons (pv 8) pa_nil))))))
    (pss_one (ps_ret pe_bl))
    pss_nil)
  (pss_one (ps_for PassesOwn.never rfl (pi_tup (pe_slice sl_tup (pv 10) po_none (po_some pe_int))) (pg_name (i := 11) sc__law_ring.nd rfl (.inl rfl))
    (pss_one (ps_asg (pe_op op_add (pe_ix (r := rIxL K) ix_list (pv 2) (pv 11) (fun _ _ => rfl)) (pe_ix (r := rIxT K) ix_tup (pv 10) pe_int (fun _ _ => rfl))) (pg_sub (pv 2) (pv 11) set_list)))))))
  (pss_cons (ps_if (PW.pt (pw_or (pt_not (pt_val (pe_call G__law_rising (hr.mono (by decide)) (by rfl) T.D__law_rising.g T.D__law_rising.F.kp T.D__law_rising.b .nil pass0 (pa_cons (pv 7) pa_nil)))) (pw_or1 (pt_not (pt_val (pe_call G__law_quiet (hr.mono (by decide)) (by rfl) T.D__law_quiet.g T.D__law_quiet.F.kp T.D__law_quiet.b .nil pass0 (pa_cons (pv 0) (pa_cons (pv 8) pa_nil))))))))
    (pss_one (ps_ret pe_bl))
    pss_nil)
  (pss_cons (ps_if (pt_cmpR (op_neD hr.units) (pe_call G__law_got (hr.mono (by decide)) (by rfl) T.D__law_got.g T.D__law_got.F.kp T.D__law_got.b .nil pass0 (pa_cons (pv 7) (pa_cons pe_int pa_nil))) (pe_call G__law_served (hr.mono (by decide)) (by rfl) T.D__law_served.g T.D__law_served.F.kp T.D__law_served.b .nil pass0 (pa_cons (pv 4) (pa_cons pe_str (pa_cons (pv 8) (pa_cons (pv 9) pa_nil))))) (nomark _))
    (pss_one (ps_ret pe_bl))
    pss_nil)
  (pss_cons (ps_if (pt_cmpR (op_neD hr.units) (pe_call G__law_got (hr.mono (by decide)) (by rfl) T.D__law_got.g T.D__law_got.F.kp T.D__law_got.b .nil pass0 (pa_cons (pv 7) (pa_cons pe_int pa_nil))) (pe_call G__law_served (hr.mono (by decide)) (by rfl) T.D__law_served.g T.D__law_served.F.kp T.D__law_served.b .nil pass0 (pa_cons (pv 4) (pa_cons pe_str (pa_cons (pv 8) (pa_cons (pv 9) pa_nil))))) (nomark _))
    (pss_one (ps_ret pe_bl))
    pss_nil)
  (pss_one (ps_ret (pe_and (pe_cmpR (op_eqD hr.units) (pe_methS0 (pv 0) T.cl_Book T.D_ring.m G_ring (hr.mono (by decide)) T.D_ring.b (passN0 (fun _ => E0))) (pe_lst pa_nil) (nomark _)) (pe_and (pe_call G__law_whole (hr.mono (by decide)) (by rfl) T.D__law_whole.g T.D__law_whole.F.kp T.D__law_whole.b .nil pass0 (pa_cons (pe_fldK (K := K) rfl (pv 0) rfl) pa_nil)) (pe_one (pe_cmpR op_eq (pe_fldK (K := K) rfl (pv 0) rfl) (pv 8) (nomark _))))))))))))))))))), ?_⟩
    try dsimp only [cxOf, Cx.nox, Cx.wish]
    have ok := s.ok
    have hL := ok.len
    refine qs_setP (P := fun v H' => ∃ rl, v = .ref rl ∧ H rl = none ∧ RL H' rl B) (evp_call (evl_cons (ev_var rfl) (evl_cons (ev_var rfl) (evl_cons (ev_var rfl) evl_nil))) fun H1 M Q k => ⟨S.ca, S.da, S.dr, B, dl, dp, rfl, (s.sm M).wl, M.lst s.da, M.lst s.dr, s.l1, s.l2, hn, s.lf, fun l H' M' nl h => k _ H' M' ⟨l, rfl, M.free nl, h⟩⟩) fun v H1 S1 hv => ?_
    obtain ⟨rl, rfl, nrl, hrl1⟩ := hv
    have s1 := s.sm S1
    refine qs_if (b := false) (EvT.to (evt_test (ev_neD (d := .list ((B.nums.map fun k => (((k : Nat) : Int), B.wl k)).map rowD)) (e := .list ((B.nums.map fun k => (((k : Nat) : Int), B.wl k)).map rowD)) (EvP.to (evp_standing (ev_var rfl) s1.b hL hn) fun v H' M ⟨l2, zs2, e, _, h1, h2⟩ => by rw [e]; exact .lst (.inl (.inl h1)) (dpRows2 h2))
      (Ev.d (ev_var rfl) (by obtain ⟨ys, h1, h2⟩ := hrl1; exact .lst (.inl (.inl h1)) (dpRows2 h2))) (shaped_rowDs _) (shaped_rowDs _))) (by rw [eqv_self (shaped_rowDs _)]; rfl)) (fun e => by cases e) (fun e H2 S2 => ?_)
    refine qs_setP (evp_dictRows (K := K) (ev_var rfl) (hrl1.sm S2)) fun v H3 S3 hv => ?_
    obtain ⟨d, f, rfl, nd2, hd3, hf3⟩ := hv
    have M3 := S1.trans (S2.trans S3)
    refine qs_set (ev_bprice (ev_var rfl) (s.sm M3).b T.cl_Book T.n_Book_price) fun H4 S4 => ?_
    have M4 := M3.trans S4
    have s4 := s.sm M4
    obtain ⟨dx, hp4⟩ := s4.b.ob
    refine qs_setM (ev_var rfl) hp4 bf_no evl_nil fun H5 S5 => ⟨S.p, S.lw, S.ll, S.lp, B, rfl, s4.b.sm S5, ok, hn, (M4.trans S5).tabG hT1, (M4.trans S5).tabG hT2, fun l ys H6 z ds F6 nl hl hds R hB6 => ?_⟩
    show tSeq _ _ _ [some (.ref S.p), some (.ref S.ca), some (.ref S.da), some (.ref S.dr), some (.ref rl), some (.ref d), some (.int B.price), some (.ref l), none, none, none, none] H6
    have M5 := M4.trans S5
    have s5 := s.sm M5
    have th := s.there
    have nrS : rl ∉ S.fp := fun m => th rl m nrl
    have ndS : d ∉ S.fp := fun m => (s.sm (S1.trans S2)).there d m nd2
    have nlS : l ∉ S.fp := fun m => s5.there l m nl
    have nb : ∀ {a : Addr}, a ∉ S.fp → a ∉ S.fb := fun n m => n (S14.in_b m)
    -- all lists behind the ring
    obtain ⟨xs, hxs, hws⟩ := s5.w
    have ca6 : H6 S.ca = some (.lst xs) := F6.e.lst s.n1 hxs
    have ws6 : Wishes K H6 xs B.ws := hws.tk F6.t.tk
    have da6 : H6 S.da = some (.lst (dl.map V.int)) := F6.e.lst s.n2 s5.da
    have dr6 : H6 S.dr = some (.lst (dp.map V.int)) := F6.e.lst s.n3 s5.dr
    have rl6 : RL H6 rl B := ((hrl1.sm (S2.trans (S3.trans S4))).sm S5).tq F6.t fun xs h => F6.e.lst (nb nrS) h
    have d6 : H6 d = some (.dK (dkv B.nums f)) := F6.e.at (nb ndS) ((S4.trans S5).at hd3 fun _ z => by cases z) fun _ z => by cases z
    have f6 : ∀ k ∈ B.nums, ∃ z, f k = .ref z ∧ H6 z = some (.tup (B.wl k).row) := fun k hk => by
      obtain ⟨z, e, h⟩ := hf3 k hk
      exact ⟨z, e, F6.t.tup _ _ ((S4.trans S5).tup h)⟩
    have t61 := F6.e.tabG (nb (s5.notab (M5.tabG hT1))) (M5.tabG hT1)
    have t62 := F6.e.tabG (nb (s5.notab (M5.tabG hT2))) (M5.tabG hT2)
    have z01 := R.p01 ok
    have hdl : ds.length ≤ 3000 := by
      have h2 := deals_len R.pr.ok R.pr.ris
      have h4 : B.stands.length ≤ B.n := by rw [stands_len]; exact nums_le
      omega
    refine qs_set (v := .int z) ((ev_bprice (ev_var rfl) hB6 T.cl_Book T.n_Book_price).to (by rw [rung_price])) fun H7 S7 => ?_
    refine qs_if (b := false) (EvT.to (evt_or (b := false) (c := false) (EvT.to (evt_not (evt_b (b := true) (ev_isi (x := .ref l) (u := .type "list") (t := .type "list") (ev_var rfl) ev_c (.ty "list") (fun H' S' => .base (.lst (S'.lst (S7.lst hl)))) (kit_ty (by decide +kernel))))) rfl) fun _ => EvT.to (evt_not (evt_b (ev_prc (ev_var rfl) (ev_var rfl) (ev_var rfl) (rl6.sm S7) ok ok.p0 ok.p1 R.near))) rfl) rfl) (fun e => by cases e) (fun e H8 S8 => ?_)
    have rl8 := rl6.sm (S7.trans S8)
    refine qs_set (v := .int (deal B.stands z)) ((ev_min2 (ev_sumB (ev_var rfl) (ev_var rfl) rl8) (ev_sumS (ev_var rfl) (ev_var rfl) rl8)).to ?_) fun H9 S9 => ?_
    · unfold deal
      congr 1
      split <;> omega
    have M69 := S7.trans (S8.trans S9)
    show tSeq (tFor _ _ _) _ _ [some (.ref S.p), some (.ref S.ca), some (.ref S.da), some (.ref S.dr), some (.ref rl), some (.ref d), some (.int B.price), some (.ref l), some (.int z), some (.int (deal B.stands z)), none, none] H9
    have lda : l ≠ S.da := fun e => nlS (by rw [e]; exact S14.in_da)
    have dda : d ≠ S.da := fun e => ndS (by rw [e]; exact S14.in_da)
    have rda : rl ≠ S.da := fun e => nrS (by rw [e]; exact S14.in_da)
    have one : ∀ {a : Addr}, a ≠ S.da → a ∉ [S.da] := fun h m => h (List.mem_singleton.mp m)
    have lt := R.lt
    refine q_seq (q_forG (D := { nx := _, rt := _ }) (a := l) (xs := ys) (fun i σ' H' => ∃ y10 y11 dl', σ' = [some (.ref S.p), some (.ref S.ca), some (.ref S.da), some (.ref S.dr), some (.ref rl), some (.ref d), some (.int B.price), some (.ref l), some (.int z), some (.int (deal B.stands z)), y10, y11] ∧ Fr K [S.da] [S.da] H6 H' ∧ H' S.da = some (.lst (dl'.map V.int)) ∧ dl'.length = B.n ∧ ∀ k, k < B.n → dl'.getD k 0 = dl.getD k 0 + got ((B.told ds).take i) k)
      (ev_var rfl) (.inl (.inl (M69.lst hl))) (fun H10 S10 => ⟨none, none, dl, rfl, (M69.trans S10).fr, (M69.trans S10).lst da6, s.l1, fun k _ => (Int.add_zero _).symm⟩) (fun i σ' H' _ hP => ?_) (fun i x σ' H' hx hP => ?_) (fun σ' H' hP => ?_))
    · obtain ⟨_, _, _, _, F, _⟩ := hP
      exact .inl (.inl (F.e.lst (one lda) hl))
    · obtain ⟨y10, y11, dl', rfl, F, hda, hll, hdk⟩ := hP
      obtain ⟨e, he, t, rfl, ht⟩ := paired_get hds hx
      have hem := List.mem_of_getElem? he
      have told := R.told hem
      have e12 := lt e hem
      refine ⟨_, evg_name, fun H10 S10 => ?_⟩
      have F10 := F.sm S10
      have ht10 := F10.t.tup _ _ ht
      have d10 : H10 d = some (.dK (dkv B.nums f)) := F10.e.at (one dda) d6 fun _ z => by cases z
      refine qs_if (b := false) (EvT.to (evt_not (evt_b (b := true) (ev_call (evl_cons (ev_var rfl) (evl_cons (ev_var rfl) (evl_cons (ev_var rfl) evl_nil))) fun H11 M Q k => ⟨t, d, B, f, e, z, rfl, M.tup ht10, M.at d10 (fun _ z => by cases z), fun k hk => ?_, told, k⟩))) rfl) (fun e => by cases e) (fun _ H11 S11 => ?_)
      · obtain ⟨zz, e1, h⟩ := f6 k hk
        exact ⟨zz, e1, M.tup (F10.t.tup _ _ h)⟩
      have F11 := F10.sm S11
      have tS : ∀ {H'}, Fr K [S.da] [S.da] H6 H' → SqT K H' t [.int (e.1 : Int), .int (e.2.1 : Int), .int e.2.2] := fun G => .inl (.inl (G.t.tup _ _ ht))
      refine q_forSq (evp_cut2 (ev_var rfl) (tS F11)) fun t2 H12 S12 ht2 => ?_
      have F12 := F11.sm S12
      have hda12 := (S10.trans (S11.trans S12)).lst hda
      refine q_forTup (D := { nx := _, rt := _, bk := _, ct := _ }) (a := t2) (xs := [.int (e.1 : Int), .int (e.2.1 : Int)]) (fun j σ' H' => ∃ y11 dl', σ' = [some (.ref S.p), some (.ref S.ca), some (.ref S.da), some (.ref S.dr), some (.ref rl), some (.ref d), some (.int B.price), some (.ref l), some (.int z), some (.int (deal B.stands z)), some (.ref t), y11] ∧ Fr K [S.da] [S.da] H12 H' ∧ H' S.da = some (.lst (dl'.map V.int)) ∧ dl'.length = B.n ∧ ∀ k, k < B.n → dl'.getD k 0 = dl.getD k 0 + got ((B.told ds).take i) k + ((if 1 ≤ j then (if e.1 = k then e.2.2 else 0) else 0) + (if 2 ≤ j then (if e.2.1 = k then e.2.2 else 0) else 0)))
        ht2 ⟨y11, dl', rfl, (Sm.refl _).fr, hda12, hll, fun k hk => by rw [if_neg (by omega), if_neg (by omega), hdk k hk]; omega⟩ (fun j σ' H' _ hP => ?_) (fun j x σ' H' hx hP => ?_) (fun σ' H' hP => ?_)
      · obtain ⟨_, _, _, G, _⟩ := hP
        exact G.t.tk _ _ ht2
      · obtain ⟨y11, dl2, rfl, G, hda2, hll2, hdk2⟩ := hP
        obtain ⟨k, rfl, hk, hstep⟩ : ∃ k : Nat, x = .int (k : Int) ∧ k < B.n ∧ ∀ i, ((if 1 ≤ j + 1 then (if e.1 = i then e.2.2 else 0) else 0) + (if 2 ≤ j + 1 then (if e.2.1 = i then e.2.2 else 0) else 0)) = ((if 1 ≤ j then (if e.1 = i then e.2.2 else 0) else 0) + (if 2 ≤ j then (if e.2.1 = i then e.2.2 else 0) else 0)) + (if k = i then e.2.2 else 0) := by
          match j, hx with
          | 0, hx => exact ⟨e.1, (Option.some.inj hx).symm, e12.1, fun i => by simp⟩
          | 1, hx => exact ⟨e.2.1, (Option.some.inj hx).symm, e12.2, fun i => by simp⟩
          | j + 2, hx => simp at hx
        refine ⟨_, evg_name, fun H13 S13 => ?_⟩
        have G13 := G.sm S13
        have hkl : k < dl2.length := by omega
        refine q_put (P := fun y _ => y = .int (dl2.getD k 0 + e.2.2)) (Ev.p (ev_opI0 (ev_ixN (ev_var rfl) (ev_var rfl) (.inl (.inl (S13.lst hda2))) hkl) (ev_ixT (v := .int e.2.2) (ev_var rfl) ev_c (tS (F12.trans G13)) rfl))) (ev_var rfl) (ev_var rfl) (S13.lst hda2) (j := k) (by rw [List.length_map]; exact ixN_nat hkl) fun y H14 H15 X14 ey S15 h15 => ?_
        subst ey
        rw [show (dl2.map V.int).set k (.int (dl2.getD k 0 + e.2.2)) = (dl2.set k (dl2.getD k 0 + e.2.2)).map V.int from (List.map_set ..).symm]
        refine ⟨_, _, rfl, (G13.sm (X14.trans S15)).trans (Fr.put List.mem_cons_self h15), upd_same, by rw [List.length_set]; exact hll2, fun i' hi' => ?_⟩
        rw [getD_set hkl, hstep i']
        by_cases e1 : i' = k
        · subst e1
          rw [if_pos rfl, if_pos rfl, hdk2 i' hi']
          omega
        · rw [if_neg e1, if_neg (Ne.symm e1), hdk2 i' hi']
          omega
      · obtain ⟨y11', dl2, rfl, G, hda2, hll2, hdk2⟩ := hP
        refine ⟨_, _, dl2, rfl, F12.trans G, hda2, hll2, fun k hk => ?_⟩
        have h : dl2.getD k 0 = dl.getD k 0 + got ((B.told ds).take i) k + ((if e.1 = k then e.2.2 else 0) + (if e.2.1 = k then e.2.2 else 0)) := (hdk2 k hk).trans (by simp)
        rw [got_take he, h]
        omega
    · obtain ⟨y10, y11, dl', rfl, F, hda, hll, hdk⟩ := hP
      have ex : (B.told ds).take ys.length = B.told ds := List.take_of_length_le (by rw [Paired.length hds]; exact Nat.le_refl _)
      rw [ex] at hdk
      dsimp only
      have hB10 : BookAt K T.a_Book H' S.p S.lw S.ll S.lp (B.rung z ds) := hB6.fr F fun a ha m => s.n2 (by rw [← List.mem_singleton.mp m]; exact ha)
      have okR := R.okk ok
      have hnR : (B.rung z ds).n ≤ 1000 := by rw [rung_n]; exact hn
      have l10 : H' l = some (.lst ys) := F.e.lst (one lda) hl
      have ds10 := DealAt.tq F.t hds
      have rl10 : RL H' rl B := rl6.tq F.t fun xs h => F.e.lst (one rda) h
      have q1 : ∀ k ∈ (B.rung z ds).nums, ((wAt (B.rung z ds).ws k).buy = true → (wAt (B.rung z ds).ws k).lim ≤ z) ∧ ((wAt (B.rung z ds).ws k).buy = false → z ≤ (wAt (B.rung z ds).ws k).lim) := fun k hk => by
        rw [rung_ws]
        exact R.quiet1 ok hk
      have q2 : (∀ k ∈ (B.rung z ds).nums, (wAt (B.rung z ds).ws k).buy = true → (wAt (B.rung z ds).ws k).lim < z) ∨ ∀ k ∈ (B.rung z ds).nums, (wAt (B.rung z ds).ws k).buy = false → z < (wAt (B.rung z ds).ws k).lim := by
        rw [rung_ws]
        exact R.quiet2 ok
      refine qs_if (b := false) (EvT.to (evt_or (b := false) (c := false) (EvT.to (evt_not (evt_b (b := true) (ev_call (evl_cons (ev_var rfl) evl_nil) fun H11 M Q k => ⟨l, B.told ds, ys, rfl, M.lst l10, DealAt.sm M ds10, R.rise, by unfold Book.told; rw [List.length_map]; exact hdl, k⟩))) rfl) fun _ =>
        EvT.to (evt_not (evt_b (b := true) (ev_call (evl_cons (ev_var rfl) (evl_cons (ev_var rfl) evl_nil)) fun H11 M Q k => ⟨S.p, S.lw, S.ll, S.lp, B.rung z ds, z, rfl, hB10.sm M, okR.len, hnR, z01.1, z01.2, q1, q2, k⟩))) rfl) rfl) (fun e => by cases e) (fun e H11 S11 => ?_)
      have srv : ∀ (b : Bool) {H12}, Sm H' H12 → ∀ {ta tb : TE} {te : TE} {st : Str} {σ : L2.St} {E1 E2 : XK}, σ = [some (V.ref S.p), some (.ref S.ca), some (.ref S.da), some (.ref S.dr), some (.ref rl), some (.ref d), some (.int B.price), some (.ref l), some (.int z), some (.int (deal B.stands z)), y10, y11] → Ev te σ H12 (.int (if b then 0 else 1)) → st = sideS b →
          EvT (tTest (tOp (rNeD K) (tCall (spGot K) [] E1 (tCons (tVar 7) (tCons te tNil))) (tCall (spServed K) [] E2 (tCons (tVar 4) (tCons (tC (.str st)) (tCons (tVar 8) (tCons (tVar 9) tNil))))))) σ H12 false := by
        intro b H12 M ta tb te st σ E1 E2 hσ hte hst
        subst hσ
        exact EvT.to (evt_test (ev_neD (d := .list ((tgt B z b).map pairD)) (e := .list ((tgt B z b).map pairD)) ((evp_got b (ev_var rfl) hte (M.lst l10) (DealAt.sm M ds10) R hdl).to fun v H' M' ⟨l', zs, e, h1, h2⟩ => by rw [e]; exact .lst (.inl (.inl h1)) (dpPairs h2))
          ((evp_served b (ev_var rfl) ev_c hst (ev_var rfl) (ev_var rfl) (rl10.sm M) ok hn rfl).to fun v H' M' ⟨l', zs, e, h1, h2⟩ => by rw [e]; exact .lst (.inl (.inl h1)) (dpPairs h2)) (shaped_pairs _) (shaped_pairs _))) (by rw [eqv_self (shaped_pairs _)]; rfl)
      refine qs_if (b := false) (srv true S11 (ta := tVar 0) (tb := tVar 0) rfl ev_c rfl) (fun e => by cases e) (fun e H12 S12 => ?_)
      refine qs_if (b := false) (srv false (S11.trans S12) (ta := tVar 0) (tb := tVar 0) rfl ev_c rfl) (fun e => by cases e) (fun e H13 S13 => ?_)
      have M13 := S11.trans (S12.trans S13)
      have hB13 := hB10.sm M13
      obtain ⟨dx13, hp13⟩ := hB13.ob
      have tda : ∀ {P : Addr}, TabG H' P → True := fun _ => trivial
      have t131 : TabG H13 T.k_wanted.2 := M13.tabG (F.e.tabG (one fun e => by obtain ⟨qs, h, _⟩ := t61; rw [e, da6] at h; cases h) t61)
      have t132 : TabG H13 T.k_offered.2 := M13.tabG (F.e.tabG (one fun e => by obtain ⟨qs, h, _⟩ := t62; rw [e, da6] at h; cases h) t62)
      refine q_retAndM (ev_var rfl) hp13 bf_no evl_nil fun H14 X14 Q2 k2 => ⟨S.p, S.lw, S.ll, S.lp, B.rung z ds, rfl, hB13.sm X14, okR, hnR, X14.tabG t131, X14.tabG t132, fun l2 ys2 H15 z2 ds2 F15 nl2 hl2 hds2 R2 hB15 => k2 _ H15 ?_⟩
      obtain ⟨ez, ed⟩ := R.again ok R2
      subst ez ed
      rw [rung_nil, rung_again R] at hB15
      have ey : ys2 = [] := by
        have := Paired.length hds2
        exact List.eq_nil_of_length_eq_zero this.symm
      subst ey
      -- the end
      have M14 := M13.trans X14
      have Fall : Fr K S.fp S.fp H H15 := by
        have a1 : Fr K S.fp S.fp H H6 := M5.fr.trans (F6.weak fun a h => S14.in_b h)
        have a2 : Fr K S.fp S.fp H6 H' := F.weak fun a h => by rw [List.mem_singleton.mp h]; exact S14.in_da
        exact ((a1.trans a2).sm M14).trans (F15.weak fun a h => S14.in_b h)
      have F6E : Fr K (S.da :: S.fb) (S.da :: S.fb) H6 H15 := ((F.weak fun a h => by rw [List.mem_singleton.mp h]; exact List.mem_cons_self).sm M14).trans (F15.weak fun a h => List.mem_cons_of_mem _ h)
      have no : ∀ {a : Addr}, a ≠ S.da → a ∉ S.fb → a ∉ S.da :: S.fb := fun h1 h2 m => (List.mem_cons.mp m).elim h1 h2
      have st15 : St14 K T.a_Book H15 S (B.rung z2 ds) dl' dp := by
        refine ⟨hB15, okR, ⟨xs, F6E.e.lst (no s.n4 s.n1) ca6, by rw [rung_ws]; exact ws6.tk F6E.t.tk⟩, F15.e.lst s.n2 (M14.lst hda), F6E.e.lst (no (Ne.symm s.n6) s.n3) dr6, by rw [rung_n]; exact hll, by rw [rung_n]; exact s.l2, fun k hk => ?_, ?_, s.n1, s.n2, s.n3, s.n4, s.n5, s.n6⟩
        · rw [rung_n] at hk
          have h1 := R.lf ok k
          have h2 := s.lf k hk
          have h3 := hdk k hk
          have h4 : amtAt (B.rung z2 ds).ws k = amtAt B.ws k := by rw [rung_ws]
          rw [h1, h4]
          omega
        · rw [rung_n, R.money ok]
          exact s.mo
      refine (evp_lst0 (σ := [some (V.ref S.p), some (.ref S.ca), some (.ref S.da), some (.ref S.dr), some (.ref rl), some (.ref d), some (.int B.price), some (.ref l), some (.int z2), some (.int (deal B.stands z2)), y10, y11]) (H := H15)) H15 (Sm.refl _) _ fun u H16 S16 ⟨l3, e3, _, h3⟩ => ⟨.list [], .list [], .lst (.inl (.inl (S16.lst hl2))) .nil, by rw [e3]; exact .lst (.inl (.inl h3)) .nil, by decide +kernel, by decide +kernel, true, by rw [eqv_self (by decide +kernel)], ?_⟩
      rw [if_pos rfl]
      have hB16 := hB15.sm S16
      exact ev_and (b := true) (c := true) (ev_wholeI (ev_bprice (ev_var rfl) hB16 T.cl_Book T.n_Book_price)) (fun _ => (ev_eqI (ev_bprice (ev_var rfl) hB16 T.cl_Book T.n_Book_price) (ev_var rfl)).to (by rw [rung_price, decide_eq_true rfl])) H16 (Sm.refl _) _ fun H17 S17 => fin H17 _ dl' (Fall.sm (S16.trans S17)) (st15.sm (S16.trans S17)) rung_n
/-! ### _law_ended -/
def spEnd (K : PySem.W.Frag) (C : Addr) : Sp := fun vs H Q _ => ∃ (S : S14) (B : Book) (dl dp : List Int), vs = [.ref S.p, .ref S.ca, .ref S.da, .ref S.dr] ∧ St14 K C H S B dl dp ∧ B.n ≤ 1000 ∧ ∀ H', Sm H H' → Q (.bl true) H'
theorem ok__law_ended (T : Txt K mg) : FnOk P w K mg base CX0 8 T.f__law_ended T.d__law_ended ["_law_book", "_law_came", "_law_dealt", "_law_dropped"] (spEnd K T.a_Book) := by
  have G_left : FnOk P w K mg base (L2.CX P w) 5 T.f_left T.d_left ["self", "number"] (spRead K T.a_Book T.a_NoSuch Book.lf) := FnOk.noCtx (ok_left T)
  have G_paid : FnOk P w K mg base (L2.CX P w) 5 T.f_paid T.d_paid ["self", "number"] (spRead K T.a_Book T.a_NoSuch Book.pd) := FnOk.noCtx (ok_paid T)
  refine T.D__law_ended.F.ok sc__law_ended (fun vs H Q E h => ?_) (fun cdv A outer s H vs Q E hr h => ?_)
  · obtain ⟨S, B, dl, dp, rfl, _⟩ := h
    rfl
  · obtain ⟨S, B, dl, dp, rfl, s, hn, q⟩ := h
    refine ⟨_, (pss_cons (ps_set (i := 4) sc__law_ended.nd rfl (.inl rfl) pe_int)
  (pss_cons (ps_for PassesOwn.never rfl (pi_range1 (by rfl) T.n_range (pa_cons (pe_callB call_len_seq (by rfl) T.n_len PySem.boot_len (pa_cons (pv 1) pa_nil)) pa_nil)) (pg_name (i := 5) sc__law_ended.nd rfl (.inl rfl))
    (pss_cons (ps_if (PW.pt (pw_or (pt_cmpR op_ne (pe_op op_add (pe_op op_add (pe_methS (pv 0) T.cl_Book T.D_left.m G_left (hr.mono (by decide)) T.D_left.b passNL (pa_cons (pv 5) pa_nil)) (pe_ix (r := rIxL K) ix_list (pv 3) (pv 5) (fun _ _ => rfl))) (pe_ix (r := rIxL K) ix_list (pv 2) (pv 5) (fun _ _ => rfl))) (pe_ix (r := rIxT K) ix_tup (pe_ix (r := rIxL K) ix_list (pv 1) (pv 5) (fun _ _ => rfl)) pe_int (fun _ _ => rfl)) (nomark _)) (pw_or (pt_cmpR op_lt (pe_methS (pv 0) T.cl_Book T.D_left.m G_left (hr.mono (by decide)) T.D_left.b passNL (pa_cons (pv 5) pa_nil)) pe_int (nomark _)) (pw_or1 (pt_cmpR op_lt (pe_methS (pv 0) T.cl_Book T.D_paid.m G_paid (hr.mono (by decide)) T.D_paid.b passNL (pa_cons (pv 5) pa_nil)) pe_int (nomark _))))))
    (pss_one (ps_ret pe_bl))
    pss_nil)
  (pss_one (ps_if (pt_cmpR op_eq (pe_ix (r := rIxT K) ix_tup (pe_ix (r := rIxL K) ix_list (pv 1) (pv 5) (fun _ _ => rfl)) pe_int (fun _ _ => rfl)) pe_str (nomark _))
    (pss_one (ps_set (i := 4) sc__law_ended.nd rfl (.inl rfl) (pe_op op_add (pv 4) (pe_methS (pv 0) T.cl_Book T.D_paid.m G_paid (hr.mono (by decide)) T.D_paid.b passNL (pa_cons (pv 5) pa_nil)))))
    (pss_one (ps_set (i := 4) sc__law_ended.nd rfl (.inl rfl) (pe_op op_sub (pv 4) (pe_methS (pv 0) T.cl_Book T.D_paid.m G_paid (hr.mono (by decide)) T.D_paid.b passNL (pa_cons (pv 5) pa_nil)))))))))
  (pss_one (ps_ret (pe_cmpR op_eq (pv 4) pe_int (nomark _)))))), ?_⟩
    try dsimp only [cxOf, Cx.nox, Cx.wish]
    have hL := s.ok.len
    refine qs_set (v := .int (B.money 0)) ev_c fun H1 S1 => ?_
    show tSeq (tFor _ _ _) _ _ _ _
    refine q_seq (q_forR (D := { nx := _, rt := _ }) (j := (B.n : Int)) (fun i σ' H' => i ≤ B.n ∧ ∃ y5, σ' = [some (.ref S.p), some (.ref S.ca), some (.ref S.da), some (.ref S.dr), some (.int (B.money i)), y5] ∧ Sm H H')
      (evl_cons (ev_lenW (ev_var rfl) (s.sm S1).wl) evl_nil) (by omega) (fun H2 S2 => ⟨Nat.zero_le _, none, rfl, S1.trans S2⟩) (fun i σ' H' hi hP => ?_) (fun σ' H' hP => ?_))
    · obtain ⟨_, y5, rfl, M⟩ := hP
      have hi2 : i < B.n := by omega
      have s' := s.sm M
      have e0 := s.lf i hi2
      have e1 := s.ok.l.ok i hi2
      have e1 : 0 ≤ B.lf i := e1.1
      have e2 := s.ok.nn i hi2
      have lS : ∀ {H2 σ'}, Sm H' H2 → σ'[0]? = some (some (V.ref S.p)) → σ'[5]? = some (some (V.int (i : Int))) → ∀ {E}, Ev (L2H.tMethH T.a_Book "left" (spRead K T.a_Book T.a_NoSuch Book.lf) E (tVar 0) (tCons (tVar 5) tNil)) σ' H2 (.int (B.lf i)) := fun N h0 h5 => ev_read (f := Book.lf) (ev_var h0) (s'.sm N).b hL bf_no (ev_var h5) hi2
      have pS : ∀ {H2 σ'}, Sm H' H2 → σ'[0]? = some (some (V.ref S.p)) → σ'[5]? = some (some (V.int (i : Int))) → ∀ {E}, Ev (L2H.tMethH T.a_Book "paid" (spRead K T.a_Book T.a_NoSuch Book.pd) E (tVar 0) (tCons (tVar 5) tNil)) σ' H2 (.int (B.pd i)) := fun N h0 h5 => ev_read (f := Book.pd) (ev_var h0) (s'.sm N).b hL bf_no (ev_var h5) hi2
      show tSeq _ _ _ [some (.ref S.p), some (.ref S.ca), some (.ref S.da), some (.ref S.dr), some (.int (B.money i)), some (.int (i : Int))] H'
      refine qs_if (b := false) (EvT.to (evt_or (b := false) (c := false) (EvT.to (evt_test (ev_neI (ev_opI0 (ev_opI0 (lS (Sm.refl _) rfl rfl) (ev_ixN (ev_var rfl) (ev_var rfl) (.inl (.inl s'.dr)) (by rw [s.l2]; exact hi2))) (ev_ixN (ev_var rfl) (ev_var rfl) (.inl (.inl s'.da)) (by rw [s.l1]; exact hi2))) (ev_wAmt (ev_var rfl) (ev_var rfl) s'.wl hi2))) (by rw [decide_eq_true (by omega)]; rfl)) fun _ => EvT.to (evt_or (b := false) (c := false) (EvT.to (evt_test (ev_opI0 (lS (Sm.refl _) rfl rfl) ev_c)) (decide_eq_false (by omega))) fun _ => EvT.to (evt_test (ev_opI0 (pS (Sm.refl _) rfl rfl) ev_c)) (decide_eq_false (by omega))) rfl) rfl) (fun e => by cases e) (fun e H2 S2 => ?_)
      have step : B.money (i + 1) = B.money i + (if (wAt B.ws i).buy = true then B.pd i else -B.pd i) := by
        unfold Book.money
        rw [S_succ, if_pos rfl]
      refine q_if (b := (wAt B.ws i).buy) ((evt_test (ev_eqS (ev_wSide (ev_var rfl) (ev_var rfl) (s'.sm S2).wl hi2) ev_c)).to (side_buy _)) (fun e3 H3 S3 => ?_) (fun e3 H3 S3 => ?_)
      · rw [e3, if_pos rfl] at step
        refine q_set (v := .int (B.money (i + 1))) ((ev_opI0 (ev_var rfl) (pS (S2.trans S3) rfl rfl)).to (by rw [step])) fun H4 S4 => ⟨by omega, _, rfl, M.trans (S2.trans (S3.trans S4))⟩
      · rw [e3, if_neg Bool.false_ne_true] at step
        refine q_set (v := .int (B.money (i + 1))) ((ev_opI0 (ev_var rfl) (pS (S2.trans S3) rfl rfl)).to (by rw [step]; rfl)) fun H4 S4 => ⟨by omega, _, rfl, M.trans (S2.trans (S3.trans S4))⟩
    · obtain ⟨_, y5, rfl, M⟩ := hP
      dsimp only
      rw [Int.toNat_natCast, s.mo]
      exact q_ret (v := .bl true) ((ev_eqI (ev_var rfl) ev_c).to rfl) fun H2 S2 => q H2 (M.trans S2)

/-! ### part law -/
theorem st14_kind0 {C : Addr} {H : Hp} {S : S14} {o : Int} (s : St14 K C H S ⟨o, [], [], []⟩ [] []) : ∀ x ∈ S.fp, (∃ C dx fs, H x = some (.ins C dx fs)) ∨ H x = some (.lst []) := fun x hx => by
  obtain ⟨⟨dx, h1⟩, ⟨xs, h2, h3⟩, h4, h5, _⟩ := s.b
  have hxs : xs = [] := List.eq_nil_of_length_eq_zero h3.length
  subst hxs
  obtain ⟨ys, h6, h7⟩ := s.w
  have hys : ys = [] := List.eq_nil_of_length_eq_zero h7.length
  subst hys
  rcases List.mem_append.mp hx with h | h
  · have h : x = S.p ∨ x = S.lw ∨ x = S.ll ∨ x = S.lp := by simpa using h
    rcases h with h | h | h | h
    · rw [h]; exact .inl ⟨_, _, _, h1⟩
    · rw [h]; exact .inr h2
    · rw [h]; exact .inr h4
    · rw [h]; exact .inr h5
  · have h : x = S.ca ∨ x = S.da ∨ x = S.dr := by simpa using h
    rcases h with h | h | h
    · rw [h]; exact .inr h6
    · rw [h]; exact .inr s.da
    · rw [h]; exact .inr s.dr
set_option maxHeartbeats 4000000 in
theorem ok_law (T : Txt K mg) (TB1 : TabB base mg T.k_wanted.1 T.k_wanted.2) (TB2 : TabB base mg T.k_offered.1 T.k_offered.2) : FnOk P w K mg base CX0 20 T.f_law T.d_law ["_law_script"] (SpLaw K [T.k_wanted.2, T.k_offered.2]) := by
  have G__law_cell_at : FnOk P w K mg base CX0 1 T.f__law_cell_at T.d__law_cell_at ["_law_script", "_law_k"] (spCell K) := ok__law_cell_at T
  have G___init__ : FnOk P w K mg base (L2.CX P w) 5 T.f___init__ T.d___init__ ["self", "old"] (spInit K T.a_Book T.a_BadPrice) := ok___init__ T
  have G_add : FnOk P w K mg base (L2.CX P w) 5 T.f_add T.d_add ["self", "wish"] (spAdd K T.a_Book T.a_BadWish) := ok_add T
  have G_drop : FnOk P w K mg base (L2.CX P w) 7 T.f_drop T.d_drop ["self", "number"] (spDrop K T.a_Book T.a_NoSuch) := ok_drop T
  have G_standing : FnOk P w K mg base CX0 1 T.f_standing T.d_standing ["self"] (spStanding K T.a_Book) := ok_standing T
  have G__law_wish_by : FnOk P w K mg base CX0 1 T.f__law_wish_by T.d__law_wish_by ["_law_cell"] (spWishBy K) := ok__law_wish_by T
  have G__law_ring : FnOk P w K mg base CX0 11 T.f__law_ring T.d__law_ring ["_law_book", "_law_came", "_law_dealt", "_law_dropped"] (spLR14 K T.a_Book T.k_wanted.2 T.k_offered.2) := ok__law_ring T TB1 TB2
  have G__law_ended : FnOk P w K mg base CX0 8 T.f__law_ended T.d__law_ended ["_law_book", "_law_came", "_law_dealt", "_law_dropped"] (spEnd K T.a_Book) := ok__law_ended T
  refine T.D_law.F.ok sc_law (fun vs H Q E h => ?_) (fun cdv A outer s H vs Q E hr h => ?_)
  · obtain ⟨a, ns, rfl, _⟩ := h
    rfl
  · obtain ⟨a, ns, rfl, hS, hlen, hT, q⟩ := h
    have hT1 : TabG H T.k_wanted.2 := hT _ List.mem_cons_self
    have hT2 : TabG H T.k_offered.2 := hT _ (List.mem_cons_of_mem _ List.mem_cons_self)
    refine ⟨_, (pss_cons (ps_set (i := 1) sc_law.nd rfl (.inl rfl) (pe_makeS T.D___init__.m G___init__ (hr.mono (by decide)) (by rfl) T.g_Book T.D___init__.b passNL (pa_cons (pe_op op_mod (pe_call G__law_cell_at (hr.mono (by decide)) (by rfl) T.D__law_cell_at.g T.D__law_cell_at.F.kp T.D__law_cell_at.b .nil pass0 (pa_cons (pv 0) (pa_cons pe_int pa_nil))) pe_int) pa_nil)))
  (pss_cons (ps_if (pt_cmpR op_eq (pe_op op_mod (pe_call G__law_cell_at (hr.mono (by decide)) (by rfl) T.D__law_cell_at.g T.D__law_cell_at.F.kp T.D__law_cell_at.b .nil pass0 (pa_cons (pv 0) (pa_cons pe_int pa_nil))) pe_int) pe_int (nomark _))
    (pss_one (ps_set (i := 1) sc_law.nd rfl (.inl rfl) (pe_makeS T.D___init__.m G___init__ (hr.mono (by decide)) (by rfl) T.g_Book T.D___init__.b passNL (pa_cons (pe_op op_add pe_int (pe_op op_mod (pe_call G__law_cell_at (hr.mono (by decide)) (by rfl) T.D__law_cell_at.g T.D__law_cell_at.F.kp T.D__law_cell_at.b .nil pass0 (pa_cons (pv 0) (pa_cons pe_int pa_nil))) pe_int)) pa_nil))))
    pss_nil)
  (pss_cons (ps_setLc (i := 3) (own := [("_law_cell", 2)]) (g := (gName 2)) rfl sc_law.nd rfl rfl (sw_true rfl rfl rfl (by decide +kernel)) (pi_list (pe_slice sl_list (pv 0) (po_some pe_int) (po_some pe_int))) (blkOk_by (own := [("_law_cell", 2)]) (N := names_law) (sc := defScope s_law) (by decide +kernel)) (fun _ _ _ _ _ => (pg_name (i := 2) sc_law.nd rfl (Or.inl rfl))) (fun _ _ _ _ _ => pts_nil) (fun _ _ _ _ _ => (pe_op op_mul pe_int (pv 2))))
  (pss_cons (ps_set (i := 4) sc_law.nd rfl (.inl rfl) pe_int)
  (pss_cons (ps_if (pt_cmpR op_gt (pe_callB call_len_seq (by rfl) T.n_len PySem.boot_len (pa_cons (pv 0) pa_nil)) pe_int (nomark _))
    (pss_one (ps_set (i := 4) sc_law.nd rfl (.inl rfl) pe_int))
    pss_nil)
  (pss_cons (ps_set (i := 5) sc_law.nd rfl (.inl rfl) pe_int)
  (pss_cons (ps_if (pt_cmpR op_eq (pe_op op_mod (pe_op op_fdiv (pe_call G__law_cell_at (hr.mono (by decide)) (by rfl) T.D__law_cell_at.g T.D__law_cell_at.F.kp T.D__law_cell_at.b .nil pass0 (pa_cons (pv 0) (pa_cons pe_int pa_nil))) pe_int) pe_int) pe_int (nomark _))
    (pss_one (ps_set (i := 5) sc_law.nd rfl (.inl rfl) (pe_op op_add pe_int (pe_op op_mod (pe_call G__law_cell_at (hr.mono (by decide)) (by rfl) T.D__law_cell_at.g T.D__law_cell_at.F.kp T.D__law_cell_at.b .nil pass0 (pa_cons (pv 0) (pa_cons pe_int pa_nil))) pe_int))))
    pss_nil)
  (pss_cons (ps_if (pt_cmpR op_eq (pe_op op_mod (pe_op op_fdiv (pe_call G__law_cell_at (hr.mono (by decide)) (by rfl) T.D__law_cell_at.g T.D__law_cell_at.F.kp T.D__law_cell_at.b .nil pass0 (pa_cons (pv 0) (pa_cons pe_int pa_nil))) pe_int) pe_int) pe_int (nomark _))
    (pss_cons (ps_set (i := 5) sc_law.nd rfl (.inl rfl) (pe_op op_add pe_int (pe_op op_mod (pe_call G__law_cell_at (hr.mono (by decide)) (by rfl) T.D__law_cell_at.g T.D__law_cell_at.F.kp T.D__law_cell_at.b .nil pass0 (pa_cons (pv 0) (pa_cons pe_int pa_nil))) pe_int)))
  (pss_one (ps_set (i := 4) sc_law.nd rfl (.inl rfl) pe_int)))
    pss_nil)
  (pss_cons (ps_for PassesOwn.never rfl (pi_range1 (by rfl) T.n_range (pa_cons (pv 5) pa_nil)) (pg_name (i := 6) sc_law.nd rfl (.inl rfl))
    (pss_one (ps_expr (pe_bm PySem.F.plainAttrs_list PySem.F.slot_list_append PySem.F.type_list_append mt_append (pv 3) (pa_cons (pe_op op_mul pe_int (pe_op op_add (pe_call G__law_cell_at (hr.mono (by decide)) (by rfl) T.D__law_cell_at.g T.D__law_cell_at.F.kp T.D__law_cell_at.b .nil pass0 (pa_cons (pv 0) (pa_cons pe_int pa_nil))) (pe_op op_mul pe_int (pv 6)))) pa_nil)))))
  (pss_cons (ps_set (i := 7) sc_law.nd rfl (.inl rfl) (pe_lst pa_nil))
  (pss_cons (ps_set (i := 8) sc_law.nd rfl (.inl rfl) (pe_lst pa_nil))
  (pss_cons (ps_set (i := 9) sc_law.nd rfl (.inl rfl) (pe_lst pa_nil))
  (pss_cons (ps_for PassesOwn.never rfl (pi_list (pe_op op_cat (pe_op op_cat (pv 3) (pe_slice sl_list (pv 0) (po_some pe_int) (po_some (pe_op op_add pe_int (pv 4))))) (pe_lst (pa_cons pe_int pa_nil)))) (pg_name (i := 2) sc_law.nd rfl (.inl rfl))
    (pss_one (ps_if (pt_cmpR op_lt (pe_op op_mod (pv 2) pe_int) pe_int (nomark _))
    (pss_cons (ps_expr (pe_bm PySem.F.plainAttrs_list PySem.F.slot_list_append PySem.F.type_list_append mt_append (pv 7) (pa_cons (pe_call G__law_wish_by (hr.mono (by decide)) (by rfl) T.D__law_wish_by.g T.D__law_wish_by.F.kp T.D__law_wish_by.b .nil pass0 (pa_cons (pe_op op_fdiv (pv 2) pe_int) pa_nil)) pa_nil)))
  (pss_cons (ps_expr (pe_bm PySem.F.plainAttrs_list PySem.F.slot_list_append PySem.F.type_list_append mt_append (pv 8) (pa_cons pe_int pa_nil)))
  (pss_cons (ps_expr (pe_bm PySem.F.plainAttrs_list PySem.F.slot_list_append PySem.F.type_list_append mt_append (pv 9) (pa_cons pe_int pa_nil)))
  (pss_one (ps_if (pt_cmpR op_ne (pe_methS (pv 1) T.cl_Book T.D_add.m G_add (hr.mono (by decide)) T.D_add.b passNL (pa_cons (pe_ix (r := rIxL K) ix_list (pv 7) (pe_op op_sub (pe_callB call_len_seq (by rfl) T.n_len PySem.boot_len (pa_cons (pv 7) pa_nil)) pe_int) (fun _ _ => rfl)) pa_nil)) (pe_op op_sub (pe_callB call_len_seq (by rfl) T.n_len PySem.boot_len (pa_cons (pv 7) pa_nil)) pe_int) (nomark _))
    (pss_one (ps_ret pe_bl))
    pss_nil)))))
    (pss_one (ps_if (pt_cmpR op_eq (pe_op op_mod (pv 2) pe_int) pe_int (nomark _))
    (pss_cons (ps_set (i := 10) sc_law.nd rfl (.inl rfl) (pe_methS0 (pv 1) T.cl_Book T.D_standing.m G_standing (hr.mono (by decide)) T.D_standing.b (passN0 (fun _ => E0))))
  (pss_one (ps_if (pt_cmpR op_gt (pe_callB call_len_seq (by rfl) T.n_len PySem.boot_len (pa_cons (pv 10) pa_nil)) pe_int (nomark _))
    (pss_cons (ps_set (i := 11) sc_law.nd rfl (.inl rfl) (pe_ix (r := rIxT K) ix_tup (pe_ix (r := rIxL K) ix_list (pv 10) (pe_op op_mod (pe_op op_fdiv (pv 2) pe_int) (pe_callB call_len_seq (by rfl) T.n_len PySem.boot_len (pa_cons (pv 10) pa_nil))) (fun _ _ => rfl)) pe_int (fun _ _ => rfl)))
  (pss_one (ps_asg (pe_op op_add (pe_ix (r := rIxL K) ix_list (pv 9) (pv 11) (fun _ _ => rfl)) (pe_methS (pv 1) T.cl_Book T.D_drop.m G_drop (hr.mono (by decide)) T.D_drop.b passNL (pa_cons (pv 11) pa_nil))) (pg_sub (pv 9) (pv 11) set_list))))
    pss_nil)))
    (pss_one (ps_if (pt_not (pt_val (pe_call G__law_ring (hr.mono (by decide)) (by rfl) T.D__law_ring.g T.D__law_ring.F.kp T.D__law_ring.b .nil pass0 (pa_cons (pv 1) (pa_cons (pv 7) (pa_cons (pv 8) (pa_cons (pv 9) pa_nil)))))))
    (pss_one (ps_ret pe_bl))
    pss_nil)))))))
  (pss_one (ps_ret (pe_call G__law_ended (hr.mono (by decide)) (by rfl) T.D__law_ended.g T.D__law_ended.F.kp T.D__law_ended.b .nil pass0 (pa_cons (pv 1) (pa_cons (pv 7) (pa_cons (pv 8) (pa_cons (pv 9) pa_nil)))))))))))))))))))), ?_⟩
    try dsimp only [cxOf, Cx.nox, Cx.wish]
    refine qs_setP (evp_make (o := ns.getD (1 : Int).toNat 0 % 1000000001) (evl_cons (by walk_at "ev") evl_nil) (by omega) (by omega)) fun v H1 S1 hv => ?_
    obtain ⟨p0, w0, l0, d0, rfl, hB0, _⟩ := hv
    have hS1 := S1.sql hS
    refine qs_ifsetP (P := fun v H' => ∃ p lw ll lp o, v = .ref p ∧ BookAt K T.a_Book H' p lw ll lp ⟨o, [], [], []⟩ ∧ 0 ≤ o ∧ o ≤ 1000000000) (by walk_at "et") rfl
      (fun _ => (evp_make (o := 18 + ns.getD (1 : Int).toNat 0 % 13) (evl_cons (by walk_at "ev") evl_nil) (by omega) (by omega)).to fun v H' M ⟨p, lw, ll, lp, e, h, _⟩ => ⟨p, lw, ll, lp, _, e, h, by omega, by omega⟩)
      (fun _ H' M => ⟨p0, w0, l0, d0, _, rfl, hB0.sm M, by omega, by omega⟩) fun v H2 S2 hv => ?_
    obtain ⟨p, lw, ll, lp, o, rfl, hB, o0, o1⟩ := hv
    have hS2 := S2.sql hS1
    refine qs_setP (EvP.to (evp_lcL (K := K) (δ := List Int) (R := fun cs xs _ => xs = cs.map V.int ∧ cs.length ≤ 63) (pz := fun _ _ => true) (P := fun cs i y _ => y = .int (6 * cs.getD i 0))
      ((evp_slice (K := K) (lo := some 3) (hi := some 13) (ev_var rfl) (evo_some ev_c) (evo_some ev_c) hS2).to fun v H' M ⟨l, e, h⟩ => by
        obtain ⟨cs, e2, e3⟩ := cut_ints ns (some 3) (some 13)
        exact ⟨l, _, cs, e, h, e2, by omega⟩)
      (fun d xs H H' S h => h) (fun _ _ _ _ _ _ e => e) (fun d xs H' ⟨e, h⟩ => by rw [e, List.length_map]; omega)
      (fun cs xs i x H2 ⟨e, h⟩ hi M => ?_)) fun v H' M ⟨D, zs, xs, cs, e, nD, hD, ⟨ex, hcl⟩, hpz⟩ => (⟨D, (List.range cs.length).map fun i => 6 * cs.getD i 0, e, nD, by rw [hD, paired_map hpz, kept_all, ex, List.length_map, List.map_map]; rfl, by rw [List.length_map, List.length_range]; exact hcl⟩ : ∃ (D : Addr) (c0 : List Int), v = V.ref D ∧ H2 D = none ∧ H' D = some (HO.lst (c0.map V.int)) ∧ c0.length ≤ 63)) fun v H3 S3 hv => ?_
    · subst e
      rw [List.getElem?_map] at hi
      obtain ⟨n, hn, rfl⟩ := Option.map_eq_some_iff.mp hi
      have en : cs.getD i 0 = n := by rw [List.getD_eq_getElem?_getD, hn]; rfl
      rw [en]
      exact ⟨_, evg_name, rfl, evt_yes rfl, fun _ => (ev_opI ev_c (ev_var rfl) (.inl ⟨by decide, by decide⟩)).p⟩
    obtain ⟨cl, c0, rfl, ncl, hcl3, hc0⟩ := hv
    show tSeq _ _ _ [some (.ref a), some (.ref p), none, some (.ref cl), none, none, none, none, none, none, none, none] H3
    refine qs_setI ev_c fun many0 hm0 H4 S4 => ?_
    have hS4 := (S3.trans S4).sql hS2
    refine qs_ifsetI (by walk_at "et") rfl (fun _ => ev_c) fun many1 hm1 H5 S5 => ?_
    refine qs_setI ev_c fun size0 hs0 H6 S6 => ?_
    have hS6 := (S5.trans S6).sql hS4
    refine qs_ifsetI (by walk_at "et") rfl (fun _ => by walk_at "ev") fun size1 hs1 H7 S7 => ?_
    have hS7 := S7.sql hS6
    have size1b : 0 ≤ size1 ∧ size1 ≤ 200 := by
      rw [hs1, hs0]
      split <;> omega
    show tSeq _ _ _ [some (.ref a), some (.ref p), none, some (.ref cl), some (.int many1), some (.int size1), none, none, none, none, none, none] H7
    refine qs_ifQ (fun σ2 H2' => ∃ many size, σ2 = [some (.ref a), some (.ref p), none, some (.ref cl), some (.int many), some (.int size), none, none, none, none, none, none] ∧ 0 ≤ size ∧ size ≤ 200 ∧ Sm H7 H2') (by walk_at "et") (fun e H8 S8 D' kD _ => ?_) (fun e H8 S8 => ⟨many1, size1, rfl, size1b.1, size1b.2, S8⟩) fun σ2 H8 h8 => ?_
    · have hS8 := S8.sql hS7
      refine qs_setI (n := 160 + ns.getD (2 : Int).toNat 0 % 20) (by walk_at "ev") fun size2 hs2 H9 S9 => ?_
      refine q_setI ev_c fun many2 hm2 H10 S10 => kD _ _ ⟨many2, size2, rfl, by omega, by omega, S8.trans (S9.trans S10)⟩
    obtain ⟨many, size, rfl, sz0, sz1, S8⟩ := h8
    have M38 := S4.trans (S5.trans (S6.trans (S7.trans S8)))
    have M28 := S3.trans M38
    show tSeq (tFor _ _ _) _ _ _ _
    refine q_seq (q_forR (D := { nx := _, rt := _ }) (j := size) (fun i σ' H' => i ≤ 200 ∧ ∃ y6 cs, σ' = [some (.ref a), some (.ref p), none, some (.ref cl), some (.int many), some (.int size), y6, none, none, none, none, none] ∧ Sm H2 H' ∧ H' cl = some (.lst (cs.map V.int)) ∧ cs.length ≤ 63 + i)
      (evl_cons (ev_var rfl) evl_nil) (by omega) (fun H9 S9 => ⟨by omega, none, c0, rfl, M28.trans S9, (M38.trans S9).lst hcl3, by omega⟩) (fun i σ' H' hi hP => ?_) (fun σ' H' hP => ?_))
    · obtain ⟨_, y6, cs, rfl, M, hcl, hcs⟩ := hP
      have hS' := M.sql hS2
      have hi2 : i < 200 := by omega
      refine q_app (P := fun y _ => y = .int (6 * (ns.getD (2 : Int).toNat 0 + 8191 * (i : Int)))) (ev_var rfl) hcl (by rw [List.length_map]; exact Nat.lt_of_lt_of_le (show cs.length < 1000 by omega) (by decide)) (Ev.p (ev_opI ev_c (ev_opI0 (by walk_at "ev") (ev_opI ev_c (ev_var rfl) (.inl ⟨by decide, by decide⟩))) (.inl ⟨by decide, by decide⟩))) fun y H9 S9 hy h9 => ?_
      subst hy
      refine ⟨by omega, _, cs ++ [6 * (ns.getD (2 : Int).toNat 0 + 8191 * (i : Int))], rfl, (M.trans S9).mut ncl, by rw [upd_same, List.map_append]; rfl, ?_⟩
      rw [List.length_append]
      show cs.length + 1 ≤ 63 + (i + 1)
      omega
    · obtain ⟨_, y6, cs, rfl, M, hcl, hcs⟩ := hP
      have hcs : cs.length ≤ 300 := by omega
      dsimp only
      refine qs_setP evp_lst0 fun v H9 S9 hv => ?_
      obtain ⟨ca, rfl, nca, hca⟩ := hv
      refine qs_setP evp_lst0 fun v H10 S10 hv => ?_
      obtain ⟨da, rfl, nda, hda⟩ := hv
      refine qs_setP evp_lst0 fun v H11 S11 hv => ?_
      obtain ⟨dr, rfl, ndr, hdr⟩ := hv
      have M911 := S10.trans S11
      have M11 := S9.trans M911
      have hB' := hB.sm M
      have st0 : St14 K T.a_Book H11 ⟨p, lw, ll, lp, ca, da, dr⟩ ⟨o, [], [], []⟩ [] [] :=
        ⟨hB'.sm M11, Book.ok0 o0 o1, ⟨[], M911.lst hca, .nil⟩, S11.lst hda, hdr, rfl, rfl, (fun k hk => absurd hk (Nat.not_lt_zero k)), rfl,
          fun m => hB'.there _ m nca, fun m => (hB'.sm S9).there _ m nda, fun m => (hB'.sm (S9.trans S10)).there _ m ndr,
          (fun e => by rw [show ca = da from e] at hca; rw [hca] at nda; cases nda), (fun e => by rw [show ca = dr from e] at hca; rw [S10.lst hca] at ndr; cases ndr), fun e => by rw [show da = dr from e] at hda; rw [hda] at ndr; cases ndr⟩
      have MM : Sm H H11 := S1.trans (S2.trans (M.trans M11))
      have t10 := MM.tabG hT1
      have t20 := MM.tabG hT2
      have hS11 := MM.sql hS
      have hcl11 := M11.lst hcl
      show tSeq (tFor _ _ _) _ _ [some (.ref a), some (.ref p), none, some (.ref cl), some (.int many), some (.int size), y6, some (.ref ca), some (.ref da), some (.ref dr), none, none] H11
      generalize hSd : (⟨p, lw, ll, lp, ca, da, dr⟩ : S14) = S at st0
      have e1 : S.p = p := by rw [← hSd]
      have e2 : S.ca = ca := by rw [← hSd]
      have e3 : S.da = da := by rw [← hSd]
      have e4 : S.dr = dr := by rw [← hSd]
      rw [← e1, ← e2, ← e3, ← e4]
      clear hSd e1 e2 e3 e4 hca hda hdr nca nda ndr hB' hB
      refine q_seq (q_forP (R := fun lx xs H' => ∃ ds : List Int, xs = ds.map V.int ∧ ds.length ≤ 400 ∧ ds ≠ [] ∧ H' lx = some (.lst xs))
        (EvP.to (evp_cat (Pa := fun xs _ => ∃ ds : List Int, xs = ds.map V.int ∧ ds.length ≤ 370) (Pb := fun xs _ => xs = [V.int 5]) (fun _ _ _ _ e => e) (fun _ _ _ _ e => e) (fun xs ys H' ⟨ds, e1, h1⟩ e2 => by rw [e1, e2, List.length_map]; exact Nat.le_trans (show ds.length + 1 ≤ 400 by omega) (by decide))
          (EvP.to (evp_cat (Pa := fun xs _ => xs = cs.map V.int) (Pb := fun xs _ => ∃ ds : List Int, xs = ds.map V.int ∧ ds.length ≤ 63) (fun _ _ _ _ e => e) (fun _ _ _ _ e => e) (fun xs ys H' e1 ⟨ds, e2, h2⟩ => by rw [e1, e2, List.length_map, List.length_map]; exact Nat.le_trans (show cs.length + ds.length ≤ 400 by omega) (by decide))
            ((ev_var rfl).pp fun H' N => ⟨cl, _, rfl, N.lst hcl11, rfl⟩)
            ((evp_sliceN (K := K) (lo := some 13) (hi := some (13 + many)) (ev_var rfl) (evo_some ev_c) (evo_some (ev_opI0 ev_c (ev_var rfl))) hS11).to fun v H' N ⟨l, e, _, h⟩ => by
              obtain ⟨ds, e2, e3⟩ := cut_ints ns (some 13) (some (13 + many))
              exact ⟨l, _, e, h, ds, e2, by omega⟩)) fun v H' N ⟨l, xs, e, h, ys, zs, e2, e3, ds, e4, h4⟩ => ⟨l, xs, e, h, cs ++ ds, by rw [e2, e3, e4, List.map_append], by rw [List.length_append]; omega⟩)
          (EvP.to (evp_lstN (evl_cons ev_c evl_nil) (by show 1 ≤ sizeLine; decide)) fun v H' N ⟨l, e, _, h⟩ => ⟨l, _, e, h, rfl⟩)) fun v H' N ⟨l, xs, e, h, ys, zs, e2, ⟨ds, e3, h3⟩, e4⟩ => ⟨l, xs, e, .inl (.inl h), ds ++ [5], by rw [e2, e3, e4, List.map_append]; rfl, by rw [List.length_append]; show ds.length + 1 ≤ 400; omega, by simp, h⟩) fun lx xs H12 S12 hlx ⟨ds, exs, hds, hne, hlx12⟩ => ?_)
      subst exs
      have st12 := st0.sm S12
      have nlx : lx ∉ S.fp := fun m => by
        rcases st14_kind0 st12 lx m with ⟨C, dx, fs, e⟩ | e
        · rw [hlx12] at e; cases e
        · rw [hlx12] at e
          exact hne (List.map_eq_nil_iff.mp (HO.lst.inj (Option.some.inj e)))
      refine q_forL (D := { nx := _, rt := _ }) (a := lx) (xs := ds.map V.int) (fun i σ' H' => ∃ B dl dp y2 y10 y11, σ' = [some (.ref a), some (.ref S.p), y2, some (.ref cl), some (.int many), some (.int size), y6, some (.ref S.ca), some (.ref S.da), some (.ref S.dr), y10, y11] ∧ St14 K T.a_Book H' S B dl dp ∧ B.n ≤ i ∧ H' lx = some (.lst (ds.map V.int)) ∧ TabG H' T.k_wanted.2 ∧ TabG H' T.k_offered.2)
        ev_c hlx (fun H13 S13 => ⟨_, [], [], none, none, none, rfl, st12.sm S13, Nat.le_refl 0, S13.lst hlx12, S13.tabG (S12.tabG t10), S13.tabG (S12.tabG t20)⟩) (fun i σ' H' _ hP => ?_) (fun i x σ' H' hx hP => ?_) (fun σ' H' hP => ?_)
      · obtain ⟨_, _, _, _, _, _, _, _, _, h, _⟩ := hP
        exact .inl (.inl h)
      · obtain ⟨B, dl, dp, y2, y10, y11, rfl, st, hn, hlx', t1, t2⟩ := hP
        have hi : i < ds.length := by
          have := (List.getElem?_eq_some_iff.mp hx).1
          rw [List.length_map] at this
          exact this
        rw [List.getElem?_map, List.getElem?_eq_getElem hi] at hx
        have hx := (Option.some.inj hx).symm
        subst hx
        generalize ds[i] = c
        have hn1 : B.n < 1000 := by omega
        have hL := st.ok.len
        have hsz : ∀ m : Nat, m = B.n → m < sizeLine := fun m e => Nat.lt_of_lt_of_le (show m < 1001 by omega) (by decide)
        refine q_if (by walk_at "et") (fun e H13 S13 => ?_) (fun e H13 S13 => ?_)
        · -- a wish comes
          have s13 := st.sm S13
          obtain ⟨xs, hxs, hws⟩ := s13.w
          refine q_seq (q_app (P := fun y H' => ∃ w, WishV K H' y w ∧ w.Good) (ev_var rfl) hxs (hsz _ hws.length) (evp_wishBy (c := c / 6) (by walk_at "ev")) fun y H14 S14 hy h14 => ?_)
          obtain ⟨w, ⟨t, rfl, ht⟩, hg⟩ := hy
          have ne4 := st.n4
          have ne5 := st.n5
          have ne6 := st.n6
          have F14 : Fr K [S.ca] [S.ca] H13 (upd H14 S.ca (.lst (xs ++ [.ref t]))) := S14.fr.trans (Fr.put List.mem_cons_self h14)
          have ca14 : upd H14 S.ca (.lst (xs ++ [.ref t])) S.ca = some (.lst (xs ++ [.ref t])) := upd_same
          have ws14 : Wishes K (upd H14 S.ca (.lst (xs ++ [.ref t]))) (xs ++ [.ref t]) (B.ws ++ [w]) := ((hws.sm S14).snoc ⟨t, rfl, ht⟩).tk (tk_lst h14)
          have w14 : WishV K (upd H14 S.ca (.lst (xs ++ [.ref t]))) (.ref t) w := WishV.tk (tk_lst h14) ⟨t, rfl, ht⟩
          generalize upd H14 S.ca (.lst (xs ++ [.ref t])) = H15 at F14 ca14 ws14 w14
          dsimp only
          have da15 : H15 S.da = some (.lst (dl.map V.int)) := F14.e.lst (fun m => ne4 (List.mem_singleton.mp m).symm) s13.da
          have dr15 : H15 S.dr = some (.lst (dp.map V.int)) := F14.e.lst (fun m => ne5 (List.mem_singleton.mp m).symm) s13.dr
          have lx15 := F14.e.lst (fun m => nlx (by rw [List.mem_singleton.mp m]; exact My.S14.in_ca)) (S13.lst hlx')
          have b15 := s13.b.fr F14 fun b hb m => st.n1 (by rw [← List.mem_singleton.mp m]; exact hb)
          refine q_seq (q_app (P := fun y _ => y = .int 0) (ev_var rfl) da15 (by rw [List.length_map]; exact hsz _ st.l1) ev_c.p fun y H16 S16 hy h16 => ?_)
          subst hy
          rw [show dl.map V.int ++ [V.int 0] = (dl ++ [0]).map V.int by rw [List.map_append]; rfl]
          have F16 : Fr K [S.da] [S.da] H15 (upd H16 S.da (.lst ((dl ++ [0]).map V.int))) := S16.fr.trans (Fr.put List.mem_cons_self h16)
          have da16 : upd H16 S.da (.lst ((dl ++ [0]).map V.int)) S.da = some (.lst ((dl ++ [0]).map V.int)) := upd_same
          generalize upd H16 S.da (.lst ((dl ++ [0]).map V.int)) = H17 at F16 da16
          dsimp only
          have dr17 : H17 S.dr = some (.lst (dp.map V.int)) := F16.e.lst (fun m => ne6 (List.mem_singleton.mp m).symm) dr15
          refine q_seq (q_app (P := fun y _ => y = .int 0) (ev_var rfl) dr17 (by rw [List.length_map]; exact hsz _ st.l2) ev_c.p fun y H18 S18 hy h18 => ?_)
          subst hy
          rw [show dp.map V.int ++ [V.int 0] = (dp ++ [0]).map V.int by rw [List.map_append]; rfl]
          have F18 : Fr K [S.dr] [S.dr] H17 (upd H18 S.dr (.lst ((dp ++ [0]).map V.int))) := S18.fr.trans (Fr.put List.mem_cons_self h18)
          have dr18 : upd H18 S.dr (.lst ((dp ++ [0]).map V.int)) S.dr = some (.lst ((dp ++ [0]).map V.int)) := upd_same
          generalize upd H18 S.dr (.lst ((dp ++ [0]).map V.int)) = H19 at F18 dr18
          dsimp only
          have F1519 : Fr K [S.da, S.dr] [S.da, S.dr] H15 H19 := (F16.weak fun a h => by rw [List.mem_singleton.mp h]; simp).trans (F18.weak fun a h => by rw [List.mem_singleton.mp h]; simp)
          have da19 : H19 S.da = some (.lst ((dl ++ [0]).map V.int)) := F18.e.lst (fun m => ne6 (List.mem_singleton.mp m)) da16
          have ca19 : H19 S.ca = some (.lst (xs ++ [.ref t])) := F1519.e.lst (fun m => by rcases List.mem_cons.mp m with z | z; exact ne4 z; exact ne5 (List.mem_singleton.mp z)) ca14
          have ws19 := ws14.tk F1519.t.tk
          have w19 := WishV.tk F1519.t.tk w14
          have b19 := b15.fr F1519 fun b hb m => by
            rcases List.mem_cons.mp m with z | z
            · exact st.n2 (by rw [← z]; exact hb)
            · exact st.n3 (by rw [← List.mem_singleton.mp z]; exact hb)
          have lx19 := F1519.e.lst (fun m => nlx (by rcases List.mem_cons.mp m with z | z; rw [z]; exact My.S14.in_da; rw [List.mem_singleton.mp z]; exact My.S14.in_dr)) lx15
          have hxl : (xs ++ [V.ref t]).length = B.n + 1 := by rw [List.length_append, hws.length]; rfl
          have F1319 : Fr K S.fp S.fp H13 H19 := (F14.weak fun a h => by rw [List.mem_singleton.mp h]; exact My.S14.in_ca).trans (F1519.weak fun a h => by rcases List.mem_cons.mp h with z | z; rw [z]; exact My.S14.in_da; rw [List.mem_singleton.mp z]; exact My.S14.in_dr)
          have nt1 := s13.notab (S13.tabG t1)
          have nt2 := s13.notab (S13.tabG t2)
          obtain ⟨dx, hp19⟩ := b19.ob
          obtain ⟨t', et, htw⟩ := w19
          refine q_ifM (ev_var rfl) hp19 bf_no (evl_cons (ev_ixL (v := .ref t) (i := (((xs ++ [V.ref t]).length : Nat) : Int) - 1) (ev_var rfl) (ev_opI0 (ev_len (ev_var rfl) (.inl (.inl ca19))) ev_c) (.inl (.inl ca19)) (at_of (j := B.n) (by rw [hxl]; omega) (by rw [List.getElem?_append_right (Nat.le_of_eq hws.length), hws.length]; simp))) evl_nil) fun H20 S20 Q2 k2 => ⟨S.p, S.lw, S.ll, S.lp, B, .ref t, rfl, b19.sm S20, hL, by omega, .inr ⟨w, ⟨t', et, S20.sqt htw⟩, hg, fun H21 F21 b21 => k2 _ H21 ?_⟩⟩
          have ca21 : H21 S.ca = some (.lst (xs ++ [.ref t])) := F21.e.lst st.n1 (S20.lst ca19)
          refine (ev_opI0 (ev_len (ev_var rfl) (.inl (.inl ca21))) ev_c) H21 (Sm.refl _) _ fun H22 S22 => ⟨rfl, false, ?_, ?_⟩
          · have : V.int ((B.n : Nat) : Int) = V.int (((xs ++ [V.ref t]).length : Nat) - 1) := by rw [hxl]; congr 1; omega
            rw [decide_eq_true this]
            rfl
          · rw [if_neg Bool.false_ne_true]
            refine q_next ⟨B.add w, dl ++ [0], dp ++ [0], _, _, _, rfl, St14.sm S22 ⟨b21, st.ok.add hg, ⟨_, ca21, (ws19.sm S20).tk F21.t.tk⟩, F21.e.lst st.n2 (S20.lst da19), F21.e.lst st.n3 (S20.lst dr18), ?_, ?_, fun k hk => ?_, by rw [money_add hL]; exact st.mo, st.n1, st.n2, st.n3, st.n4, st.n5, st.n6⟩, ?_, S22.lst (F21.e.lst (fun m => nlx (My.S14.in_b m)) (S20.lst lx19)), S22.tabG (F21.e.tabG (fun m => nt1 (My.S14.in_b m)) (S20.tabG (F1319.e.tabG nt1 (S13.tabG t1)))), S22.tabG (F21.e.tabG (fun m => nt2 (My.S14.in_b m)) (S20.tabG (F1319.e.tabG nt2 (S13.tabG t2))))⟩
            · show _ = (B.ws ++ [w]).length
              rw [List.length_append, List.length_append, st.l1]
              rfl
            · show _ = (B.ws ++ [w]).length
              rw [List.length_append, List.length_append, st.l2]
              rfl
            · have hk' : k < B.n + 1 := by
                have : k < (B.ws ++ [w]).length := hk
                rw [List.length_append] at this
                exact this
              by_cases e : k < B.n
              · have a1 : (B.add w).lf k = B.lf k := getD_app_lt (by rw [hL.l]; exact e)
                have a2 : amtAt (B.ws ++ [w]) k = amtAt B.ws k := by
                  unfold amtAt wAt
                  rw [List.getD_eq_getElem?_getD, List.getD_eq_getElem?_getD, List.getElem?_append_left (show k < B.ws.length from e)]
                show (B.add w).lf k = amtAt (B.ws ++ [w]) k - _ - _
                rw [a1, a2, getD_app_lt (by rw [st.l1]; exact e), getD_app_lt (by rw [st.l2]; exact e)]
                exact st.lf k e
              · have e : k = B.n := by omega
                subst e
                have a1 : (B.add w).lf B.n = w.amt := getD_app_at hL.l
                have a2 : amtAt (B.ws ++ [w]) B.n = w.amt := by
                  unfold amtAt wAt
                  rw [List.getD_eq_getElem?_getD, List.getElem?_append_right (Nat.le_refl _), show B.n - B.ws.length = 0 from Nat.sub_self _]
                  rfl
                show (B.add w).lf B.n = amtAt (B.ws ++ [w]) B.n - _ - _
                rw [a1, a2, getD_app_at st.l1, getD_app_at st.l2]
                omega
            · show (B.ws ++ [w]).length ≤ i + 1
              rw [List.length_append]
              show B.n + 1 ≤ i + 1
              omega
        · refine q_if (by walk_at "et") (fun e2 H14 S14 => ?_) (fun e2 H14 S14 => ?_)
          · -- one is dropped
            have M14 := S13.trans S14
            have s14 := st.sm M14
            refine qs_setP (evp_standing (ev_var rfl) s14.b hL (by omega)) fun v H15 S15 hv => ?_
            obtain ⟨sl, ys, rfl, _, hsl, hrows⟩ := hv
            have M15 := M14.trans S15
            have s15 := st.sm M15
            have hyl := hrows.len
            refine q_if (b := decide (0 < ((ys.length : Nat) : Int))) (evt_test (ev_opI0 (ev_len (ev_var rfl) (.inl (.inl hsl))) ev_c)) (fun e3 H16 S16 => ?_) (fun e3 H16 S16 => q_next ?_)
            · have hy0 : 0 < ys.length := by have := of_decide_eq_true e3; omega
              have j0 : 0 ≤ c / 6 % (ys.length : Int) := Int.emod_nonneg _ (by omega)
              have j1 : c / 6 % (ys.length : Int) < (ys.length : Int) := Int.emod_lt_of_pos _ (by omega)
              obtain ⟨j, hj⟩ : ∃ j : Nat, c / 6 % (ys.length : Int) = (j : Int) := ⟨(c / 6 % (ys.length : Int)).toNat, by omega⟩
              have hjl : j < ys.length := by omega
              obtain ⟨hjn, t, z, ey, ht, hz, _⟩ := RL.at hrows (List.getElem?_eq_getElem hjl)
              have hk := num_at hjn
              have hsl16 := S16.lst hsl
              refine qs_set (v := .int ((B.num j : Nat) : Int)) (ev_ixT (ev_ixL (v := .ref t) (i := c / 6 % (ys.length : Int)) (ev_var rfl) (ev_opI (ev_opI (ev_var rfl) ev_c ⟨by decide, by decide⟩) (ev_len (ev_var rfl) (.inl (.inl hsl16))) (by omega)) (.inl (.inl hsl16)) (at_of (j := j) hj (by rw [List.getElem?_eq_getElem hjl, ey]))) ev_c (.inl (.inl (S16.tup ht))) rfl) fun H17 S17 => ?_
              have M17 := M15.trans (S16.trans S17)
              have s17 := st.sm M17
              obtain ⟨dx, hp17⟩ := s17.b.ob
              have hdl : B.num j < dp.length := by rw [st.l2]; exact hk.1
              refine q_putM (ev_ixN (ev_var rfl) (ev_var rfl) (.inl (.inl s17.dr)) hdl) (ev_var rfl) hp17 bf_no (evl_cons (ev_var rfl) evl_nil) fun H18 S18 Q2 k2 => ⟨S.p, S.lw, S.ll, S.lp, B, _, rfl, s17.b.sm S18, hL, kn_int, .inr ⟨B.num j, rfl, hk.1, by omega, fun H19 F19 b19 => k2 _ H19 ?_⟩⟩
              have dr19 : H19 S.dr = some (.lst (dp.map V.int)) := F19.e.lst st.n3 (S18.lst s17.dr)
              refine ⟨_, _, rfl, rfl, st_put (ev_var rfl) (ev_var rfl) dr19 (j := B.num j) (by rw [List.length_map]; exact ixN_nat hdl) fun H20 S20 h20 => ?_⟩
              rw [show (dp.map V.int).set (B.num j) (.int (dp.getD (B.num j) 0 + B.lf (B.num j))) = (dp.set (B.num j) (dp.getD (B.num j) 0 + B.lf (B.num j))).map V.int from (List.map_set ..).symm]
              have F20 : Fr K [S.dr] [S.dr] H19 (upd H20 S.dr (.lst ((dp.set (B.num j) (dp.getD (B.num j) 0 + B.lf (B.num j))).map V.int))) := S20.fr.trans (Fr.put List.mem_cons_self h20)
              have dr20 : upd H20 S.dr (.lst ((dp.set (B.num j) (dp.getD (B.num j) 0 + B.lf (B.num j))).map V.int)) S.dr = some (.lst ((dp.set (B.num j) (dp.getD (B.num j) 0 + B.lf (B.num j))).map V.int)) := upd_same
              generalize upd H20 S.dr (.lst ((dp.set (B.num j) (dp.getD (B.num j) 0 + B.lf (B.num j))).map V.int)) = H21 at F20 dr20
              obtain ⟨xs, hxs, hws⟩ := s17.w
              have Fall : Fr K S.fp S.fp H' H21 := ((M17.trans S18).fr.trans (F19.weak fun a h => My.S14.in_b h)).trans (F20.weak fun a h => by rw [List.mem_singleton.mp h]; exact My.S14.in_dr)
              have one : ∀ {a : Addr}, a ≠ S.dr → a ∉ [S.dr] := fun h m => h (List.mem_singleton.mp m)
              refine ⟨B.drop (B.num j), dl, _, _, _, _, rfl, ⟨b19.fr F20 fun b hb m => st.n3 (by rw [← List.mem_singleton.mp m]; exact hb), st.ok.drop hk.1, ⟨xs, F20.e.lst (one st.n5) (F19.e.lst st.n1 (S18.lst hxs)), (((hws.sm S18).tk F19.t.tk).tk F20.t.tk)⟩, F20.e.lst (one st.n6) (F19.e.lst st.n2 (S18.lst s17.da)), dr20, st.l1, by rw [List.length_set]; exact st.l2, fun k hkn => ?_, st.mo, st.n1, st.n2, st.n3, st.n4, st.n5, st.n6⟩, Nat.le_succ_of_le hn, Fall.e.lst nlx hlx', Fall.e.tabG (st.notab t1) t1, Fall.e.tabG (st.notab t2) t2⟩
              have h0 := st.lf k hkn
              show (B.drop (B.num j)).lf k = amtAt B.ws k - _ - _
              rw [drop_lf hL hk.1, getD_set hdl]
              by_cases ek : k = B.num j
              · subst ek
                rw [if_pos rfl, if_pos rfl]
                omega
              · rw [if_neg ek, if_neg ek]
                exact h0
            · exact ⟨B, dl, dp, _, _, _, rfl, s15.sm S16, Nat.le_succ_of_le hn, (M15.trans S16).lst hlx', (M15.trans S16).tabG t1, (M15.trans S16).tabG t2⟩
          · -- the bell rings
            have M14 := S13.trans S14
            have s14 := st.sm M14
            refine q_ifNotC (evl_cons (ev_var rfl) (evl_cons (ev_var rfl) (evl_cons (ev_var rfl) (evl_cons (ev_var rfl) evl_nil)))) fun H15 S15 Q2 k2 => ⟨S, B, dl, dp, rfl, s14.sm S15, by omega, (M14.trans S15).tabG t1, (M14.trans S15).tabG t2, fun H16 B' dl' F16 st16 hn16 => k2 H16 (q_next ?_)⟩
            have F : Fr K S.fp S.fp H' H16 := Fr.ahead (M14.trans S15) F16
            exact ⟨B', dl', dp, _, _, _, rfl, st16, by omega, F.e.lst nlx hlx', F.e.tabG (st.notab t1) t1, F.e.tabG (st.notab t2) t2⟩
      · obtain ⟨B, dl, dp, y2, y10, y11, rfl, st, hn, hlx', t1, t2⟩ := hP
        rw [List.length_map] at hn
        dsimp only
        exact q_ret (v := .bl true) (ev_call (evl_cons (ev_var rfl) (evl_cons (ev_var rfl) (evl_cons (ev_var rfl) (evl_cons (ev_var rfl) evl_nil)))) fun H13 S13 Q2 k2 => ⟨S, B, dl, dp, rfl, st.sm S13, by omega, k2⟩) fun H13 S13 => q H13

end
def mkTxt {K : PySem.W.Frag} {h : Heap} {mg : Str → Option Value} (X : K.In h) (G : h.Ns mainGlobals mg)
    {C0 : Addr}
    {C1 : Addr}
    {C2 : Addr}
    {C3 : Addr}
    {C4 : Addr}
    {C5 : Addr}
    {C6 : Addr}
    {f0 : Addr} {od0 an0 : Option Addr} {sl0 : Array (Option Value)} {oc0 kV0 dc0 pm0 ct0 : Value} {cd0 : Value}
    {f1 : Addr} {od1 an1 : Option Addr} {sl1 : Array (Option Value)} {oc1 kV1 dc1 pm1 ct1 : Value} {cd1 : Value}
    {f2 : Addr} {od2 an2 : Option Addr} {sl2 : Array (Option Value)} {oc2 kV2 dc2 pm2 ct2 : Value} {cd2 : Value}
    {f3 : Addr} {od3 an3 : Option Addr} {sl3 : Array (Option Value)} {oc3 kV3 dc3 pm3 ct3 : Value} {cc3 cp3 : Addr}
    {f4 : Addr} {od4 an4 : Option Addr} {sl4 : Array (Option Value)} {oc4 kV4 dc4 pm4 ct4 : Value} {cc4 cp4 : Addr}
    {f5 : Addr} {od5 an5 : Option Addr} {sl5 : Array (Option Value)} {oc5 kV5 dc5 pm5 ct5 : Value} {cd5 : Value}
    {f6 : Addr} {od6 an6 : Option Addr} {sl6 : Array (Option Value)} {oc6 kV6 dc6 pm6 ct6 : Value} {cd6 : Value}
    {f7 : Addr} {od7 an7 : Option Addr} {sl7 : Array (Option Value)} {oc7 kV7 dc7 pm7 ct7 : Value} {cd7 : Value}
    {f8 : Addr} {od8 an8 : Option Addr} {sl8 : Array (Option Value)} {oc8 kV8 dc8 pm8 ct8 : Value} {cd8 : Value}
    {f9 : Addr} {od9 an9 : Option Addr} {sl9 : Array (Option Value)} {oc9 kV9 dc9 pm9 ct9 : Value} {cd9 : Value}
    {f10 : Addr} {od10 an10 : Option Addr} {sl10 : Array (Option Value)} {oc10 kV10 dc10 pm10 ct10 : Value} {cd10 : Value}
    {f11 : Addr} {od11 an11 : Option Addr} {sl11 : Array (Option Value)} {oc11 kV11 dc11 pm11 ct11 : Value} {cd11 : Value}
    {f12 : Addr} {od12 an12 : Option Addr} {sl12 : Array (Option Value)} {oc12 kV12 dc12 pm12 ct12 : Value} {cd12 : Value}
    {f13 : Addr} {od13 an13 : Option Addr} {sl13 : Array (Option Value)} {oc13 kV13 dc13 pm13 ct13 : Value} {cd13 : Value}
    {f14 : Addr} {od14 an14 : Option Addr} {sl14 : Array (Option Value)} {oc14 kV14 dc14 pm14 ct14 : Value} {cd14 : Value}
    {f15 : Addr} {od15 an15 : Option Addr} {sl15 : Array (Option Value)} {oc15 kV15 dc15 pm15 ct15 : Value} {cd15 : Value}
    {f16 : Addr} {od16 an16 : Option Addr} {sl16 : Array (Option Value)} {oc16 kV16 dc16 pm16 ct16 : Value} {cd16 : Value}
    {f17 : Addr} {od17 an17 : Option Addr} {sl17 : Array (Option Value)} {oc17 kV17 dc17 pm17 ct17 : Value} {cd17 : Value}
    {f18 : Addr} {od18 an18 : Option Addr} {sl18 : Array (Option Value)} {oc18 kV18 dc18 pm18 ct18 : Value} {cd18 : Value}
    {f19 : Addr} {od19 an19 : Option Addr} {sl19 : Array (Option Value)} {oc19 kV19 dc19 pm19 ct19 : Value} {cd19 : Value}
    {f20 : Addr} {od20 an20 : Option Addr} {sl20 : Array (Option Value)} {oc20 kV20 dc20 pm20 ct20 : Value} {cd20 : Value}
    {f21 : Addr} {od21 an21 : Option Addr} {sl21 : Array (Option Value)} {oc21 kV21 dc21 pm21 ct21 : Value} {cd21 : Value}
    {f22 : Addr} {od22 an22 : Option Addr} {sl22 : Array (Option Value)} {oc22 kV22 dc22 pm22 ct22 : Value} {cd22 : Value}
    {f23 : Addr} {od23 an23 : Option Addr} {sl23 : Array (Option Value)} {oc23 kV23 dc23 pm23 ct23 : Value} {cd23 : Value}
    {f24 : Addr} {od24 an24 : Option Addr} {sl24 : Array (Option Value)} {oc24 kV24 dc24 pm24 ct24 : Value} {cd24 : Value}
    {f25 : Addr} {od25 an25 : Option Addr} {sl25 : Array (Option Value)} {oc25 kV25 dc25 pm25 ct25 : Value} {cd25 : Value}
    {f26 : Addr} {od26 an26 : Option Addr} {sl26 : Array (Option Value)} {oc26 kV26 dc26 pm26 ct26 : Value} {cd26 : Value}
    {f27 : Addr} {od27 an27 : Option Addr} {sl27 : Array (Option Value)} {oc27 kV27 dc27 pm27 ct27 : Value} {cd27 : Value}
    {f28 : Addr} {od28 an28 : Option Addr} {sl28 : Array (Option Value)} {oc28 kV28 dc28 pm28 ct28 : Value} {cd28 : Value}
    {f29 : Addr} {od29 an29 : Option Addr} {sl29 : Array (Option Value)} {oc29 kV29 dc29 pm29 ct29 : Value} {cd29 : Value}
    {f30 : Addr} {od30 an30 : Option Addr} {sl30 : Array (Option Value)} {oc30 kV30 dc30 pm30 ct30 : Value} {cd30 : Value}
    {f31 : Addr} {od31 an31 : Option Addr} {sl31 : Array (Option Value)} {oc31 kV31 dc31 pm31 ct31 : Value} {cd31 : Value}
    {f32 : Addr} {od32 an32 : Option Addr} {sl32 : Array (Option Value)} {oc32 kV32 dc32 pm32 ct32 : Value} {cd32 : Value}
    {f33 : Addr} {od33 an33 : Option Addr} {sl33 : Array (Option Value)} {oc33 kV33 dc33 pm33 ct33 : Value} {cd33 : Value}
    {f34 : Addr} {od34 an34 : Option Addr} {sl34 : Array (Option Value)} {oc34 kV34 dc34 pm34 ct34 : Value} {cd34 : Value}
    {f35 : Addr} {od35 an35 : Option Addr} {sl35 : Array (Option Value)} {oc35 kV35 dc35 pm35 ct35 : Value} {cd35 : Value}
    {f36 : Addr} {od36 an36 : Option Addr} {sl36 : Array (Option Value)} {oc36 kV36 dc36 pm36 ct36 : Value} {cd36 : Value}
    {f37 : Addr} {od37 an37 : Option Addr} {sl37 : Array (Option Value)} {oc37 kV37 dc37 pm37 ct37 : Value} {cd37 : Value}
    {f38 : Addr} {od38 an38 : Option Addr} {sl38 : Array (Option Value)} {oc38 kV38 dc38 pm38 ct38 : Value} {cd38 : Value}
    {f39 : Addr} {od39 an39 : Option Addr} {sl39 : Array (Option Value)} {oc39 kV39 dc39 pm39 ct39 : Value} {cd39 : Value}
    {f40 : Addr} {od40 an40 : Option Addr} {sl40 : Array (Option Value)} {oc40 kV40 dc40 pm40 ct40 : Value} {cd40 : Value}
    {f41 : Addr} {od41 an41 : Option Addr} {sl41 : Array (Option Value)} {oc41 kV41 dc41 pm41 ct41 : Value} {cd41 : Value}
    {f42 : Addr} {od42 an42 : Option Addr} {sl42 : Array (Option Value)} {oc42 kV42 dc42 pm42 ct42 : Value} {cd42 : Value}
    {tTOP : Tok}
    {tMOST : Tok}
    (ggC0 : PySem.W.nsIn K mainGlobals "BidError" = some (some (.ref C0)))
    (ggC1 : PySem.W.nsIn K mainGlobals "BadWish" = some (some (.ref C1)))
    (ggC2 : PySem.W.nsIn K mainGlobals "BadPrice" = some (some (.ref C2)))
    (ggC3 : PySem.W.nsIn K mainGlobals "BadPieces" = some (some (.ref C3)))
    (ggC4 : PySem.W.nsIn K mainGlobals "Uneven" = some (some (.ref C4)))
    (ggC5 : PySem.W.nsIn K mainGlobals "NoSuch" = some (some (.ref C5)))
    (ggC6 : PySem.W.nsIn K mainGlobals "Book" = some (some (.ref C6)))
    (pgC6 : PySem.W.plainGet K C6 Str.empty = true)
    (hdC6 : PySem.W.hasDictIn K C6 = true)
    (poC6 : PySem.W.plainOver K C6 = true)
    (saC6 : PySem.W.findIn K (.ref C6) "__setattr__" = some (some (.builtin "object.__setattr__")))
    (mkC6 : PySem.W.makesIn K C6 = true)
    (kcC6 : PySem.W.keepIn K (.ref C6) = true)
    (na0C6 : PySem.W.findIn K (.ref C6) "price" = some none)
    (na1C6 : PySem.W.findIn K (.ref C6) "_wishes" = some none)
    (na2C6 : PySem.W.findIn K (.ref C6) "_left" = some none)
    (na3C6 : PySem.W.findIn K (.ref C6) "_paid" = some none)
    (kpC1 : PySem.W.keepIn K (.ref C1) = true)
    (exC1 : PySem.W.excIn K C1 [.type "ValueError", .type "Exception", .type "BaseException", .type "object"] "ValueError.__new__" = true)
    (beC1 : PySem.W.subIn K (.ref C1) (.type "BaseException") = some true)
    (tyC1 : PySem.W.typeIn K (.ref C1) = some (.type "type"))
    (hgC1 : PySem.W.findIn K (.ref C1) "__getattribute__" = some (some (.builtin "BaseException.__getattribute__")))
    (hkC1 : PySem.W.findIn K (.ref C1) "__getattr__" = some none)
    (hdC1 : PySem.W.hasDictIn K C1 = true)
    (haC1 : PySem.W.findIn K (.ref C1) "__class__" = some (some (.builtin "object.__class__")))
    (hnC1 : PySem.W.specialIn K (.builtin "object.__class__") "__get__" = some (some (.builtin "getset_descriptor.__get__")))
    (htC1 : PySem.W.takesIn K (.builtin "object.__class__") = some true)
    (hmC1 : PySem.W.mroIn K C1 (.type "object") = some true)
    (vvC1 : PySem.W.kitOne K (.ref C1) (.type "ValueError") = some true)
    (iC1C0 : PySem.W.kitOne K (.ref C1) (.ref C0) = some true)
    (iC1C1 : PySem.W.kitOne K (.ref C1) (.ref C1) = some true)
    (iC1C2 : PySem.W.kitOne K (.ref C1) (.ref C2) = some false)
    (iC1C3 : PySem.W.kitOne K (.ref C1) (.ref C3) = some false)
    (iC1C4 : PySem.W.kitOne K (.ref C1) (.ref C4) = some false)
    (iC1C5 : PySem.W.kitOne K (.ref C1) (.ref C5) = some false)
    (kpC2 : PySem.W.keepIn K (.ref C2) = true)
    (exC2 : PySem.W.excIn K C2 [.type "ValueError", .type "Exception", .type "BaseException", .type "object"] "ValueError.__new__" = true)
    (beC2 : PySem.W.subIn K (.ref C2) (.type "BaseException") = some true)
    (tyC2 : PySem.W.typeIn K (.ref C2) = some (.type "type"))
    (hgC2 : PySem.W.findIn K (.ref C2) "__getattribute__" = some (some (.builtin "BaseException.__getattribute__")))
    (hkC2 : PySem.W.findIn K (.ref C2) "__getattr__" = some none)
    (hdC2 : PySem.W.hasDictIn K C2 = true)
    (haC2 : PySem.W.findIn K (.ref C2) "__class__" = some (some (.builtin "object.__class__")))
    (hnC2 : PySem.W.specialIn K (.builtin "object.__class__") "__get__" = some (some (.builtin "getset_descriptor.__get__")))
    (htC2 : PySem.W.takesIn K (.builtin "object.__class__") = some true)
    (hmC2 : PySem.W.mroIn K C2 (.type "object") = some true)
    (vvC2 : PySem.W.kitOne K (.ref C2) (.type "ValueError") = some true)
    (iC2C0 : PySem.W.kitOne K (.ref C2) (.ref C0) = some true)
    (iC2C1 : PySem.W.kitOne K (.ref C2) (.ref C1) = some false)
    (iC2C2 : PySem.W.kitOne K (.ref C2) (.ref C2) = some true)
    (iC2C3 : PySem.W.kitOne K (.ref C2) (.ref C3) = some false)
    (iC2C4 : PySem.W.kitOne K (.ref C2) (.ref C4) = some false)
    (iC2C5 : PySem.W.kitOne K (.ref C2) (.ref C5) = some false)
    (kpC3 : PySem.W.keepIn K (.ref C3) = true)
    (exC3 : PySem.W.excIn K C3 [.type "ValueError", .type "Exception", .type "BaseException", .type "object"] "ValueError.__new__" = true)
    (beC3 : PySem.W.subIn K (.ref C3) (.type "BaseException") = some true)
    (tyC3 : PySem.W.typeIn K (.ref C3) = some (.type "type"))
    (hgC3 : PySem.W.findIn K (.ref C3) "__getattribute__" = some (some (.builtin "BaseException.__getattribute__")))
    (hkC3 : PySem.W.findIn K (.ref C3) "__getattr__" = some none)
    (hdC3 : PySem.W.hasDictIn K C3 = true)
    (haC3 : PySem.W.findIn K (.ref C3) "__class__" = some (some (.builtin "object.__class__")))
    (hnC3 : PySem.W.specialIn K (.builtin "object.__class__") "__get__" = some (some (.builtin "getset_descriptor.__get__")))
    (htC3 : PySem.W.takesIn K (.builtin "object.__class__") = some true)
    (hmC3 : PySem.W.mroIn K C3 (.type "object") = some true)
    (vvC3 : PySem.W.kitOne K (.ref C3) (.type "ValueError") = some true)
    (iC3C0 : PySem.W.kitOne K (.ref C3) (.ref C0) = some true)
    (iC3C1 : PySem.W.kitOne K (.ref C3) (.ref C1) = some false)
    (iC3C2 : PySem.W.kitOne K (.ref C3) (.ref C2) = some false)
    (iC3C3 : PySem.W.kitOne K (.ref C3) (.ref C3) = some true)
    (iC3C4 : PySem.W.kitOne K (.ref C3) (.ref C4) = some false)
    (iC3C5 : PySem.W.kitOne K (.ref C3) (.ref C5) = some false)
    (kpC4 : PySem.W.keepIn K (.ref C4) = true)
    (exC4 : PySem.W.excIn K C4 [.type "ValueError", .type "Exception", .type "BaseException", .type "object"] "ValueError.__new__" = true)
    (beC4 : PySem.W.subIn K (.ref C4) (.type "BaseException") = some true)
    (tyC4 : PySem.W.typeIn K (.ref C4) = some (.type "type"))
    (hgC4 : PySem.W.findIn K (.ref C4) "__getattribute__" = some (some (.builtin "BaseException.__getattribute__")))
    (hkC4 : PySem.W.findIn K (.ref C4) "__getattr__" = some none)
    (hdC4 : PySem.W.hasDictIn K C4 = true)
    (haC4 : PySem.W.findIn K (.ref C4) "__class__" = some (some (.builtin "object.__class__")))
    (hnC4 : PySem.W.specialIn K (.builtin "object.__class__") "__get__" = some (some (.builtin "getset_descriptor.__get__")))
    (htC4 : PySem.W.takesIn K (.builtin "object.__class__") = some true)
    (hmC4 : PySem.W.mroIn K C4 (.type "object") = some true)
    (vvC4 : PySem.W.kitOne K (.ref C4) (.type "ValueError") = some true)
    (iC4C0 : PySem.W.kitOne K (.ref C4) (.ref C0) = some true)
    (iC4C1 : PySem.W.kitOne K (.ref C4) (.ref C1) = some false)
    (iC4C2 : PySem.W.kitOne K (.ref C4) (.ref C2) = some false)
    (iC4C3 : PySem.W.kitOne K (.ref C4) (.ref C3) = some false)
    (iC4C4 : PySem.W.kitOne K (.ref C4) (.ref C4) = some true)
    (iC4C5 : PySem.W.kitOne K (.ref C4) (.ref C5) = some false)
    (kpC5 : PySem.W.keepIn K (.ref C5) = true)
    (exC5 : PySem.W.excIn K C5 [.type "ValueError", .type "Exception", .type "BaseException", .type "object"] "ValueError.__new__" = true)
    (beC5 : PySem.W.subIn K (.ref C5) (.type "BaseException") = some true)
    (tyC5 : PySem.W.typeIn K (.ref C5) = some (.type "type"))
    (hgC5 : PySem.W.findIn K (.ref C5) "__getattribute__" = some (some (.builtin "BaseException.__getattribute__")))
    (hkC5 : PySem.W.findIn K (.ref C5) "__getattr__" = some none)
    (hdC5 : PySem.W.hasDictIn K C5 = true)
    (haC5 : PySem.W.findIn K (.ref C5) "__class__" = some (some (.builtin "object.__class__")))
    (hnC5 : PySem.W.specialIn K (.builtin "object.__class__") "__get__" = some (some (.builtin "getset_descriptor.__get__")))
    (htC5 : PySem.W.takesIn K (.builtin "object.__class__") = some true)
    (hmC5 : PySem.W.mroIn K C5 (.type "object") = some true)
    (vvC5 : PySem.W.kitOne K (.ref C5) (.type "ValueError") = some true)
    (iC5C0 : PySem.W.kitOne K (.ref C5) (.ref C0) = some true)
    (iC5C1 : PySem.W.kitOne K (.ref C5) (.ref C1) = some false)
    (iC5C2 : PySem.W.kitOne K (.ref C5) (.ref C2) = some false)
    (iC5C3 : PySem.W.kitOne K (.ref C5) (.ref C3) = some false)
    (iC5C4 : PySem.W.kitOne K (.ref C5) (.ref C4) = some false)
    (iC5C5 : PySem.W.kitOne K (.ref C5) (.ref C5) = some true)
    (a0 : PySem.W.nsIn K mainGlobals "is_number" = some (some (.ref f0)))
    (l0 : K.lookup f0 = some ⟨oc0, od0, .func (PySem.W.fnOf "is_number" "is_number" (defArgs s_is_number) (defBody s_is_number) (defScope s_is_number) .none kV0 dc0 pm0 an0 cd0 ct0), sl0⟩)
    (c0 : PySem.W.codeIn K cd0 "is_number" = true) (k0 : PySem.W.keepIn K (.ref f0) = true)
    (a1 : PySem.W.nsIn K mainGlobals "is_side" = some (some (.ref f1)))
    (l1 : K.lookup f1 = some ⟨oc1, od1, .func (PySem.W.fnOf "is_side" "is_side" (defArgs s_is_side) (defBody s_is_side) (defScope s_is_side) .none kV1 dc1 pm1 an1 cd1 ct1), sl1⟩)
    (c1 : PySem.W.codeIn K cd1 "is_side" = true) (k1 : PySem.W.keepIn K (.ref f1) = true)
    (a2 : PySem.W.nsIn K mainGlobals "checked" = some (some (.ref f2)))
    (l2 : K.lookup f2 = some ⟨oc2, od2, .func (PySem.W.fnOf "checked" "checked" (defArgs s_checked) (defBody s_checked) (defScope s_checked) .none kV2 dc2 pm2 an2 cd2 ct2), sl2⟩)
    (c2 : PySem.W.codeIn K cd2 "checked" = true) (k2 : PySem.W.keepIn K (.ref f2) = true)
    (a3 : PySem.W.nsIn K mainGlobals "wanted" = some (some (.ref f3)))
    (l3 : K.lookup f3 = some ⟨oc3, od3, .func (PySem.W.fnOf "wanted" "wanted" (defArgs s_wanted) (defBody s_wanted) (defScope s_wanted) .none kV3 dc3 pm3 an3 (.ref cc3) ct3), sl3⟩)
    (c3 : PySem.W.codeIn K (.ref cc3) "wanted" = true) (k3 : PySem.W.keepIn K (.ref f3) = true)
    (a4 : PySem.W.nsIn K mainGlobals "offered" = some (some (.ref f4)))
    (l4 : K.lookup f4 = some ⟨oc4, od4, .func (PySem.W.fnOf "offered" "offered" (defArgs s_offered) (defBody s_offered) (defScope s_offered) .none kV4 dc4 pm4 an4 (.ref cc4) ct4), sl4⟩)
    (c4 : PySem.W.codeIn K (.ref cc4) "offered" = true) (k4 : PySem.W.keepIn K (.ref f4) = true)
    (a5 : PySem.W.nsIn K mainGlobals "checked_price" = some (some (.ref f5)))
    (l5 : K.lookup f5 = some ⟨oc5, od5, .func (PySem.W.fnOf "checked_price" "checked_price" (defArgs s_checked_price) (defBody s_checked_price) (defScope s_checked_price) .none kV5 dc5 pm5 an5 cd5 ct5), sl5⟩)
    (c5 : PySem.W.codeIn K cd5 "checked_price" = true) (k5 : PySem.W.keepIn K (.ref f5) = true)
    (a6 : PySem.W.nsIn K mainGlobals "is_too_low" = some (some (.ref f6)))
    (l6 : K.lookup f6 = some ⟨oc6, od6, .func (PySem.W.fnOf "is_too_low" "is_too_low" (defArgs s_is_too_low) (defBody s_is_too_low) (defScope s_is_too_low) .none kV6 dc6 pm6 an6 cd6 ct6), sl6⟩)
    (c6 : PySem.W.codeIn K cd6 "is_too_low" = true) (k6 : PySem.W.keepIn K (.ref f6) = true)
    (a7 : PySem.W.nsIn K mainGlobals "is_too_high" = some (some (.ref f7)))
    (l7 : K.lookup f7 = some ⟨oc7, od7, .func (PySem.W.fnOf "is_too_high" "is_too_high" (defArgs s_is_too_high) (defBody s_is_too_high) (defScope s_is_too_high) .none kV7 dc7 pm7 an7 cd7 ct7), sl7⟩)
    (c7 : PySem.W.codeIn K cd7 "is_too_high" = true) (k7 : PySem.W.keepIn K (.ref f7) = true)
    (a8 : PySem.W.nsIn K mainGlobals "lowest" = some (some (.ref f8)))
    (l8 : K.lookup f8 = some ⟨oc8, od8, .func (PySem.W.fnOf "lowest" "lowest" (defArgs s_lowest) (defBody s_lowest) (defScope s_lowest) .none kV8 dc8 pm8 an8 cd8 ct8), sl8⟩)
    (c8 : PySem.W.codeIn K cd8 "lowest" = true) (k8 : PySem.W.keepIn K (.ref f8) = true)
    (a9 : PySem.W.nsIn K mainGlobals "highest" = some (some (.ref f9)))
    (l9 : K.lookup f9 = some ⟨oc9, od9, .func (PySem.W.fnOf "highest" "highest" (defArgs s_highest) (defBody s_highest) (defScope s_highest) .none kV9 dc9 pm9 an9 cd9 ct9), sl9⟩)
    (c9 : PySem.W.codeIn K cd9 "highest" = true) (k9 : PySem.W.keepIn K (.ref f9) = true)
    (a10 : PySem.W.nsIn K mainGlobals "price_by" = some (some (.ref f10)))
    (l10 : K.lookup f10 = some ⟨oc10, od10, .func (PySem.W.fnOf "price_by" "price_by" (defArgs s_price_by) (defBody s_price_by) (defScope s_price_by) .none kV10 dc10 pm10 an10 cd10 ct10), sl10⟩)
    (c10 : PySem.W.codeIn K cd10 "price_by" = true) (k10 : PySem.W.keepIn K (.ref f10) = true)
    (a11 : PySem.W.nsIn K mainGlobals "check_pieces" = some (some (.ref f11)))
    (l11 : K.lookup f11 = some ⟨oc11, od11, .func (PySem.W.fnOf "check_pieces" "check_pieces" (defArgs s_check_pieces) (defBody s_check_pieces) (defScope s_check_pieces) .none kV11 dc11 pm11 an11 cd11 ct11), sl11⟩)
    (c11 : PySem.W.codeIn K cd11 "check_pieces" = true) (k11 : PySem.W.keepIn K (.ref f11) = true)
    (a12 : PySem.W.nsIn K mainGlobals "buyers_in_turn" = some (some (.ref f12)))
    (l12 : K.lookup f12 = some ⟨oc12, od12, .func (PySem.W.fnOf "buyers_in_turn" "buyers_in_turn" (defArgs s_buyers_in_turn) (defBody s_buyers_in_turn) (defScope s_buyers_in_turn) .none kV12 dc12 pm12 an12 cd12 ct12), sl12⟩)
    (c12 : PySem.W.codeIn K cd12 "buyers_in_turn" = true) (k12 : PySem.W.keepIn K (.ref f12) = true)
    (a13 : PySem.W.nsIn K mainGlobals "sellers_in_turn" = some (some (.ref f13)))
    (l13 : K.lookup f13 = some ⟨oc13, od13, .func (PySem.W.fnOf "sellers_in_turn" "sellers_in_turn" (defArgs s_sellers_in_turn) (defBody s_sellers_in_turn) (defScope s_sellers_in_turn) .none kV13 dc13 pm13 an13 cd13 ct13), sl13⟩)
    (c13 : PySem.W.codeIn K cd13 "sellers_in_turn" = true) (k13 : PySem.W.keepIn K (.ref f13) = true)
    (a14 : PySem.W.nsIn K mainGlobals "pieces_at" = some (some (.ref f14)))
    (l14 : K.lookup f14 = some ⟨oc14, od14, .func (PySem.W.fnOf "pieces_at" "pieces_at" (defArgs s_pieces_at) (defBody s_pieces_at) (defScope s_pieces_at) .none kV14 dc14 pm14 an14 cd14 ct14), sl14⟩)
    (c14 : PySem.W.codeIn K cd14 "pieces_at" = true) (k14 : PySem.W.keepIn K (.ref f14) = true)
    (a15 : PySem.W.nsIn K mainGlobals "pieces_of_side" = some (some (.ref f15)))
    (l15 : K.lookup f15 = some ⟨oc15, od15, .func (PySem.W.fnOf "pieces_of_side" "pieces_of_side" (defArgs s_pieces_of_side) (defBody s_pieces_of_side) (defScope s_pieces_of_side) .none kV15 dc15 pm15 an15 cd15 ct15), sl15⟩)
    (c15 : PySem.W.codeIn K cd15 "pieces_of_side" = true) (k15 : PySem.W.keepIn K (.ref f15) = true)
    (a16 : PySem.W.nsIn K mainGlobals "even" = some (some (.ref f16)))
    (l16 : K.lookup f16 = some ⟨oc16, od16, .func (PySem.W.fnOf "even" "even" (defArgs s_even) (defBody s_even) (defScope s_even) .none kV16 dc16 pm16 an16 cd16 ct16), sl16⟩)
    (c16 : PySem.W.codeIn K cd16 "even" = true) (k16 : PySem.W.keepIn K (.ref f16) = true)
    (a17 : PySem.W.nsIn K mainGlobals "dealers" = some (some (.ref f17)))
    (l17 : K.lookup f17 = some ⟨oc17, od17, .func (PySem.W.fnOf "dealers" "dealers" (defArgs s_dealers) (defBody s_dealers) (defScope s_dealers) .none kV17 dc17 pm17 an17 cd17 ct17), sl17⟩)
    (c17 : PySem.W.codeIn K cd17 "dealers" = true) (k17 : PySem.W.keepIn K (.ref f17) = true)
    (a18 : PySem.W.nsIn K mainGlobals "pairs" = some (some (.ref f18)))
    (l18 : K.lookup f18 = some ⟨oc18, od18, .func (PySem.W.fnOf "pairs" "pairs" (defArgs s_pairs) (defBody s_pairs) (defScope s_pairs) .none kV18 dc18 pm18 an18 cd18 ct18), sl18⟩)
    (c18 : PySem.W.codeIn K cd18 "pairs" = true) (k18 : PySem.W.keepIn K (.ref f18) = true)
    (a19 : PySem.W.findIn K (.ref C6) "__init__" = some (some (.ref f19))) (i19 : PySem.W.isFn K (.ref f19) = true)
    (l19 : K.lookup f19 = some ⟨oc19, od19, .func (PySem.W.fnOf "__init__" "Book.__init__" (defArgs s___init__) (defBody s___init__) (defScope s___init__) .none kV19 dc19 pm19 an19 cd19 ct19), sl19⟩)
    (c19 : PySem.W.codeIn K cd19 "Book.__init__" = true) (k19 : PySem.W.keepIn K (.ref f19) = true)
    (a20 : PySem.W.findIn K (.ref C6) "add" = some (some (.ref f20))) (i20 : PySem.W.isFn K (.ref f20) = true)
    (l20 : K.lookup f20 = some ⟨oc20, od20, .func (PySem.W.fnOf "add" "Book.add" (defArgs s_add) (defBody s_add) (defScope s_add) .none kV20 dc20 pm20 an20 cd20 ct20), sl20⟩)
    (c20 : PySem.W.codeIn K cd20 "Book.add" = true) (k20 : PySem.W.keepIn K (.ref f20) = true)
    (a21 : PySem.W.findIn K (.ref C6) "_known" = some (some (.ref f21))) (i21 : PySem.W.isFn K (.ref f21) = true)
    (l21 : K.lookup f21 = some ⟨oc21, od21, .func (PySem.W.fnOf "_known" "Book._known" (defArgs s__known) (defBody s__known) (defScope s__known) .none kV21 dc21 pm21 an21 cd21 ct21), sl21⟩)
    (c21 : PySem.W.codeIn K cd21 "Book._known" = true) (k21 : PySem.W.keepIn K (.ref f21) = true)
    (a22 : PySem.W.findIn K (.ref C6) "left" = some (some (.ref f22))) (i22 : PySem.W.isFn K (.ref f22) = true)
    (l22 : K.lookup f22 = some ⟨oc22, od22, .func (PySem.W.fnOf "left" "Book.left" (defArgs s_left) (defBody s_left) (defScope s_left) .none kV22 dc22 pm22 an22 cd22 ct22), sl22⟩)
    (c22 : PySem.W.codeIn K cd22 "Book.left" = true) (k22 : PySem.W.keepIn K (.ref f22) = true)
    (a23 : PySem.W.findIn K (.ref C6) "paid" = some (some (.ref f23))) (i23 : PySem.W.isFn K (.ref f23) = true)
    (l23 : K.lookup f23 = some ⟨oc23, od23, .func (PySem.W.fnOf "paid" "Book.paid" (defArgs s_paid) (defBody s_paid) (defScope s_paid) .none kV23 dc23 pm23 an23 cd23 ct23), sl23⟩)
    (c23 : PySem.W.codeIn K cd23 "Book.paid" = true) (k23 : PySem.W.keepIn K (.ref f23) = true)
    (a24 : PySem.W.findIn K (.ref C6) "drop" = some (some (.ref f24))) (i24 : PySem.W.isFn K (.ref f24) = true)
    (l24 : K.lookup f24 = some ⟨oc24, od24, .func (PySem.W.fnOf "drop" "Book.drop" (defArgs s_drop) (defBody s_drop) (defScope s_drop) .none kV24 dc24 pm24 an24 cd24 ct24), sl24⟩)
    (c24 : PySem.W.codeIn K cd24 "Book.drop" = true) (k24 : PySem.W.keepIn K (.ref f24) = true)
    (a25 : PySem.W.findIn K (.ref C6) "standing" = some (some (.ref f25))) (i25 : PySem.W.isFn K (.ref f25) = true)
    (l25 : K.lookup f25 = some ⟨oc25, od25, .func (PySem.W.fnOf "standing" "Book.standing" (defArgs s_standing) (defBody s_standing) (defScope s_standing) .none kV25 dc25 pm25 an25 cd25 ct25), sl25⟩)
    (c25 : PySem.W.codeIn K cd25 "Book.standing" = true) (k25 : PySem.W.keepIn K (.ref f25) = true)
    (a26 : PySem.W.findIn K (.ref C6) "_settle" = some (some (.ref f26))) (i26 : PySem.W.isFn K (.ref f26) = true)
    (l26 : K.lookup f26 = some ⟨oc26, od26, .func (PySem.W.fnOf "_settle" "Book._settle" (defArgs s__settle) (defBody s__settle) (defScope s__settle) .none kV26 dc26 pm26 an26 cd26 ct26), sl26⟩)
    (c26 : PySem.W.codeIn K cd26 "Book._settle" = true) (k26 : PySem.W.keepIn K (.ref f26) = true)
    (a27 : PySem.W.findIn K (.ref C6) "ring" = some (some (.ref f27))) (i27 : PySem.W.isFn K (.ref f27) = true)
    (l27 : K.lookup f27 = some ⟨oc27, od27, .func (PySem.W.fnOf "ring" "Book.ring" (defArgs s_ring) (defBody s_ring) (defScope s_ring) .none kV27 dc27 pm27 an27 cd27 ct27), sl27⟩)
    (c27 : PySem.W.codeIn K cd27 "Book.ring" = true) (k27 : PySem.W.keepIn K (.ref f27) = true)
    (a28 : PySem.W.nsIn K mainGlobals "_law_cell_at" = some (some (.ref f28)))
    (l28 : K.lookup f28 = some ⟨oc28, od28, .func (PySem.W.fnOf "_law_cell_at" "_law_cell_at" (defArgs s__law_cell_at) (defBody s__law_cell_at) (defScope s__law_cell_at) .none kV28 dc28 pm28 an28 cd28 ct28), sl28⟩)
    (c28 : PySem.W.codeIn K cd28 "_law_cell_at" = true) (k28 : PySem.W.keepIn K (.ref f28) = true)
    (a29 : PySem.W.nsIn K mainGlobals "_law_whole" = some (some (.ref f29)))
    (l29 : K.lookup f29 = some ⟨oc29, od29, .func (PySem.W.fnOf "_law_whole" "_law_whole" (defArgs s__law_whole) (defBody s__law_whole) (defScope s__law_whole) .none kV29 dc29 pm29 an29 cd29 ct29), sl29⟩)
    (c29 : PySem.W.codeIn K cd29 "_law_whole" = true) (k29 : PySem.W.keepIn K (.ref f29) = true)
    (a30 : PySem.W.nsIn K mainGlobals "_law_wish_by" = some (some (.ref f30)))
    (l30 : K.lookup f30 = some ⟨oc30, od30, .func (PySem.W.fnOf "_law_wish_by" "_law_wish_by" (defArgs s__law_wish_by) (defBody s__law_wish_by) (defScope s__law_wish_by) .none kV30 dc30 pm30 an30 cd30 ct30), sl30⟩)
    (c30 : PySem.W.codeIn K cd30 "_law_wish_by" = true) (k30 : PySem.W.keepIn K (.ref f30) = true)
    (a31 : PySem.W.nsIn K mainGlobals "_law_sum" = some (some (.ref f31)))
    (l31 : K.lookup f31 = some ⟨oc31, od31, .func (PySem.W.fnOf "_law_sum" "_law_sum" (defArgs s__law_sum) (defBody s__law_sum) (defScope s__law_sum) .none kV31 dc31 pm31 an31 cd31 ct31), sl31⟩)
    (c31 : PySem.W.codeIn K cd31 "_law_sum" = true) (k31 : PySem.W.keepIn K (.ref f31) = true)
    (a32 : PySem.W.nsIn K mainGlobals "_law_clears" = some (some (.ref f32)))
    (l32 : K.lookup f32 = some ⟨oc32, od32, .func (PySem.W.fnOf "_law_clears" "_law_clears" (defArgs s__law_clears) (defBody s__law_clears) (defScope s__law_clears) .none kV32 dc32 pm32 an32 cd32 ct32), sl32⟩)
    (c32 : PySem.W.codeIn K cd32 "_law_clears" = true) (k32 : PySem.W.keepIn K (.ref f32) = true)
    (a33 : PySem.W.nsIn K mainGlobals "_law_priced" = some (some (.ref f33)))
    (l33 : K.lookup f33 = some ⟨oc33, od33, .func (PySem.W.fnOf "_law_priced" "_law_priced" (defArgs s__law_priced) (defBody s__law_priced) (defScope s__law_priced) .none kV33 dc33 pm33 an33 cd33 ct33), sl33⟩)
    (c33 : PySem.W.codeIn K cd33 "_law_priced" = true) (k33 : PySem.W.keepIn K (.ref f33) = true)
    (a34 : PySem.W.nsIn K mainGlobals "_law_deal_good" = some (some (.ref f34)))
    (l34 : K.lookup f34 = some ⟨oc34, od34, .func (PySem.W.fnOf "_law_deal_good" "_law_deal_good" (defArgs s__law_deal_good) (defBody s__law_deal_good) (defScope s__law_deal_good) .none kV34 dc34 pm34 an34 cd34 ct34), sl34⟩)
    (c34 : PySem.W.codeIn K cd34 "_law_deal_good" = true) (k34 : PySem.W.keepIn K (.ref f34) = true)
    (a35 : PySem.W.nsIn K mainGlobals "_law_quiet" = some (some (.ref f35)))
    (l35 : K.lookup f35 = some ⟨oc35, od35, .func (PySem.W.fnOf "_law_quiet" "_law_quiet" (defArgs s__law_quiet) (defBody s__law_quiet) (defScope s__law_quiet) .none kV35 dc35 pm35 an35 cd35 ct35), sl35⟩)
    (c35 : PySem.W.codeIn K cd35 "_law_quiet" = true) (k35 : PySem.W.keepIn K (.ref f35) = true)
    (a36 : PySem.W.nsIn K mainGlobals "_law_served" = some (some (.ref f36)))
    (l36 : K.lookup f36 = some ⟨oc36, od36, .func (PySem.W.fnOf "_law_served" "_law_served" (defArgs s__law_served) (defBody s__law_served) (defScope s__law_served) .none kV36 dc36 pm36 an36 cd36 ct36), sl36⟩)
    (c36 : PySem.W.codeIn K cd36 "_law_served" = true) (k36 : PySem.W.keepIn K (.ref f36) = true)
    (a37 : PySem.W.nsIn K mainGlobals "_law_got" = some (some (.ref f37)))
    (l37 : K.lookup f37 = some ⟨oc37, od37, .func (PySem.W.fnOf "_law_got" "_law_got" (defArgs s__law_got) (defBody s__law_got) (defScope s__law_got) .none kV37 dc37 pm37 an37 cd37 ct37), sl37⟩)
    (c37 : PySem.W.codeIn K cd37 "_law_got" = true) (k37 : PySem.W.keepIn K (.ref f37) = true)
    (a38 : PySem.W.nsIn K mainGlobals "_law_rising" = some (some (.ref f38)))
    (l38 : K.lookup f38 = some ⟨oc38, od38, .func (PySem.W.fnOf "_law_rising" "_law_rising" (defArgs s__law_rising) (defBody s__law_rising) (defScope s__law_rising) .none kV38 dc38 pm38 an38 cd38 ct38), sl38⟩)
    (c38 : PySem.W.codeIn K cd38 "_law_rising" = true) (k38 : PySem.W.keepIn K (.ref f38) = true)
    (a39 : PySem.W.nsIn K mainGlobals "_law_stood" = some (some (.ref f39)))
    (l39 : K.lookup f39 = some ⟨oc39, od39, .func (PySem.W.fnOf "_law_stood" "_law_stood" (defArgs s__law_stood) (defBody s__law_stood) (defScope s__law_stood) .none kV39 dc39 pm39 an39 cd39 ct39), sl39⟩)
    (c39 : PySem.W.codeIn K cd39 "_law_stood" = true) (k39 : PySem.W.keepIn K (.ref f39) = true)
    (a40 : PySem.W.nsIn K mainGlobals "_law_ring" = some (some (.ref f40)))
    (l40 : K.lookup f40 = some ⟨oc40, od40, .func (PySem.W.fnOf "_law_ring" "_law_ring" (defArgs s__law_ring) (defBody s__law_ring) (defScope s__law_ring) .none kV40 dc40 pm40 an40 cd40 ct40), sl40⟩)
    (c40 : PySem.W.codeIn K cd40 "_law_ring" = true) (k40 : PySem.W.keepIn K (.ref f40) = true)
    (a41 : PySem.W.nsIn K mainGlobals "_law_ended" = some (some (.ref f41)))
    (l41 : K.lookup f41 = some ⟨oc41, od41, .func (PySem.W.fnOf "_law_ended" "_law_ended" (defArgs s__law_ended) (defBody s__law_ended) (defScope s__law_ended) .none kV41 dc41 pm41 an41 cd41 ct41), sl41⟩)
    (c41 : PySem.W.codeIn K cd41 "_law_ended" = true) (k41 : PySem.W.keepIn K (.ref f41) = true)
    (a42 : PySem.W.nsIn K mainGlobals "law" = some (some (.ref f42)))
    (l42 : K.lookup f42 = some ⟨oc42, od42, .func (PySem.W.fnOf "law" "law" (defArgs s_law) (defBody s_law) (defScope s_law) .none kV42 dc42 pm42 an42 cd42 ct42), sl42⟩)
    (c42 : PySem.W.codeIn K cd42 "law" = true) (k42 : PySem.W.keepIn K (.ref f42) = true)
    (vTOP : PySem.W.nsIn K mainGlobals "TOP" = some (some (.int 1000000000 tTOP)))
    (vMOST : PySem.W.nsIn K mainGlobals "MOST" = some (some (.int 1000000 tMOST)))
    (zlen : PySem.W.nsIn K mainGlobals "len" = some none)
    (zrange : PySem.W.nsIn K mainGlobals "range" = some none)
    (zisinstance : PySem.W.nsIn K mainGlobals "isinstance" = some none)
    (zlist : PySem.W.nsIn K mainGlobals "list" = some none)
    (ztuple : PySem.W.nsIn K mainGlobals "tuple" = some none)
    (zint : PySem.W.nsIn K mainGlobals "int" = some none)
    (zbool : PySem.W.nsIn K mainGlobals "bool" = some none)
    (zstr : PySem.W.nsIn K mainGlobals "str" = some none)
    (zsum : PySem.W.nsIn K mainGlobals "sum" = some none)
    (zmax : PySem.W.nsIn K mainGlobals "max" = some none)
    (zmin : PySem.W.nsIn K mainGlobals "min" = some none)
    (zsorted : PySem.W.nsIn K mainGlobals "sorted" = some none)
    (ztype : PySem.W.nsIn K mainGlobals "type" = some none)
    (zzip : PySem.W.nsIn K mainGlobals "zip" = some none)
    (zenumerate : PySem.W.nsIn K mainGlobals "enumerate" = some none)
    (zdict : PySem.W.nsIn K mainGlobals "dict" = some none) : Txt K mg :=
  { a_BidError := C0, g_BidError := PySem.W.mg_of X G ggC0,
    a_BadWish := C1, g_BadWish := PySem.W.mg_of X G ggC1,
    a_BadPrice := C2, g_BadPrice := PySem.W.mg_of X G ggC2,
    a_BadPieces := C3, g_BadPieces := PySem.W.mg_of X G ggC3,
    a_Uneven := C4, g_Uneven := PySem.W.mg_of X G ggC4,
    a_NoSuch := C5, g_NoSuch := PySem.W.mg_of X G ggC5,
    a_Book := C6, g_Book := PySem.W.mg_of X G ggC6,
    cl_Book := ⟨pgC6, hdC6, poC6, saC6⟩,
    n_Book_price := na0C6,
    n_Book__wishes := na1C6,
    n_Book__left := na2C6,
    n_Book__paid := na3C6,
    R_BadWish := ⟨kpC1, exC1, beC1, tyC1, ⟨hgC1, hkC1, beC1, hdC1, haC1, hnC1, htC1, hmC1⟩⟩, V_BadWish := vvC1,
    I_BadWish_BidError := iC1C0,
    I_BadWish_BadWish := iC1C1,
    I_BadWish_BadPrice := iC1C2,
    I_BadWish_BadPieces := iC1C3,
    I_BadWish_Uneven := iC1C4,
    I_BadWish_NoSuch := iC1C5,
    R_BadPrice := ⟨kpC2, exC2, beC2, tyC2, ⟨hgC2, hkC2, beC2, hdC2, haC2, hnC2, htC2, hmC2⟩⟩, V_BadPrice := vvC2,
    I_BadPrice_BidError := iC2C0,
    I_BadPrice_BadWish := iC2C1,
    I_BadPrice_BadPrice := iC2C2,
    I_BadPrice_BadPieces := iC2C3,
    I_BadPrice_Uneven := iC2C4,
    I_BadPrice_NoSuch := iC2C5,
    R_BadPieces := ⟨kpC3, exC3, beC3, tyC3, ⟨hgC3, hkC3, beC3, hdC3, haC3, hnC3, htC3, hmC3⟩⟩, V_BadPieces := vvC3,
    I_BadPieces_BidError := iC3C0,
    I_BadPieces_BadWish := iC3C1,
    I_BadPieces_BadPrice := iC3C2,
    I_BadPieces_BadPieces := iC3C3,
    I_BadPieces_Uneven := iC3C4,
    I_BadPieces_NoSuch := iC3C5,
    R_Uneven := ⟨kpC4, exC4, beC4, tyC4, ⟨hgC4, hkC4, beC4, hdC4, haC4, hnC4, htC4, hmC4⟩⟩, V_Uneven := vvC4,
    I_Uneven_BidError := iC4C0,
    I_Uneven_BadWish := iC4C1,
    I_Uneven_BadPrice := iC4C2,
    I_Uneven_BadPieces := iC4C3,
    I_Uneven_Uneven := iC4C4,
    I_Uneven_NoSuch := iC4C5,
    R_NoSuch := ⟨kpC5, exC5, beC5, tyC5, ⟨hgC5, hkC5, beC5, hdC5, haC5, hnC5, htC5, hmC5⟩⟩, V_NoSuch := vvC5,
    I_NoSuch_BidError := iC5C0,
    I_NoSuch_BadWish := iC5C1,
    I_NoSuch_BadPrice := iC5C2,
    I_NoSuch_BadPieces := iC5C3,
    I_NoSuch_Uneven := iC5C4,
    I_NoSuch_NoSuch := iC5C5,
    f_is_number := f0, d_is_number := (PySem.W.fnOf "is_number" "is_number" (defArgs s_is_number) (defBody s_is_number) (defScope s_is_number) .none kV0 dc0 pm0 an0 cd0 ct0), D_is_number := ⟨fun_mk (st := s_is_number) l0 c0 k0, (fun_mk (st := s_is_number) l0 c0 k0).binds (ps := ["thing", "least", "most"]) fun _ _ _ _ _ _ us hl => match us, hl with | [_, _, _], _ => rfl, PySem.W.mg_of X G a0⟩,
    f_is_side := f1, d_is_side := (PySem.W.fnOf "is_side" "is_side" (defArgs s_is_side) (defBody s_is_side) (defScope s_is_side) .none kV1 dc1 pm1 an1 cd1 ct1), D_is_side := ⟨fun_mk (st := s_is_side) l1 c1 k1, (fun_mk (st := s_is_side) l1 c1 k1).binds (ps := ["thing"]) fun _ _ _ _ _ _ us hl => match us, hl with | [_], _ => rfl, PySem.W.mg_of X G a1⟩,
    f_checked := f2, d_checked := (PySem.W.fnOf "checked" "checked" (defArgs s_checked) (defBody s_checked) (defScope s_checked) .none kV2 dc2 pm2 an2 cd2 ct2), D_checked := ⟨fun_mk (st := s_checked) l2 c2 k2, (fun_mk (st := s_checked) l2 c2 k2).binds (ps := ["thing"]) fun _ _ _ _ _ _ us hl => match us, hl with | [_], _ => rfl, PySem.W.mg_of X G a2⟩,
    f_wanted := f3, d_wanted := (PySem.W.fnOf "wanted" "wanted" (defArgs s_wanted) (defBody s_wanted) (defScope s_wanted) .none kV3 dc3 pm3 an3 (.ref cc3) ct3), D_wanted := ⟨⟨fun_mk (st := s_wanted) l3 c3 k3, (fun_mk (st := s_wanted) l3 c3 k3).binds (ps := ["wishes", "price"]) fun _ _ _ _ _ _ us hl => match us, hl with | [_, _], _ => rfl, PySem.W.mg_of X G a3⟩, ⟨_, _, _, _, _, _, _, _, rfl, l3, c3⟩⟩,
    k_wanted := (cc3, cp3),
    f_offered := f4, d_offered := (PySem.W.fnOf "offered" "offered" (defArgs s_offered) (defBody s_offered) (defScope s_offered) .none kV4 dc4 pm4 an4 (.ref cc4) ct4), D_offered := ⟨⟨fun_mk (st := s_offered) l4 c4 k4, (fun_mk (st := s_offered) l4 c4 k4).binds (ps := ["wishes", "price"]) fun _ _ _ _ _ _ us hl => match us, hl with | [_, _], _ => rfl, PySem.W.mg_of X G a4⟩, ⟨_, _, _, _, _, _, _, _, rfl, l4, c4⟩⟩,
    k_offered := (cc4, cp4),
    f_checked_price := f5, d_checked_price := (PySem.W.fnOf "checked_price" "checked_price" (defArgs s_checked_price) (defBody s_checked_price) (defScope s_checked_price) .none kV5 dc5 pm5 an5 cd5 ct5), D_checked_price := ⟨fun_mk (st := s_checked_price) l5 c5 k5, (fun_mk (st := s_checked_price) l5 c5 k5).binds (ps := ["thing"]) fun _ _ _ _ _ _ us hl => match us, hl with | [_], _ => rfl, PySem.W.mg_of X G a5⟩,
    f_is_too_low := f6, d_is_too_low := (PySem.W.fnOf "is_too_low" "is_too_low" (defArgs s_is_too_low) (defBody s_is_too_low) (defScope s_is_too_low) .none kV6 dc6 pm6 an6 cd6 ct6), D_is_too_low := ⟨fun_mk (st := s_is_too_low) l6 c6 k6, (fun_mk (st := s_is_too_low) l6 c6 k6).binds (ps := ["wishes", "price"]) fun _ _ _ _ _ _ us hl => match us, hl with | [_, _], _ => rfl, PySem.W.mg_of X G a6⟩,
    f_is_too_high := f7, d_is_too_high := (PySem.W.fnOf "is_too_high" "is_too_high" (defArgs s_is_too_high) (defBody s_is_too_high) (defScope s_is_too_high) .none kV7 dc7 pm7 an7 cd7 ct7), D_is_too_high := ⟨fun_mk (st := s_is_too_high) l7 c7 k7, (fun_mk (st := s_is_too_high) l7 c7 k7).binds (ps := ["wishes", "price"]) fun _ _ _ _ _ _ us hl => match us, hl with | [_, _], _ => rfl, PySem.W.mg_of X G a7⟩,
    f_lowest := f8, d_lowest := (PySem.W.fnOf "lowest" "lowest" (defArgs s_lowest) (defBody s_lowest) (defScope s_lowest) .none kV8 dc8 pm8 an8 cd8 ct8), D_lowest := ⟨fun_mk (st := s_lowest) l8 c8 k8, (fun_mk (st := s_lowest) l8 c8 k8).binds (ps := ["wishes"]) fun _ _ _ _ _ _ us hl => match us, hl with | [_], _ => rfl, PySem.W.mg_of X G a8⟩,
    f_highest := f9, d_highest := (PySem.W.fnOf "highest" "highest" (defArgs s_highest) (defBody s_highest) (defScope s_highest) .none kV9 dc9 pm9 an9 cd9 ct9), D_highest := ⟨fun_mk (st := s_highest) l9 c9 k9, (fun_mk (st := s_highest) l9 c9 k9).binds (ps := ["wishes"]) fun _ _ _ _ _ _ us hl => match us, hl with | [_], _ => rfl, PySem.W.mg_of X G a9⟩,
    f_price_by := f10, d_price_by := (PySem.W.fnOf "price_by" "price_by" (defArgs s_price_by) (defBody s_price_by) (defScope s_price_by) .none kV10 dc10 pm10 an10 cd10 ct10), D_price_by := ⟨fun_mk (st := s_price_by) l10 c10 k10, (fun_mk (st := s_price_by) l10 c10 k10).binds (ps := ["wishes", "old"]) fun _ _ _ _ _ _ us hl => match us, hl with | [_, _], _ => rfl, PySem.W.mg_of X G a10⟩,
    f_check_pieces := f11, d_check_pieces := (PySem.W.fnOf "check_pieces" "check_pieces" (defArgs s_check_pieces) (defBody s_check_pieces) (defScope s_check_pieces) .none kV11 dc11 pm11 an11 cd11 ct11), D_check_pieces := ⟨fun_mk (st := s_check_pieces) l11 c11 k11, (fun_mk (st := s_check_pieces) l11 c11 k11).binds (ps := ["wishes", "pieces"]) fun _ _ _ _ _ _ us hl => match us, hl with | [_, _], _ => rfl, PySem.W.mg_of X G a11⟩,
    f_buyers_in_turn := f12, d_buyers_in_turn := (PySem.W.fnOf "buyers_in_turn" "buyers_in_turn" (defArgs s_buyers_in_turn) (defBody s_buyers_in_turn) (defScope s_buyers_in_turn) .none kV12 dc12 pm12 an12 cd12 ct12), D_buyers_in_turn := ⟨fun_mk (st := s_buyers_in_turn) l12 c12 k12, (fun_mk (st := s_buyers_in_turn) l12 c12 k12).binds (ps := ["wishes", "price"]) fun _ _ _ _ _ _ us hl => match us, hl with | [_, _], _ => rfl, PySem.W.mg_of X G a12⟩,
    f_sellers_in_turn := f13, d_sellers_in_turn := (PySem.W.fnOf "sellers_in_turn" "sellers_in_turn" (defArgs s_sellers_in_turn) (defBody s_sellers_in_turn) (defScope s_sellers_in_turn) .none kV13 dc13 pm13 an13 cd13 ct13), D_sellers_in_turn := ⟨fun_mk (st := s_sellers_in_turn) l13 c13 k13, (fun_mk (st := s_sellers_in_turn) l13 c13 k13).binds (ps := ["wishes", "price"]) fun _ _ _ _ _ _ us hl => match us, hl with | [_, _], _ => rfl, PySem.W.mg_of X G a13⟩,
    f_pieces_at := f14, d_pieces_at := (PySem.W.fnOf "pieces_at" "pieces_at" (defArgs s_pieces_at) (defBody s_pieces_at) (defScope s_pieces_at) .none kV14 dc14 pm14 an14 cd14 ct14), D_pieces_at := ⟨fun_mk (st := s_pieces_at) l14 c14 k14, (fun_mk (st := s_pieces_at) l14 c14 k14).binds (ps := ["wishes", "price"]) fun _ _ _ _ _ _ us hl => match us, hl with | [_, _], _ => rfl, PySem.W.mg_of X G a14⟩,
    f_pieces_of_side := f15, d_pieces_of_side := (PySem.W.fnOf "pieces_of_side" "pieces_of_side" (defArgs s_pieces_of_side) (defBody s_pieces_of_side) (defScope s_pieces_of_side) .none kV15 dc15 pm15 an15 cd15 ct15), D_pieces_of_side := ⟨fun_mk (st := s_pieces_of_side) l15 c15 k15, (fun_mk (st := s_pieces_of_side) l15 c15 k15).binds (ps := ["wishes", "pieces", "one_side"]) fun _ _ _ _ _ _ us hl => match us, hl with | [_, _, _], _ => rfl, PySem.W.mg_of X G a15⟩,
    f_even := f16, d_even := (PySem.W.fnOf "even" "even" (defArgs s_even) (defBody s_even) (defScope s_even) .none kV16 dc16 pm16 an16 cd16 ct16), D_even := ⟨fun_mk (st := s_even) l16 c16 k16, (fun_mk (st := s_even) l16 c16 k16).binds (ps := ["wishes", "pieces"]) fun _ _ _ _ _ _ us hl => match us, hl with | [_, _], _ => rfl, PySem.W.mg_of X G a16⟩,
    f_dealers := f17, d_dealers := (PySem.W.fnOf "dealers" "dealers" (defArgs s_dealers) (defBody s_dealers) (defScope s_dealers) .none kV17 dc17 pm17 an17 cd17 ct17), D_dealers := ⟨fun_mk (st := s_dealers) l17 c17 k17, (fun_mk (st := s_dealers) l17 c17 k17).binds (ps := ["wishes", "pieces", "one_side"]) fun _ _ _ _ _ _ us hl => match us, hl with | [_, _, _], _ => rfl, PySem.W.mg_of X G a17⟩,
    f_pairs := f18, d_pairs := (PySem.W.fnOf "pairs" "pairs" (defArgs s_pairs) (defBody s_pairs) (defScope s_pairs) .none kV18 dc18 pm18 an18 cd18 ct18), D_pairs := ⟨fun_mk (st := s_pairs) l18 c18 k18, (fun_mk (st := s_pairs) l18 c18 k18).binds (ps := ["wishes", "pieces"]) fun _ _ _ _ _ _ us hl => match us, hl with | [_, _], _ => rfl, PySem.W.mg_of X G a18⟩,
    f___init__ := f19, d___init__ := (PySem.W.fnOf "__init__" "Book.__init__" (defArgs s___init__) (defBody s___init__) (defScope s___init__) .none kV19 dc19 pm19 an19 cd19 ct19), D___init__ := ⟨fun_mk (st := s___init__) l19 c19 k19, (fun_mk (st := s___init__) l19 c19 k19).binds (ps := ["self", "old"]) fun _ _ _ _ _ _ us hl => match us, hl with | [_, _], _ => rfl, ⟨mkC6, a19, i19, kcC6⟩⟩,
    f_add := f20, d_add := (PySem.W.fnOf "add" "Book.add" (defArgs s_add) (defBody s_add) (defScope s_add) .none kV20 dc20 pm20 an20 cd20 ct20), D_add := ⟨fun_mk (st := s_add) l20 c20 k20, (fun_mk (st := s_add) l20 c20 k20).binds (ps := ["self", "wish"]) fun _ _ _ _ _ _ us hl => match us, hl with | [_, _], _ => rfl, ⟨a20, i20, k20⟩⟩,
    f__known := f21, d__known := (PySem.W.fnOf "_known" "Book._known" (defArgs s__known) (defBody s__known) (defScope s__known) .none kV21 dc21 pm21 an21 cd21 ct21), D__known := ⟨fun_mk (st := s__known) l21 c21 k21, (fun_mk (st := s__known) l21 c21 k21).binds (ps := ["self", "number"]) fun _ _ _ _ _ _ us hl => match us, hl with | [_, _], _ => rfl, ⟨a21, i21, k21⟩⟩,
    f_left := f22, d_left := (PySem.W.fnOf "left" "Book.left" (defArgs s_left) (defBody s_left) (defScope s_left) .none kV22 dc22 pm22 an22 cd22 ct22), D_left := ⟨fun_mk (st := s_left) l22 c22 k22, (fun_mk (st := s_left) l22 c22 k22).binds (ps := ["self", "number"]) fun _ _ _ _ _ _ us hl => match us, hl with | [_, _], _ => rfl, ⟨a22, i22, k22⟩⟩,
    f_paid := f23, d_paid := (PySem.W.fnOf "paid" "Book.paid" (defArgs s_paid) (defBody s_paid) (defScope s_paid) .none kV23 dc23 pm23 an23 cd23 ct23), D_paid := ⟨fun_mk (st := s_paid) l23 c23 k23, (fun_mk (st := s_paid) l23 c23 k23).binds (ps := ["self", "number"]) fun _ _ _ _ _ _ us hl => match us, hl with | [_, _], _ => rfl, ⟨a23, i23, k23⟩⟩,
    f_drop := f24, d_drop := (PySem.W.fnOf "drop" "Book.drop" (defArgs s_drop) (defBody s_drop) (defScope s_drop) .none kV24 dc24 pm24 an24 cd24 ct24), D_drop := ⟨fun_mk (st := s_drop) l24 c24 k24, (fun_mk (st := s_drop) l24 c24 k24).binds (ps := ["self", "number"]) fun _ _ _ _ _ _ us hl => match us, hl with | [_, _], _ => rfl, ⟨a24, i24, k24⟩⟩,
    f_standing := f25, d_standing := (PySem.W.fnOf "standing" "Book.standing" (defArgs s_standing) (defBody s_standing) (defScope s_standing) .none kV25 dc25 pm25 an25 cd25 ct25), D_standing := ⟨fun_mk (st := s_standing) l25 c25 k25, (fun_mk (st := s_standing) l25 c25 k25).binds (ps := ["self"]) fun _ _ _ _ _ _ us hl => match us, hl with | [_], _ => rfl, ⟨a25, i25, k25⟩⟩,
    f__settle := f26, d__settle := (PySem.W.fnOf "_settle" "Book._settle" (defArgs s__settle) (defBody s__settle) (defScope s__settle) .none kV26 dc26 pm26 an26 cd26 ct26), D__settle := ⟨fun_mk (st := s__settle) l26 c26 k26, (fun_mk (st := s__settle) l26 c26 k26).binds (ps := ["self", "number", "many"]) fun _ _ _ _ _ _ us hl => match us, hl with | [_, _, _], _ => rfl, ⟨a26, i26, k26⟩⟩,
    f_ring := f27, d_ring := (PySem.W.fnOf "ring" "Book.ring" (defArgs s_ring) (defBody s_ring) (defScope s_ring) .none kV27 dc27 pm27 an27 cd27 ct27), D_ring := ⟨fun_mk (st := s_ring) l27 c27 k27, (fun_mk (st := s_ring) l27 c27 k27).binds (ps := ["self"]) fun _ _ _ _ _ _ us hl => match us, hl with | [_], _ => rfl, ⟨a27, i27, k27⟩⟩,
    f__law_cell_at := f28, d__law_cell_at := (PySem.W.fnOf "_law_cell_at" "_law_cell_at" (defArgs s__law_cell_at) (defBody s__law_cell_at) (defScope s__law_cell_at) .none kV28 dc28 pm28 an28 cd28 ct28), D__law_cell_at := ⟨fun_mk (st := s__law_cell_at) l28 c28 k28, (fun_mk (st := s__law_cell_at) l28 c28 k28).binds (ps := ["_law_script", "_law_k"]) fun _ _ _ _ _ _ us hl => match us, hl with | [_, _], _ => rfl, PySem.W.mg_of X G a28⟩,
    f__law_whole := f29, d__law_whole := (PySem.W.fnOf "_law_whole" "_law_whole" (defArgs s__law_whole) (defBody s__law_whole) (defScope s__law_whole) .none kV29 dc29 pm29 an29 cd29 ct29), D__law_whole := ⟨fun_mk (st := s__law_whole) l29 c29 k29, (fun_mk (st := s__law_whole) l29 c29 k29).binds (ps := ["_law_thing"]) fun _ _ _ _ _ _ us hl => match us, hl with | [_], _ => rfl, PySem.W.mg_of X G a29⟩,
    f__law_wish_by := f30, d__law_wish_by := (PySem.W.fnOf "_law_wish_by" "_law_wish_by" (defArgs s__law_wish_by) (defBody s__law_wish_by) (defScope s__law_wish_by) .none kV30 dc30 pm30 an30 cd30 ct30), D__law_wish_by := ⟨fun_mk (st := s__law_wish_by) l30 c30 k30, (fun_mk (st := s__law_wish_by) l30 c30 k30).binds (ps := ["_law_cell"]) fun _ _ _ _ _ _ us hl => match us, hl with | [_], _ => rfl, PySem.W.mg_of X G a30⟩,
    f__law_sum := f31, d__law_sum := (PySem.W.fnOf "_law_sum" "_law_sum" (defArgs s__law_sum) (defBody s__law_sum) (defScope s__law_sum) .none kV31 dc31 pm31 an31 cd31 ct31), D__law_sum := ⟨fun_mk (st := s__law_sum) l31 c31 k31, (fun_mk (st := s__law_sum) l31 c31 k31).binds (ps := ["_law_rows", "_law_side", "_law_price"]) fun _ _ _ _ _ _ us hl => match us, hl with | [_, _, _], _ => rfl, PySem.W.mg_of X G a31⟩,
    f__law_clears := f32, d__law_clears := (PySem.W.fnOf "_law_clears" "_law_clears" (defArgs s__law_clears) (defBody s__law_clears) (defScope s__law_clears) .none kV32 dc32 pm32 an32 cd32 ct32), D__law_clears := ⟨fun_mk (st := s__law_clears) l32 c32 k32, (fun_mk (st := s__law_clears) l32 c32 k32).binds (ps := ["_law_rows", "_law_price"]) fun _ _ _ _ _ _ us hl => match us, hl with | [_, _], _ => rfl, PySem.W.mg_of X G a32⟩,
    f__law_priced := f33, d__law_priced := (PySem.W.fnOf "_law_priced" "_law_priced" (defArgs s__law_priced) (defBody s__law_priced) (defScope s__law_priced) .none kV33 dc33 pm33 an33 cd33 ct33), D__law_priced := ⟨fun_mk (st := s__law_priced) l33 c33 k33, (fun_mk (st := s__law_priced) l33 c33 k33).binds (ps := ["_law_rows", "_law_old", "_law_price"]) fun _ _ _ _ _ _ us hl => match us, hl with | [_, _, _], _ => rfl, PySem.W.mg_of X G a33⟩,
    f__law_deal_good := f34, d__law_deal_good := (PySem.W.fnOf "_law_deal_good" "_law_deal_good" (defArgs s__law_deal_good) (defBody s__law_deal_good) (defScope s__law_deal_good) .none kV34 dc34 pm34 an34 cd34 ct34), D__law_deal_good := ⟨fun_mk (st := s__law_deal_good) l34 c34 k34, (fun_mk (st := s__law_deal_good) l34 c34 k34).binds (ps := ["_law_deal", "_law_stood_here", "_law_price"]) fun _ _ _ _ _ _ us hl => match us, hl with | [_, _, _], _ => rfl, PySem.W.mg_of X G a34⟩,
    f__law_quiet := f35, d__law_quiet := (PySem.W.fnOf "_law_quiet" "_law_quiet" (defArgs s__law_quiet) (defBody s__law_quiet) (defScope s__law_quiet) .none kV35 dc35 pm35 an35 cd35 ct35), D__law_quiet := ⟨fun_mk (st := s__law_quiet) l35 c35 k35, (fun_mk (st := s__law_quiet) l35 c35 k35).binds (ps := ["_law_book", "_law_price"]) fun _ _ _ _ _ _ us hl => match us, hl with | [_, _], _ => rfl, PySem.W.mg_of X G a35⟩,
    f__law_served := f36, d__law_served := (PySem.W.fnOf "_law_served" "_law_served" (defArgs s__law_served) (defBody s__law_served) (defScope s__law_served) .none kV36 dc36 pm36 an36 cd36 ct36), D__law_served := ⟨fun_mk (st := s__law_served) l36 c36 k36, (fun_mk (st := s__law_served) l36 c36 k36).binds (ps := ["_law_rows", "_law_side", "_law_price", "_law_many"]) fun _ _ _ _ _ _ us hl => match us, hl with | [_, _, _, _], _ => rfl, PySem.W.mg_of X G a36⟩,
    f__law_got := f37, d__law_got := (PySem.W.fnOf "_law_got" "_law_got" (defArgs s__law_got) (defBody s__law_got) (defScope s__law_got) .none kV37 dc37 pm37 an37 cd37 ct37), D__law_got := ⟨fun_mk (st := s__law_got) l37 c37 k37, (fun_mk (st := s__law_got) l37 c37 k37).binds (ps := ["_law_deals", "_law_at"]) fun _ _ _ _ _ _ us hl => match us, hl with | [_, _], _ => rfl, PySem.W.mg_of X G a37⟩,
    f__law_rising := f38, d__law_rising := (PySem.W.fnOf "_law_rising" "_law_rising" (defArgs s__law_rising) (defBody s__law_rising) (defScope s__law_rising) .none kV38 dc38 pm38 an38 cd38 ct38), D__law_rising := ⟨fun_mk (st := s__law_rising) l38 c38 k38, (fun_mk (st := s__law_rising) l38 c38 k38).binds (ps := ["_law_deals"]) fun _ _ _ _ _ _ us hl => match us, hl with | [_], _ => rfl, PySem.W.mg_of X G a38⟩,
    f__law_stood := f39, d__law_stood := (PySem.W.fnOf "_law_stood" "_law_stood" (defArgs s__law_stood) (defBody s__law_stood) (defScope s__law_stood) .none kV39 dc39 pm39 an39 cd39 ct39), D__law_stood := ⟨fun_mk (st := s__law_stood) l39 c39 k39, (fun_mk (st := s__law_stood) l39 c39 k39).binds (ps := ["_law_came", "_law_dealt", "_law_dropped"]) fun _ _ _ _ _ _ us hl => match us, hl with | [_, _, _], _ => rfl, PySem.W.mg_of X G a39⟩,
    f__law_ring := f40, d__law_ring := (PySem.W.fnOf "_law_ring" "_law_ring" (defArgs s__law_ring) (defBody s__law_ring) (defScope s__law_ring) .none kV40 dc40 pm40 an40 cd40 ct40), D__law_ring := ⟨fun_mk (st := s__law_ring) l40 c40 k40, (fun_mk (st := s__law_ring) l40 c40 k40).binds (ps := ["_law_book", "_law_came", "_law_dealt", "_law_dropped"]) fun _ _ _ _ _ _ us hl => match us, hl with | [_, _, _, _], _ => rfl, PySem.W.mg_of X G a40⟩,
    f__law_ended := f41, d__law_ended := (PySem.W.fnOf "_law_ended" "_law_ended" (defArgs s__law_ended) (defBody s__law_ended) (defScope s__law_ended) .none kV41 dc41 pm41 an41 cd41 ct41), D__law_ended := ⟨fun_mk (st := s__law_ended) l41 c41 k41, (fun_mk (st := s__law_ended) l41 c41 k41).binds (ps := ["_law_book", "_law_came", "_law_dealt", "_law_dropped"]) fun _ _ _ _ _ _ us hl => match us, hl with | [_, _, _, _], _ => rfl, PySem.W.mg_of X G a41⟩,
    f_law := f42, d_law := (PySem.W.fnOf "law" "law" (defArgs s_law) (defBody s_law) (defScope s_law) .none kV42 dc42 pm42 an42 cd42 ct42), D_law := ⟨fun_mk (st := s_law) l42 c42 k42, (fun_mk (st := s_law) l42 c42 k42).binds (ps := ["_law_script"]) fun _ _ _ _ _ _ us hl => match us, hl with | [_], _ => rfl, PySem.W.mg_of X G a42⟩,
    t_TOP := tTOP, c_TOP := PySem.W.mg_of X G vTOP,
    t_MOST := tMOST, c_MOST := PySem.W.mg_of X G vMOST,
    n_len := PySem.W.mg_none_of X G zlen,
    n_range := PySem.W.mg_none_of X G zrange,
    n_isinstance := PySem.W.mg_none_of X G zisinstance,
    n_list := PySem.W.mg_none_of X G zlist,
    n_tuple := PySem.W.mg_none_of X G ztuple,
    n_int := PySem.W.mg_none_of X G zint,
    n_bool := PySem.W.mg_none_of X G zbool,
    n_str := PySem.W.mg_none_of X G zstr,
    n_sum := PySem.W.mg_none_of X G zsum,
    n_max := PySem.W.mg_none_of X G zmax,
    n_min := PySem.W.mg_none_of X G zmin,
    n_sorted := PySem.W.mg_none_of X G zsorted,
    n_type := PySem.W.mg_none_of X G ztype,
    n_zip := PySem.W.mg_none_of X G zzip,
    n_enumerate := PySem.W.mg_none_of X G zenumerate,
    n_dict := PySem.W.mg_none_of X G zdict }
theorem all_mk {l : PySem.W.OpenLaw} {w : World} {K : PySem.W.Frag} {h : Heap} {mg : Str → Option Value} {fa : Addr} (X : K.In h) (G : h.Ns mainGlobals mg) (hfa : mg "law" = some (.ref fa))
    {C0 : Addr}
    {C1 : Addr}
    {C2 : Addr}
    {C3 : Addr}
    {C4 : Addr}
    {C5 : Addr}
    {C6 : Addr}
    {f0 : Addr} {od0 an0 : Option Addr} {sl0 : Array (Option Value)} {oc0 kV0 dc0 pm0 ct0 : Value} {cd0 : Value}
    {f1 : Addr} {od1 an1 : Option Addr} {sl1 : Array (Option Value)} {oc1 kV1 dc1 pm1 ct1 : Value} {cd1 : Value}
    {f2 : Addr} {od2 an2 : Option Addr} {sl2 : Array (Option Value)} {oc2 kV2 dc2 pm2 ct2 : Value} {cd2 : Value}
    {f3 : Addr} {od3 an3 : Option Addr} {sl3 : Array (Option Value)} {oc3 kV3 dc3 pm3 ct3 : Value} {cc3 cp3 : Addr}
    {f4 : Addr} {od4 an4 : Option Addr} {sl4 : Array (Option Value)} {oc4 kV4 dc4 pm4 ct4 : Value} {cc4 cp4 : Addr}
    {f5 : Addr} {od5 an5 : Option Addr} {sl5 : Array (Option Value)} {oc5 kV5 dc5 pm5 ct5 : Value} {cd5 : Value}
    {f6 : Addr} {od6 an6 : Option Addr} {sl6 : Array (Option Value)} {oc6 kV6 dc6 pm6 ct6 : Value} {cd6 : Value}
    {f7 : Addr} {od7 an7 : Option Addr} {sl7 : Array (Option Value)} {oc7 kV7 dc7 pm7 ct7 : Value} {cd7 : Value}
    {f8 : Addr} {od8 an8 : Option Addr} {sl8 : Array (Option Value)} {oc8 kV8 dc8 pm8 ct8 : Value} {cd8 : Value}
    {f9 : Addr} {od9 an9 : Option Addr} {sl9 : Array (Option Value)} {oc9 kV9 dc9 pm9 ct9 : Value} {cd9 : Value}
    {f10 : Addr} {od10 an10 : Option Addr} {sl10 : Array (Option Value)} {oc10 kV10 dc10 pm10 ct10 : Value} {cd10 : Value}
    {f11 : Addr} {od11 an11 : Option Addr} {sl11 : Array (Option Value)} {oc11 kV11 dc11 pm11 ct11 : Value} {cd11 : Value}
    {f12 : Addr} {od12 an12 : Option Addr} {sl12 : Array (Option Value)} {oc12 kV12 dc12 pm12 ct12 : Value} {cd12 : Value}
    {f13 : Addr} {od13 an13 : Option Addr} {sl13 : Array (Option Value)} {oc13 kV13 dc13 pm13 ct13 : Value} {cd13 : Value}
    {f14 : Addr} {od14 an14 : Option Addr} {sl14 : Array (Option Value)} {oc14 kV14 dc14 pm14 ct14 : Value} {cd14 : Value}
    {f15 : Addr} {od15 an15 : Option Addr} {sl15 : Array (Option Value)} {oc15 kV15 dc15 pm15 ct15 : Value} {cd15 : Value}
    {f16 : Addr} {od16 an16 : Option Addr} {sl16 : Array (Option Value)} {oc16 kV16 dc16 pm16 ct16 : Value} {cd16 : Value}
    {f17 : Addr} {od17 an17 : Option Addr} {sl17 : Array (Option Value)} {oc17 kV17 dc17 pm17 ct17 : Value} {cd17 : Value}
    {f18 : Addr} {od18 an18 : Option Addr} {sl18 : Array (Option Value)} {oc18 kV18 dc18 pm18 ct18 : Value} {cd18 : Value}
    {f19 : Addr} {od19 an19 : Option Addr} {sl19 : Array (Option Value)} {oc19 kV19 dc19 pm19 ct19 : Value} {cd19 : Value}
    {f20 : Addr} {od20 an20 : Option Addr} {sl20 : Array (Option Value)} {oc20 kV20 dc20 pm20 ct20 : Value} {cd20 : Value}
    {f21 : Addr} {od21 an21 : Option Addr} {sl21 : Array (Option Value)} {oc21 kV21 dc21 pm21 ct21 : Value} {cd21 : Value}
    {f22 : Addr} {od22 an22 : Option Addr} {sl22 : Array (Option Value)} {oc22 kV22 dc22 pm22 ct22 : Value} {cd22 : Value}
    {f23 : Addr} {od23 an23 : Option Addr} {sl23 : Array (Option Value)} {oc23 kV23 dc23 pm23 ct23 : Value} {cd23 : Value}
    {f24 : Addr} {od24 an24 : Option Addr} {sl24 : Array (Option Value)} {oc24 kV24 dc24 pm24 ct24 : Value} {cd24 : Value}
    {f25 : Addr} {od25 an25 : Option Addr} {sl25 : Array (Option Value)} {oc25 kV25 dc25 pm25 ct25 : Value} {cd25 : Value}
    {f26 : Addr} {od26 an26 : Option Addr} {sl26 : Array (Option Value)} {oc26 kV26 dc26 pm26 ct26 : Value} {cd26 : Value}
    {f27 : Addr} {od27 an27 : Option Addr} {sl27 : Array (Option Value)} {oc27 kV27 dc27 pm27 ct27 : Value} {cd27 : Value}
    {f28 : Addr} {od28 an28 : Option Addr} {sl28 : Array (Option Value)} {oc28 kV28 dc28 pm28 ct28 : Value} {cd28 : Value}
    {f29 : Addr} {od29 an29 : Option Addr} {sl29 : Array (Option Value)} {oc29 kV29 dc29 pm29 ct29 : Value} {cd29 : Value}
    {f30 : Addr} {od30 an30 : Option Addr} {sl30 : Array (Option Value)} {oc30 kV30 dc30 pm30 ct30 : Value} {cd30 : Value}
    {f31 : Addr} {od31 an31 : Option Addr} {sl31 : Array (Option Value)} {oc31 kV31 dc31 pm31 ct31 : Value} {cd31 : Value}
    {f32 : Addr} {od32 an32 : Option Addr} {sl32 : Array (Option Value)} {oc32 kV32 dc32 pm32 ct32 : Value} {cd32 : Value}
    {f33 : Addr} {od33 an33 : Option Addr} {sl33 : Array (Option Value)} {oc33 kV33 dc33 pm33 ct33 : Value} {cd33 : Value}
    {f34 : Addr} {od34 an34 : Option Addr} {sl34 : Array (Option Value)} {oc34 kV34 dc34 pm34 ct34 : Value} {cd34 : Value}
    {f35 : Addr} {od35 an35 : Option Addr} {sl35 : Array (Option Value)} {oc35 kV35 dc35 pm35 ct35 : Value} {cd35 : Value}
    {f36 : Addr} {od36 an36 : Option Addr} {sl36 : Array (Option Value)} {oc36 kV36 dc36 pm36 ct36 : Value} {cd36 : Value}
    {f37 : Addr} {od37 an37 : Option Addr} {sl37 : Array (Option Value)} {oc37 kV37 dc37 pm37 ct37 : Value} {cd37 : Value}
    {f38 : Addr} {od38 an38 : Option Addr} {sl38 : Array (Option Value)} {oc38 kV38 dc38 pm38 ct38 : Value} {cd38 : Value}
    {f39 : Addr} {od39 an39 : Option Addr} {sl39 : Array (Option Value)} {oc39 kV39 dc39 pm39 ct39 : Value} {cd39 : Value}
    {f40 : Addr} {od40 an40 : Option Addr} {sl40 : Array (Option Value)} {oc40 kV40 dc40 pm40 ct40 : Value} {cd40 : Value}
    {f41 : Addr} {od41 an41 : Option Addr} {sl41 : Array (Option Value)} {oc41 kV41 dc41 pm41 ct41 : Value} {cd41 : Value}
    {f42 : Addr} {od42 an42 : Option Addr} {sl42 : Array (Option Value)} {oc42 kV42 dc42 pm42 ct42 : Value} {cd42 : Value}
    {tTOP : Tok}
    {tMOST : Tok}
    (ggC0 : PySem.W.nsIn K mainGlobals "BidError" = some (some (.ref C0)))
    (ggC1 : PySem.W.nsIn K mainGlobals "BadWish" = some (some (.ref C1)))
    (ggC2 : PySem.W.nsIn K mainGlobals "BadPrice" = some (some (.ref C2)))
    (ggC3 : PySem.W.nsIn K mainGlobals "BadPieces" = some (some (.ref C3)))
    (ggC4 : PySem.W.nsIn K mainGlobals "Uneven" = some (some (.ref C4)))
    (ggC5 : PySem.W.nsIn K mainGlobals "NoSuch" = some (some (.ref C5)))
    (ggC6 : PySem.W.nsIn K mainGlobals "Book" = some (some (.ref C6)))
    (pgC6 : PySem.W.plainGet K C6 Str.empty = true)
    (hdC6 : PySem.W.hasDictIn K C6 = true)
    (poC6 : PySem.W.plainOver K C6 = true)
    (saC6 : PySem.W.findIn K (.ref C6) "__setattr__" = some (some (.builtin "object.__setattr__")))
    (mkC6 : PySem.W.makesIn K C6 = true)
    (kcC6 : PySem.W.keepIn K (.ref C6) = true)
    (na0C6 : PySem.W.findIn K (.ref C6) "price" = some none)
    (na1C6 : PySem.W.findIn K (.ref C6) "_wishes" = some none)
    (na2C6 : PySem.W.findIn K (.ref C6) "_left" = some none)
    (na3C6 : PySem.W.findIn K (.ref C6) "_paid" = some none)
    (kpC1 : PySem.W.keepIn K (.ref C1) = true)
    (exC1 : PySem.W.excIn K C1 [.type "ValueError", .type "Exception", .type "BaseException", .type "object"] "ValueError.__new__" = true)
    (beC1 : PySem.W.subIn K (.ref C1) (.type "BaseException") = some true)
    (tyC1 : PySem.W.typeIn K (.ref C1) = some (.type "type"))
    (hgC1 : PySem.W.findIn K (.ref C1) "__getattribute__" = some (some (.builtin "BaseException.__getattribute__")))
    (hkC1 : PySem.W.findIn K (.ref C1) "__getattr__" = some none)
    (hdC1 : PySem.W.hasDictIn K C1 = true)
    (haC1 : PySem.W.findIn K (.ref C1) "__class__" = some (some (.builtin "object.__class__")))
    (hnC1 : PySem.W.specialIn K (.builtin "object.__class__") "__get__" = some (some (.builtin "getset_descriptor.__get__")))
    (htC1 : PySem.W.takesIn K (.builtin "object.__class__") = some true)
    (hmC1 : PySem.W.mroIn K C1 (.type "object") = some true)
    (vvC1 : PySem.W.kitOne K (.ref C1) (.type "ValueError") = some true)
    (iC1C0 : PySem.W.kitOne K (.ref C1) (.ref C0) = some true)
    (iC1C1 : PySem.W.kitOne K (.ref C1) (.ref C1) = some true)
    (iC1C2 : PySem.W.kitOne K (.ref C1) (.ref C2) = some false)
    (iC1C3 : PySem.W.kitOne K (.ref C1) (.ref C3) = some false)
    (iC1C4 : PySem.W.kitOne K (.ref C1) (.ref C4) = some false)
    (iC1C5 : PySem.W.kitOne K (.ref C1) (.ref C5) = some false)
    (kpC2 : PySem.W.keepIn K (.ref C2) = true)
    (exC2 : PySem.W.excIn K C2 [.type "ValueError", .type "Exception", .type "BaseException", .type "object"] "ValueError.__new__" = true)
    (beC2 : PySem.W.subIn K (.ref C2) (.type "BaseException") = some true)
    (tyC2 : PySem.W.typeIn K (.ref C2) = some (.type "type"))
    (hgC2 : PySem.W.findIn K (.ref C2) "__getattribute__" = some (some (.builtin "BaseException.__getattribute__")))
    (hkC2 : PySem.W.findIn K (.ref C2) "__getattr__" = some none)
    (hdC2 : PySem.W.hasDictIn K C2 = true)
    (haC2 : PySem.W.findIn K (.ref C2) "__class__" = some (some (.builtin "object.__class__")))
    (hnC2 : PySem.W.specialIn K (.builtin "object.__class__") "__get__" = some (some (.builtin "getset_descriptor.__get__")))
    (htC2 : PySem.W.takesIn K (.builtin "object.__class__") = some true)
    (hmC2 : PySem.W.mroIn K C2 (.type "object") = some true)
    (vvC2 : PySem.W.kitOne K (.ref C2) (.type "ValueError") = some true)
    (iC2C0 : PySem.W.kitOne K (.ref C2) (.ref C0) = some true)
    (iC2C1 : PySem.W.kitOne K (.ref C2) (.ref C1) = some false)
    (iC2C2 : PySem.W.kitOne K (.ref C2) (.ref C2) = some true)
    (iC2C3 : PySem.W.kitOne K (.ref C2) (.ref C3) = some false)
    (iC2C4 : PySem.W.kitOne K (.ref C2) (.ref C4) = some false)
    (iC2C5 : PySem.W.kitOne K (.ref C2) (.ref C5) = some false)
    (kpC3 : PySem.W.keepIn K (.ref C3) = true)
    (exC3 : PySem.W.excIn K C3 [.type "ValueError", .type "Exception", .type "BaseException", .type "object"] "ValueError.__new__" = true)
    (beC3 : PySem.W.subIn K (.ref C3) (.type "BaseException") = some true)
    (tyC3 : PySem.W.typeIn K (.ref C3) = some (.type "type"))
    (hgC3 : PySem.W.findIn K (.ref C3) "__getattribute__" = some (some (.builtin "BaseException.__getattribute__")))
    (hkC3 : PySem.W.findIn K (.ref C3) "__getattr__" = some none)
    (hdC3 : PySem.W.hasDictIn K C3 = true)
    (haC3 : PySem.W.findIn K (.ref C3) "__class__" = some (some (.builtin "object.__class__")))
    (hnC3 : PySem.W.specialIn K (.builtin "object.__class__") "__get__" = some (some (.builtin "getset_descriptor.__get__")))
    (htC3 : PySem.W.takesIn K (.builtin "object.__class__") = some true)
    (hmC3 : PySem.W.mroIn K C3 (.type "object") = some true)
    (vvC3 : PySem.W.kitOne K (.ref C3) (.type "ValueError") = some true)
    (iC3C0 : PySem.W.kitOne K (.ref C3) (.ref C0) = some true)
    (iC3C1 : PySem.W.kitOne K (.ref C3) (.ref C1) = some false)
    (iC3C2 : PySem.W.kitOne K (.ref C3) (.ref C2) = some false)
    (iC3C3 : PySem.W.kitOne K (.ref C3) (.ref C3) = some true)
    (iC3C4 : PySem.W.kitOne K (.ref C3) (.ref C4) = some false)
    (iC3C5 : PySem.W.kitOne K (.ref C3) (.ref C5) = some false)
    (kpC4 : PySem.W.keepIn K (.ref C4) = true)
    (exC4 : PySem.W.excIn K C4 [.type "ValueError", .type "Exception", .type "BaseException", .type "object"] "ValueError.__new__" = true)
    (beC4 : PySem.W.subIn K (.ref C4) (.type "BaseException") = some true)
    (tyC4 : PySem.W.typeIn K (.ref C4) = some (.type "type"))
    (hgC4 : PySem.W.findIn K (.ref C4) "__getattribute__" = some (some (.builtin "BaseException.__getattribute__")))
    (hkC4 : PySem.W.findIn K (.ref C4) "__getattr__" = some none)
    (hdC4 : PySem.W.hasDictIn K C4 = true)
    (haC4 : PySem.W.findIn K (.ref C4) "__class__" = some (some (.builtin "object.__class__")))
    (hnC4 : PySem.W.specialIn K (.builtin "object.__class__") "__get__" = some (some (.builtin "getset_descriptor.__get__")))
    (htC4 : PySem.W.takesIn K (.builtin "object.__class__") = some true)
    (hmC4 : PySem.W.mroIn K C4 (.type "object") = some true)
    (vvC4 : PySem.W.kitOne K (.ref C4) (.type "ValueError") = some true)
    (iC4C0 : PySem.W.kitOne K (.ref C4) (.ref C0) = some true)
    (iC4C1 : PySem.W.kitOne K (.ref C4) (.ref C1) = some false)
    (iC4C2 : PySem.W.kitOne K (.ref C4) (.ref C2) = some false)
    (iC4C3 : PySem.W.kitOne K (.ref C4) (.ref C3) = some false)
    (iC4C4 : PySem.W.kitOne K (.ref C4) (.ref C4) = some true)
    (iC4C5 : PySem.W.kitOne K (.ref C4) (.ref C5) = some false)
    (kpC5 : PySem.W.keepIn K (.ref C5) = true)
    (exC5 : PySem.W.excIn K C5 [.type "ValueError", .type "Exception", .type "BaseException", .type "object"] "ValueError.__new__" = true)
    (beC5 : PySem.W.subIn K (.ref C5) (.type "BaseException") = some true)
    (tyC5 : PySem.W.typeIn K (.ref C5) = some (.type "type"))
    (hgC5 : PySem.W.findIn K (.ref C5) "__getattribute__" = some (some (.builtin "BaseException.__getattribute__")))
    (hkC5 : PySem.W.findIn K (.ref C5) "__getattr__" = some none)
    (hdC5 : PySem.W.hasDictIn K C5 = true)
    (haC5 : PySem.W.findIn K (.ref C5) "__class__" = some (some (.builtin "object.__class__")))
    (hnC5 : PySem.W.specialIn K (.builtin "object.__class__") "__get__" = some (some (.builtin "getset_descriptor.__get__")))
    (htC5 : PySem.W.takesIn K (.builtin "object.__class__") = some true)
    (hmC5 : PySem.W.mroIn K C5 (.type "object") = some true)
    (vvC5 : PySem.W.kitOne K (.ref C5) (.type "ValueError") = some true)
    (iC5C0 : PySem.W.kitOne K (.ref C5) (.ref C0) = some true)
    (iC5C1 : PySem.W.kitOne K (.ref C5) (.ref C1) = some false)
    (iC5C2 : PySem.W.kitOne K (.ref C5) (.ref C2) = some false)
    (iC5C3 : PySem.W.kitOne K (.ref C5) (.ref C3) = some false)
    (iC5C4 : PySem.W.kitOne K (.ref C5) (.ref C4) = some false)
    (iC5C5 : PySem.W.kitOne K (.ref C5) (.ref C5) = some true)
    (a0 : PySem.W.nsIn K mainGlobals "is_number" = some (some (.ref f0)))
    (l0 : K.lookup f0 = some ⟨oc0, od0, .func (PySem.W.fnOf "is_number" "is_number" (defArgs s_is_number) (defBody s_is_number) (defScope s_is_number) .none kV0 dc0 pm0 an0 cd0 ct0), sl0⟩)
    (c0 : PySem.W.codeIn K cd0 "is_number" = true) (k0 : PySem.W.keepIn K (.ref f0) = true)
    (a1 : PySem.W.nsIn K mainGlobals "is_side" = some (some (.ref f1)))
    (l1 : K.lookup f1 = some ⟨oc1, od1, .func (PySem.W.fnOf "is_side" "is_side" (defArgs s_is_side) (defBody s_is_side) (defScope s_is_side) .none kV1 dc1 pm1 an1 cd1 ct1), sl1⟩)
    (c1 : PySem.W.codeIn K cd1 "is_side" = true) (k1 : PySem.W.keepIn K (.ref f1) = true)
    (a2 : PySem.W.nsIn K mainGlobals "checked" = some (some (.ref f2)))
    (l2 : K.lookup f2 = some ⟨oc2, od2, .func (PySem.W.fnOf "checked" "checked" (defArgs s_checked) (defBody s_checked) (defScope s_checked) .none kV2 dc2 pm2 an2 cd2 ct2), sl2⟩)
    (c2 : PySem.W.codeIn K cd2 "checked" = true) (k2 : PySem.W.keepIn K (.ref f2) = true)
    (a3 : PySem.W.nsIn K mainGlobals "wanted" = some (some (.ref f3)))
    (l3 : K.lookup f3 = some ⟨oc3, od3, .func (PySem.W.fnOf "wanted" "wanted" (defArgs s_wanted) (defBody s_wanted) (defScope s_wanted) .none kV3 dc3 pm3 an3 (.ref cc3) ct3), sl3⟩)
    (c3 : PySem.W.codeIn K (.ref cc3) "wanted" = true) (k3 : PySem.W.keepIn K (.ref f3) = true)
    (a4 : PySem.W.nsIn K mainGlobals "offered" = some (some (.ref f4)))
    (l4 : K.lookup f4 = some ⟨oc4, od4, .func (PySem.W.fnOf "offered" "offered" (defArgs s_offered) (defBody s_offered) (defScope s_offered) .none kV4 dc4 pm4 an4 (.ref cc4) ct4), sl4⟩)
    (c4 : PySem.W.codeIn K (.ref cc4) "offered" = true) (k4 : PySem.W.keepIn K (.ref f4) = true)
    (a5 : PySem.W.nsIn K mainGlobals "checked_price" = some (some (.ref f5)))
    (l5 : K.lookup f5 = some ⟨oc5, od5, .func (PySem.W.fnOf "checked_price" "checked_price" (defArgs s_checked_price) (defBody s_checked_price) (defScope s_checked_price) .none kV5 dc5 pm5 an5 cd5 ct5), sl5⟩)
    (c5 : PySem.W.codeIn K cd5 "checked_price" = true) (k5 : PySem.W.keepIn K (.ref f5) = true)
    (a6 : PySem.W.nsIn K mainGlobals "is_too_low" = some (some (.ref f6)))
    (l6 : K.lookup f6 = some ⟨oc6, od6, .func (PySem.W.fnOf "is_too_low" "is_too_low" (defArgs s_is_too_low) (defBody s_is_too_low) (defScope s_is_too_low) .none kV6 dc6 pm6 an6 cd6 ct6), sl6⟩)
    (c6 : PySem.W.codeIn K cd6 "is_too_low" = true) (k6 : PySem.W.keepIn K (.ref f6) = true)
    (a7 : PySem.W.nsIn K mainGlobals "is_too_high" = some (some (.ref f7)))
    (l7 : K.lookup f7 = some ⟨oc7, od7, .func (PySem.W.fnOf "is_too_high" "is_too_high" (defArgs s_is_too_high) (defBody s_is_too_high) (defScope s_is_too_high) .none kV7 dc7 pm7 an7 cd7 ct7), sl7⟩)
    (c7 : PySem.W.codeIn K cd7 "is_too_high" = true) (k7 : PySem.W.keepIn K (.ref f7) = true)
    (a8 : PySem.W.nsIn K mainGlobals "lowest" = some (some (.ref f8)))
    (l8 : K.lookup f8 = some ⟨oc8, od8, .func (PySem.W.fnOf "lowest" "lowest" (defArgs s_lowest) (defBody s_lowest) (defScope s_lowest) .none kV8 dc8 pm8 an8 cd8 ct8), sl8⟩)
    (c8 : PySem.W.codeIn K cd8 "lowest" = true) (k8 : PySem.W.keepIn K (.ref f8) = true)
    (a9 : PySem.W.nsIn K mainGlobals "highest" = some (some (.ref f9)))
    (l9 : K.lookup f9 = some ⟨oc9, od9, .func (PySem.W.fnOf "highest" "highest" (defArgs s_highest) (defBody s_highest) (defScope s_highest) .none kV9 dc9 pm9 an9 cd9 ct9), sl9⟩)
    (c9 : PySem.W.codeIn K cd9 "highest" = true) (k9 : PySem.W.keepIn K (.ref f9) = true)
    (a10 : PySem.W.nsIn K mainGlobals "price_by" = some (some (.ref f10)))
    (l10 : K.lookup f10 = some ⟨oc10, od10, .func (PySem.W.fnOf "price_by" "price_by" (defArgs s_price_by) (defBody s_price_by) (defScope s_price_by) .none kV10 dc10 pm10 an10 cd10 ct10), sl10⟩)
    (c10 : PySem.W.codeIn K cd10 "price_by" = true) (k10 : PySem.W.keepIn K (.ref f10) = true)
    (a11 : PySem.W.nsIn K mainGlobals "check_pieces" = some (some (.ref f11)))
    (l11 : K.lookup f11 = some ⟨oc11, od11, .func (PySem.W.fnOf "check_pieces" "check_pieces" (defArgs s_check_pieces) (defBody s_check_pieces) (defScope s_check_pieces) .none kV11 dc11 pm11 an11 cd11 ct11), sl11⟩)
    (c11 : PySem.W.codeIn K cd11 "check_pieces" = true) (k11 : PySem.W.keepIn K (.ref f11) = true)
    (a12 : PySem.W.nsIn K mainGlobals "buyers_in_turn" = some (some (.ref f12)))
    (l12 : K.lookup f12 = some ⟨oc12, od12, .func (PySem.W.fnOf "buyers_in_turn" "buyers_in_turn" (defArgs s_buyers_in_turn) (defBody s_buyers_in_turn) (defScope s_buyers_in_turn) .none kV12 dc12 pm12 an12 cd12 ct12), sl12⟩)
    (c12 : PySem.W.codeIn K cd12 "buyers_in_turn" = true) (k12 : PySem.W.keepIn K (.ref f12) = true)
    (a13 : PySem.W.nsIn K mainGlobals "sellers_in_turn" = some (some (.ref f13)))
    (l13 : K.lookup f13 = some ⟨oc13, od13, .func (PySem.W.fnOf "sellers_in_turn" "sellers_in_turn" (defArgs s_sellers_in_turn) (defBody s_sellers_in_turn) (defScope s_sellers_in_turn) .none kV13 dc13 pm13 an13 cd13 ct13), sl13⟩)
    (c13 : PySem.W.codeIn K cd13 "sellers_in_turn" = true) (k13 : PySem.W.keepIn K (.ref f13) = true)
    (a14 : PySem.W.nsIn K mainGlobals "pieces_at" = some (some (.ref f14)))
    (l14 : K.lookup f14 = some ⟨oc14, od14, .func (PySem.W.fnOf "pieces_at" "pieces_at" (defArgs s_pieces_at) (defBody s_pieces_at) (defScope s_pieces_at) .none kV14 dc14 pm14 an14 cd14 ct14), sl14⟩)
    (c14 : PySem.W.codeIn K cd14 "pieces_at" = true) (k14 : PySem.W.keepIn K (.ref f14) = true)
    (a15 : PySem.W.nsIn K mainGlobals "pieces_of_side" = some (some (.ref f15)))
    (l15 : K.lookup f15 = some ⟨oc15, od15, .func (PySem.W.fnOf "pieces_of_side" "pieces_of_side" (defArgs s_pieces_of_side) (defBody s_pieces_of_side) (defScope s_pieces_of_side) .none kV15 dc15 pm15 an15 cd15 ct15), sl15⟩)
    (c15 : PySem.W.codeIn K cd15 "pieces_of_side" = true) (k15 : PySem.W.keepIn K (.ref f15) = true)
    (a16 : PySem.W.nsIn K mainGlobals "even" = some (some (.ref f16)))
    (l16 : K.lookup f16 = some ⟨oc16, od16, .func (PySem.W.fnOf "even" "even" (defArgs s_even) (defBody s_even) (defScope s_even) .none kV16 dc16 pm16 an16 cd16 ct16), sl16⟩)
    (c16 : PySem.W.codeIn K cd16 "even" = true) (k16 : PySem.W.keepIn K (.ref f16) = true)
    (a17 : PySem.W.nsIn K mainGlobals "dealers" = some (some (.ref f17)))
    (l17 : K.lookup f17 = some ⟨oc17, od17, .func (PySem.W.fnOf "dealers" "dealers" (defArgs s_dealers) (defBody s_dealers) (defScope s_dealers) .none kV17 dc17 pm17 an17 cd17 ct17), sl17⟩)
    (c17 : PySem.W.codeIn K cd17 "dealers" = true) (k17 : PySem.W.keepIn K (.ref f17) = true)
    (a18 : PySem.W.nsIn K mainGlobals "pairs" = some (some (.ref f18)))
    (l18 : K.lookup f18 = some ⟨oc18, od18, .func (PySem.W.fnOf "pairs" "pairs" (defArgs s_pairs) (defBody s_pairs) (defScope s_pairs) .none kV18 dc18 pm18 an18 cd18 ct18), sl18⟩)
    (c18 : PySem.W.codeIn K cd18 "pairs" = true) (k18 : PySem.W.keepIn K (.ref f18) = true)
    (a19 : PySem.W.findIn K (.ref C6) "__init__" = some (some (.ref f19))) (i19 : PySem.W.isFn K (.ref f19) = true)
    (l19 : K.lookup f19 = some ⟨oc19, od19, .func (PySem.W.fnOf "__init__" "Book.__init__" (defArgs s___init__) (defBody s___init__) (defScope s___init__) .none kV19 dc19 pm19 an19 cd19 ct19), sl19⟩)
    (c19 : PySem.W.codeIn K cd19 "Book.__init__" = true) (k19 : PySem.W.keepIn K (.ref f19) = true)
    (a20 : PySem.W.findIn K (.ref C6) "add" = some (some (.ref f20))) (i20 : PySem.W.isFn K (.ref f20) = true)
    (l20 : K.lookup f20 = some ⟨oc20, od20, .func (PySem.W.fnOf "add" "Book.add" (defArgs s_add) (defBody s_add) (defScope s_add) .none kV20 dc20 pm20 an20 cd20 ct20), sl20⟩)
    (c20 : PySem.W.codeIn K cd20 "Book.add" = true) (k20 : PySem.W.keepIn K (.ref f20) = true)
    (a21 : PySem.W.findIn K (.ref C6) "_known" = some (some (.ref f21))) (i21 : PySem.W.isFn K (.ref f21) = true)
    (l21 : K.lookup f21 = some ⟨oc21, od21, .func (PySem.W.fnOf "_known" "Book._known" (defArgs s__known) (defBody s__known) (defScope s__known) .none kV21 dc21 pm21 an21 cd21 ct21), sl21⟩)
    (c21 : PySem.W.codeIn K cd21 "Book._known" = true) (k21 : PySem.W.keepIn K (.ref f21) = true)
    (a22 : PySem.W.findIn K (.ref C6) "left" = some (some (.ref f22))) (i22 : PySem.W.isFn K (.ref f22) = true)
    (l22 : K.lookup f22 = some ⟨oc22, od22, .func (PySem.W.fnOf "left" "Book.left" (defArgs s_left) (defBody s_left) (defScope s_left) .none kV22 dc22 pm22 an22 cd22 ct22), sl22⟩)
    (c22 : PySem.W.codeIn K cd22 "Book.left" = true) (k22 : PySem.W.keepIn K (.ref f22) = true)
    (a23 : PySem.W.findIn K (.ref C6) "paid" = some (some (.ref f23))) (i23 : PySem.W.isFn K (.ref f23) = true)
    (l23 : K.lookup f23 = some ⟨oc23, od23, .func (PySem.W.fnOf "paid" "Book.paid" (defArgs s_paid) (defBody s_paid) (defScope s_paid) .none kV23 dc23 pm23 an23 cd23 ct23), sl23⟩)
    (c23 : PySem.W.codeIn K cd23 "Book.paid" = true) (k23 : PySem.W.keepIn K (.ref f23) = true)
    (a24 : PySem.W.findIn K (.ref C6) "drop" = some (some (.ref f24))) (i24 : PySem.W.isFn K (.ref f24) = true)
    (l24 : K.lookup f24 = some ⟨oc24, od24, .func (PySem.W.fnOf "drop" "Book.drop" (defArgs s_drop) (defBody s_drop) (defScope s_drop) .none kV24 dc24 pm24 an24 cd24 ct24), sl24⟩)
    (c24 : PySem.W.codeIn K cd24 "Book.drop" = true) (k24 : PySem.W.keepIn K (.ref f24) = true)
    (a25 : PySem.W.findIn K (.ref C6) "standing" = some (some (.ref f25))) (i25 : PySem.W.isFn K (.ref f25) = true)
    (l25 : K.lookup f25 = some ⟨oc25, od25, .func (PySem.W.fnOf "standing" "Book.standing" (defArgs s_standing) (defBody s_standing) (defScope s_standing) .none kV25 dc25 pm25 an25 cd25 ct25), sl25⟩)
    (c25 : PySem.W.codeIn K cd25 "Book.standing" = true) (k25 : PySem.W.keepIn K (.ref f25) = true)
    (a26 : PySem.W.findIn K (.ref C6) "_settle" = some (some (.ref f26))) (i26 : PySem.W.isFn K (.ref f26) = true)
    (l26 : K.lookup f26 = some ⟨oc26, od26, .func (PySem.W.fnOf "_settle" "Book._settle" (defArgs s__settle) (defBody s__settle) (defScope s__settle) .none kV26 dc26 pm26 an26 cd26 ct26), sl26⟩)
    (c26 : PySem.W.codeIn K cd26 "Book._settle" = true) (k26 : PySem.W.keepIn K (.ref f26) = true)
    (a27 : PySem.W.findIn K (.ref C6) "ring" = some (some (.ref f27))) (i27 : PySem.W.isFn K (.ref f27) = true)
    (l27 : K.lookup f27 = some ⟨oc27, od27, .func (PySem.W.fnOf "ring" "Book.ring" (defArgs s_ring) (defBody s_ring) (defScope s_ring) .none kV27 dc27 pm27 an27 cd27 ct27), sl27⟩)
    (c27 : PySem.W.codeIn K cd27 "Book.ring" = true) (k27 : PySem.W.keepIn K (.ref f27) = true)
    (a28 : PySem.W.nsIn K mainGlobals "_law_cell_at" = some (some (.ref f28)))
    (l28 : K.lookup f28 = some ⟨oc28, od28, .func (PySem.W.fnOf "_law_cell_at" "_law_cell_at" (defArgs s__law_cell_at) (defBody s__law_cell_at) (defScope s__law_cell_at) .none kV28 dc28 pm28 an28 cd28 ct28), sl28⟩)
    (c28 : PySem.W.codeIn K cd28 "_law_cell_at" = true) (k28 : PySem.W.keepIn K (.ref f28) = true)
    (a29 : PySem.W.nsIn K mainGlobals "_law_whole" = some (some (.ref f29)))
    (l29 : K.lookup f29 = some ⟨oc29, od29, .func (PySem.W.fnOf "_law_whole" "_law_whole" (defArgs s__law_whole) (defBody s__law_whole) (defScope s__law_whole) .none kV29 dc29 pm29 an29 cd29 ct29), sl29⟩)
    (c29 : PySem.W.codeIn K cd29 "_law_whole" = true) (k29 : PySem.W.keepIn K (.ref f29) = true)
    (a30 : PySem.W.nsIn K mainGlobals "_law_wish_by" = some (some (.ref f30)))
    (l30 : K.lookup f30 = some ⟨oc30, od30, .func (PySem.W.fnOf "_law_wish_by" "_law_wish_by" (defArgs s__law_wish_by) (defBody s__law_wish_by) (defScope s__law_wish_by) .none kV30 dc30 pm30 an30 cd30 ct30), sl30⟩)
    (c30 : PySem.W.codeIn K cd30 "_law_wish_by" = true) (k30 : PySem.W.keepIn K (.ref f30) = true)
    (a31 : PySem.W.nsIn K mainGlobals "_law_sum" = some (some (.ref f31)))
    (l31 : K.lookup f31 = some ⟨oc31, od31, .func (PySem.W.fnOf "_law_sum" "_law_sum" (defArgs s__law_sum) (defBody s__law_sum) (defScope s__law_sum) .none kV31 dc31 pm31 an31 cd31 ct31), sl31⟩)
    (c31 : PySem.W.codeIn K cd31 "_law_sum" = true) (k31 : PySem.W.keepIn K (.ref f31) = true)
    (a32 : PySem.W.nsIn K mainGlobals "_law_clears" = some (some (.ref f32)))
    (l32 : K.lookup f32 = some ⟨oc32, od32, .func (PySem.W.fnOf "_law_clears" "_law_clears" (defArgs s__law_clears) (defBody s__law_clears) (defScope s__law_clears) .none kV32 dc32 pm32 an32 cd32 ct32), sl32⟩)
    (c32 : PySem.W.codeIn K cd32 "_law_clears" = true) (k32 : PySem.W.keepIn K (.ref f32) = true)
    (a33 : PySem.W.nsIn K mainGlobals "_law_priced" = some (some (.ref f33)))
    (l33 : K.lookup f33 = some ⟨oc33, od33, .func (PySem.W.fnOf "_law_priced" "_law_priced" (defArgs s__law_priced) (defBody s__law_priced) (defScope s__law_priced) .none kV33 dc33 pm33 an33 cd33 ct33), sl33⟩)
    (c33 : PySem.W.codeIn K cd33 "_law_priced" = true) (k33 : PySem.W.keepIn K (.ref f33) = true)
    (a34 : PySem.W.nsIn K mainGlobals "_law_deal_good" = some (some (.ref f34)))
    (l34 : K.lookup f34 = some ⟨oc34, od34, .func (PySem.W.fnOf "_law_deal_good" "_law_deal_good" (defArgs s__law_deal_good) (defBody s__law_deal_good) (defScope s__law_deal_good) .none kV34 dc34 pm34 an34 cd34 ct34), sl34⟩)
    (c34 : PySem.W.codeIn K cd34 "_law_deal_good" = true) (k34 : PySem.W.keepIn K (.ref f34) = true)
    (a35 : PySem.W.nsIn K mainGlobals "_law_quiet" = some (some (.ref f35)))
    (l35 : K.lookup f35 = some ⟨oc35, od35, .func (PySem.W.fnOf "_law_quiet" "_law_quiet" (defArgs s__law_quiet) (defBody s__law_quiet) (defScope s__law_quiet) .none kV35 dc35 pm35 an35 cd35 ct35), sl35⟩)
    (c35 : PySem.W.codeIn K cd35 "_law_quiet" = true) (k35 : PySem.W.keepIn K (.ref f35) = true)
    (a36 : PySem.W.nsIn K mainGlobals "_law_served" = some (some (.ref f36)))
    (l36 : K.lookup f36 = some ⟨oc36, od36, .func (PySem.W.fnOf "_law_served" "_law_served" (defArgs s__law_served) (defBody s__law_served) (defScope s__law_served) .none kV36 dc36 pm36 an36 cd36 ct36), sl36⟩)
    (c36 : PySem.W.codeIn K cd36 "_law_served" = true) (k36 : PySem.W.keepIn K (.ref f36) = true)
    (a37 : PySem.W.nsIn K mainGlobals "_law_got" = some (some (.ref f37)))
    (l37 : K.lookup f37 = some ⟨oc37, od37, .func (PySem.W.fnOf "_law_got" "_law_got" (defArgs s__law_got) (defBody s__law_got) (defScope s__law_got) .none kV37 dc37 pm37 an37 cd37 ct37), sl37⟩)
    (c37 : PySem.W.codeIn K cd37 "_law_got" = true) (k37 : PySem.W.keepIn K (.ref f37) = true)
    (a38 : PySem.W.nsIn K mainGlobals "_law_rising" = some (some (.ref f38)))
    (l38 : K.lookup f38 = some ⟨oc38, od38, .func (PySem.W.fnOf "_law_rising" "_law_rising" (defArgs s__law_rising) (defBody s__law_rising) (defScope s__law_rising) .none kV38 dc38 pm38 an38 cd38 ct38), sl38⟩)
    (c38 : PySem.W.codeIn K cd38 "_law_rising" = true) (k38 : PySem.W.keepIn K (.ref f38) = true)
    (a39 : PySem.W.nsIn K mainGlobals "_law_stood" = some (some (.ref f39)))
    (l39 : K.lookup f39 = some ⟨oc39, od39, .func (PySem.W.fnOf "_law_stood" "_law_stood" (defArgs s__law_stood) (defBody s__law_stood) (defScope s__law_stood) .none kV39 dc39 pm39 an39 cd39 ct39), sl39⟩)
    (c39 : PySem.W.codeIn K cd39 "_law_stood" = true) (k39 : PySem.W.keepIn K (.ref f39) = true)
    (a40 : PySem.W.nsIn K mainGlobals "_law_ring" = some (some (.ref f40)))
    (l40 : K.lookup f40 = some ⟨oc40, od40, .func (PySem.W.fnOf "_law_ring" "_law_ring" (defArgs s__law_ring) (defBody s__law_ring) (defScope s__law_ring) .none kV40 dc40 pm40 an40 cd40 ct40), sl40⟩)
    (c40 : PySem.W.codeIn K cd40 "_law_ring" = true) (k40 : PySem.W.keepIn K (.ref f40) = true)
    (a41 : PySem.W.nsIn K mainGlobals "_law_ended" = some (some (.ref f41)))
    (l41 : K.lookup f41 = some ⟨oc41, od41, .func (PySem.W.fnOf "_law_ended" "_law_ended" (defArgs s__law_ended) (defBody s__law_ended) (defScope s__law_ended) .none kV41 dc41 pm41 an41 cd41 ct41), sl41⟩)
    (c41 : PySem.W.codeIn K cd41 "_law_ended" = true) (k41 : PySem.W.keepIn K (.ref f41) = true)
    (a42 : PySem.W.nsIn K mainGlobals "law" = some (some (.ref f42)))
    (l42 : K.lookup f42 = some ⟨oc42, od42, .func (PySem.W.fnOf "law" "law" (defArgs s_law) (defBody s_law) (defScope s_law) .none kV42 dc42 pm42 an42 cd42 ct42), sl42⟩)
    (c42 : PySem.W.codeIn K cd42 "law" = true) (k42 : PySem.W.keepIn K (.ref f42) = true)
    (vTOP : PySem.W.nsIn K mainGlobals "TOP" = some (some (.int 1000000000 tTOP)))
    (vMOST : PySem.W.nsIn K mainGlobals "MOST" = some (some (.int 1000000 tMOST)))
    (zlen : PySem.W.nsIn K mainGlobals "len" = some none)
    (zrange : PySem.W.nsIn K mainGlobals "range" = some none)
    (zisinstance : PySem.W.nsIn K mainGlobals "isinstance" = some none)
    (zlist : PySem.W.nsIn K mainGlobals "list" = some none)
    (ztuple : PySem.W.nsIn K mainGlobals "tuple" = some none)
    (zint : PySem.W.nsIn K mainGlobals "int" = some none)
    (zbool : PySem.W.nsIn K mainGlobals "bool" = some none)
    (zstr : PySem.W.nsIn K mainGlobals "str" = some none)
    (zsum : PySem.W.nsIn K mainGlobals "sum" = some none)
    (zmax : PySem.W.nsIn K mainGlobals "max" = some none)
    (zmin : PySem.W.nsIn K mainGlobals "min" = some none)
    (zsorted : PySem.W.nsIn K mainGlobals "sorted" = some none)
    (ztype : PySem.W.nsIn K mainGlobals "type" = some none)
    (zzip : PySem.W.nsIn K mainGlobals "zip" = some none)
    (zenumerate : PySem.W.nsIn K mainGlobals "enumerate" = some none)
    (zdict : PySem.W.nsIn K mainGlobals "dict" = some none) : LawG l w K CX0 20 63 "_law_script" mg fa h [(cc3, cp3), (cc4, cp4)] := by
  have e := hfa.symm.trans (PySem.W.mg_of X G a42)
  cases e
  refine ⟨_, SpLaw K [cp3, cp4], fun s v => .of_eq rfl, fun H a ns hl hb hT hS => ⟨a, ns, rfl, hS, hl, fun P hP => ?_, fun _ => rfl⟩, fun base h1 h2 h3 => ok_law (mkTxt X G ggC0 ggC1 ggC2 ggC3 ggC4 ggC5 ggC6 pgC6 hdC6 poC6 saC6 mkC6 kcC6 na0C6 na1C6 na2C6 na3C6 kpC1 exC1 beC1 tyC1 hgC1 hkC1 hdC1 haC1 hnC1 htC1 hmC1 vvC1 iC1C0 iC1C1 iC1C2 iC1C3 iC1C4 iC1C5 kpC2 exC2 beC2 tyC2 hgC2 hkC2 hdC2 haC2 hnC2 htC2 hmC2 vvC2 iC2C0 iC2C1 iC2C2 iC2C3 iC2C4 iC2C5 kpC3 exC3 beC3 tyC3 hgC3 hkC3 hdC3 haC3 hnC3 htC3 hmC3 vvC3 iC3C0 iC3C1 iC3C2 iC3C3 iC3C4 iC3C5 kpC4 exC4 beC4 tyC4 hgC4 hkC4 hdC4 haC4 hnC4 htC4 hmC4 vvC4 iC4C0 iC4C1 iC4C2 iC4C3 iC4C4 iC4C5 kpC5 exC5 beC5 tyC5 hgC5 hkC5 hdC5 haC5 hnC5 htC5 hmC5 vvC5 iC5C0 iC5C1 iC5C2 iC5C3 iC5C4 iC5C5 a0 l0 c0 k0 a1 l1 c1 k1 a2 l2 c2 k2 a3 l3 c3 k3 a4 l4 c4 k4 a5 l5 c5 k5 a6 l6 c6 k6 a7 l7 c7 k7 a8 l8 c8 k8 a9 l9 c9 k9 a10 l10 c10 k10 a11 l11 c11 k11 a12 l12 c12 k12 a13 l13 c13 k13 a14 l14 c14 k14 a15 l15 c15 k15 a16 l16 c16 k16 a17 l17 c17 k17 a18 l18 c18 k18 a19 i19 l19 c19 k19 a20 i20 l20 c20 k20 a21 i21 l21 c21 k21 a22 i22 l22 c22 k22 a23 i23 l23 c23 k23 a24 i24 l24 c24 k24 a25 i25 l25 c25 k25 a26 i26 l26 c26 k26 a27 i27 l27 c27 k27 a28 l28 c28 k28 a29 l29 c29 k29 a30 l30 c30 k30 a31 l31 c31 k31 a32 l32 c32 k32 a33 l33 c33 k33 a34 l34 c34 k34 a35 l35 c35 k35 a36 l36 c36 k36 a37 l37 c37 k37 a38 l38 c38 k38 a39 l39 c39 k39 a40 l40 c40 k40 a41 l41 c41 k41 a42 l42 c42 k42 vTOP vMOST zlen zrange zisinstance zlist ztuple zint zbool zstr zsum zmax zmin zsorted ztype zzip zenumerate zdict (cp3 := cp3) (cp4 := cp4)) (h3 _ (by exact List.mem_cons_self)) (h3 _ (by exact List.mem_cons_of_mem _ (List.mem_cons_self)))⟩
  obtain ⟨p, hp, e⟩ : ∃ p ∈ ([(cc3, cp3), (cc4, cp4)] : List (Addr × Addr)), p.2 = P := by simpa [eq_comm] using hP
  exact ⟨#[], by rw [← e]; exact hT p hp, True.intro⟩
end My
open PySem PySem.W PyProof.Rows
set_option maxHeartbeats 8000000 in
theorem PySem.Challenge.cw_bidclear_k14_whole_rings_holds : PySem.Challenge.rw_bidclear_k14_whole_rings.Holds := by
  w_on; o_law; k_head; (case hw => w_witness2)
  k_fill
  refine' My.walk_gen (l := PySem.Challenge.rw_bidclear_k14_whole_rings) (n := 63) (k := 20) (x := "_law_script") (CX := fun _ => L2.CX0) ["wanted", "offered"] [(?hc0, ?hp0), (?hc1, ?hp1)] rfl (by decide) rfl ⟨rfl, by decide, by decide⟩ (fun w h Y => PySem.W.kIn_of Y) (by decide +kernel) ?tab ?nl ?F (fun _ _ _ _ _ h => h)
  case tab =>
    intro w
    exact List.forall_mem_cons.mpr ⟨⟨"wanted", List.mem_cons_self, by rfl⟩, List.forall_mem_cons.mpr ⟨⟨"offered", List.mem_cons_of_mem _ (List.mem_cons_self), by rfl⟩, fun _ h => nomatch h⟩⟩
  case nl =>
    intro w
    exact List.forall_mem_cons.mpr ⟨by kernel_rfl, List.forall_mem_cons.mpr ⟨by kernel_rfl, fun _ h => nomatch h⟩⟩
  case F =>
    intro w mg fa h Y KX G hmg
    refine' My.all_mk KX G hmg ?ggC0 ?ggC1 ?ggC2 ?ggC3 ?ggC4 ?ggC5 ?ggC6 ?pgC6 ?hdC6 ?poC6 ?saC6 ?mkC6 ?kcC6 ?na0C6 ?na1C6 ?na2C6 ?na3C6 ?kpC1 ?exC1 ?beC1 ?tyC1 ?hgC1 ?hkC1 ?hdC1 ?haC1 ?hnC1 ?htC1 ?hmC1 ?vvC1 ?iC1C0 ?iC1C1 ?iC1C2 ?iC1C3 ?iC1C4 ?iC1C5 ?kpC2 ?exC2 ?beC2 ?tyC2 ?hgC2 ?hkC2 ?hdC2 ?haC2 ?hnC2 ?htC2 ?hmC2 ?vvC2 ?iC2C0 ?iC2C1 ?iC2C2 ?iC2C3 ?iC2C4 ?iC2C5 ?kpC3 ?exC3 ?beC3 ?tyC3 ?hgC3 ?hkC3 ?hdC3 ?haC3 ?hnC3 ?htC3 ?hmC3 ?vvC3 ?iC3C0 ?iC3C1 ?iC3C2 ?iC3C3 ?iC3C4 ?iC3C5 ?kpC4 ?exC4 ?beC4 ?tyC4 ?hgC4 ?hkC4 ?hdC4 ?haC4 ?hnC4 ?htC4 ?hmC4 ?vvC4 ?iC4C0 ?iC4C1 ?iC4C2 ?iC4C3 ?iC4C4 ?iC4C5 ?kpC5 ?exC5 ?beC5 ?tyC5 ?hgC5 ?hkC5 ?hdC5 ?haC5 ?hnC5 ?htC5 ?hmC5 ?vvC5 ?iC5C0 ?iC5C1 ?iC5C2 ?iC5C3 ?iC5C4 ?iC5C5 ?a0 ?l0 ?c0 ?k0 ?a1 ?l1 ?c1 ?k1 ?a2 ?l2 ?c2 ?k2 ?a3 ?l3 ?c3 ?k3 ?a4 ?l4 ?c4 ?k4 ?a5 ?l5 ?c5 ?k5 ?a6 ?l6 ?c6 ?k6 ?a7 ?l7 ?c7 ?k7 ?a8 ?l8 ?c8 ?k8 ?a9 ?l9 ?c9 ?k9 ?a10 ?l10 ?c10 ?k10 ?a11 ?l11 ?c11 ?k11 ?a12 ?l12 ?c12 ?k12 ?a13 ?l13 ?c13 ?k13 ?a14 ?l14 ?c14 ?k14 ?a15 ?l15 ?c15 ?k15 ?a16 ?l16 ?c16 ?k16 ?a17 ?l17 ?c17 ?k17 ?a18 ?l18 ?c18 ?k18 ?a19 ?i19 ?l19 ?c19 ?k19 ?a20 ?i20 ?l20 ?c20 ?k20 ?a21 ?i21 ?l21 ?c21 ?k21 ?a22 ?i22 ?l22 ?c22 ?k22 ?a23 ?i23 ?l23 ?c23 ?k23 ?a24 ?i24 ?l24 ?c24 ?k24 ?a25 ?i25 ?l25 ?c25 ?k25 ?a26 ?i26 ?l26 ?c26 ?k26 ?a27 ?i27 ?l27 ?c27 ?k27 ?a28 ?l28 ?c28 ?k28 ?a29 ?l29 ?c29 ?k29 ?a30 ?l30 ?c30 ?k30 ?a31 ?l31 ?c31 ?k31 ?a32 ?l32 ?c32 ?k32 ?a33 ?l33 ?c33 ?k33 ?a34 ?l34 ?c34 ?k34 ?a35 ?l35 ?c35 ?k35 ?a36 ?l36 ?c36 ?k36 ?a37 ?l37 ?c37 ?k37 ?a38 ?l38 ?c38 ?k38 ?a39 ?l39 ?c39 ?k39 ?a40 ?l40 ?c40 ?k40 ?a41 ?l41 ?c41 ?k41 ?a42 ?l42 ?c42 ?k42 ?vTOP ?vMOST ?zlen ?zrange ?zisinstance ?zlist ?ztuple ?zint ?zbool ?zstr ?zsum ?zmax ?zmin ?zsorted ?ztype ?zzip ?zenumerate ?zdict
    (case ggC0 => first | k_is | k_exc | kit_is | kernel_rfl); (case ggC1 => first | k_is | k_exc | kit_is | kernel_rfl); (case ggC2 => first | k_is | k_exc | kit_is | kernel_rfl); (case ggC3 => first | k_is | k_exc | kit_is | kernel_rfl); (case ggC4 => first | k_is | k_exc | kit_is | kernel_rfl); (case ggC5 => first | k_is | k_exc | kit_is | kernel_rfl); (case ggC6 => first | k_is | k_exc | kit_is | kernel_rfl); (case pgC6 => first | k_is | k_exc | kit_is | kernel_rfl); (case hdC6 => first | k_is | k_exc | kit_is | kernel_rfl); (case poC6 => first | k_is | k_exc | kit_is | kernel_rfl); (case saC6 => first | k_is | k_exc | kit_is | kernel_rfl); (case mkC6 => first | k_is | k_exc | kit_is | kernel_rfl); (case kcC6 => first | k_is | k_exc | kit_is | kernel_rfl); (case na0C6 => first | k_is | k_exc | kit_is | kernel_rfl); (case na1C6 => first | k_is | k_exc | kit_is | kernel_rfl); (case na2C6 => first | k_is | k_exc | kit_is | kernel_rfl); (case na3C6 => first | k_is | k_exc | kit_is | kernel_rfl); (case kpC1 => first | k_is | k_exc | kit_is | kernel_rfl); (case exC1 => first | k_is | k_exc | kit_is | kernel_rfl); (case beC1 => first | k_is | k_exc | kit_is | kernel_rfl); (case tyC1 => first | k_is | k_exc | kit_is | kernel_rfl); (case hgC1 => first | k_is | k_exc | kit_is | kernel_rfl); (case hkC1 => first | k_is | k_exc | kit_is | kernel_rfl); (case hdC1 => first | k_is | k_exc | kit_is | kernel_rfl); (case haC1 => first | k_is | k_exc | kit_is | kernel_rfl); (case hnC1 => first | k_is | k_exc | kit_is | kernel_rfl); (case htC1 => first | k_is | k_exc | kit_is | kernel_rfl); (case hmC1 => first | k_is | k_exc | kit_is | kernel_rfl); (case vvC1 => first | k_is | k_exc | kit_is | kernel_rfl); (case iC1C0 => first | k_is | k_exc | kit_is | kernel_rfl); (case iC1C1 => first | k_is | k_exc | kit_is | kernel_rfl); (case iC1C2 => first | k_is | k_exc | kit_is | kernel_rfl); (case iC1C3 => first | k_is | k_exc | kit_is | kernel_rfl); (case iC1C4 => first | k_is | k_exc | kit_is | kernel_rfl); (case iC1C5 => first | k_is | k_exc | kit_is | kernel_rfl); (case kpC2 => first | k_is | k_exc | kit_is | kernel_rfl); (case exC2 => first | k_is | k_exc | kit_is | kernel_rfl); (case beC2 => first | k_is | k_exc | kit_is | kernel_rfl); (case tyC2 => first | k_is | k_exc | kit_is | kernel_rfl); (case hgC2 => first | k_is | k_exc | kit_is | kernel_rfl); (case hkC2 => first | k_is | k_exc | kit_is | kernel_rfl); (case hdC2 => first | k_is | k_exc | kit_is | kernel_rfl); (case haC2 => first | k_is | k_exc | kit_is | kernel_rfl); (case hnC2 => first | k_is | k_exc | kit_is | kernel_rfl); (case htC2 => first | k_is | k_exc | kit_is | kernel_rfl); (case hmC2 => first | k_is | k_exc | kit_is | kernel_rfl); (case vvC2 => first | k_is | k_exc | kit_is | kernel_rfl); (case iC2C0 => first | k_is | k_exc | kit_is | kernel_rfl); (case iC2C1 => first | k_is | k_exc | kit_is | kernel_rfl); (case iC2C2 => first | k_is | k_exc | kit_is | kernel_rfl); (case iC2C3 => first | k_is | k_exc | kit_is | kernel_rfl); (case iC2C4 => first | k_is | k_exc | kit_is | kernel_rfl); (case iC2C5 => first | k_is | k_exc | kit_is | kernel_rfl); (case kpC3 => first | k_is | k_exc | kit_is | kernel_rfl); (case exC3 => first | k_is | k_exc | kit_is | kernel_rfl); (case beC3 => first | k_is | k_exc | kit_is | kernel_rfl); (case tyC3 => first | k_is | k_exc | kit_is | kernel_rfl); (case hgC3 => first | k_is | k_exc | kit_is | kernel_rfl); (case hkC3 => first | k_is | k_exc | kit_is | kernel_rfl); (case hdC3 => first | k_is | k_exc | kit_is | kernel_rfl); (case haC3 => first | k_is | k_exc | kit_is | kernel_rfl); (case hnC3 => first | k_is | k_exc | kit_is | kernel_rfl); (case htC3 => first | k_is | k_exc | kit_is | kernel_rfl); (case hmC3 => first | k_is | k_exc | kit_is | kernel_rfl); (case vvC3 => first | k_is | k_exc | kit_is | kernel_rfl); (case iC3C0 => first | k_is | k_exc | kit_is | kernel_rfl); (case iC3C1 => first | k_is | k_exc | kit_is | kernel_rfl); (case iC3C2 => first | k_is | k_exc | kit_is | kernel_rfl); (case iC3C3 => first | k_is | k_exc | kit_is | kernel_rfl); (case iC3C4 => first | k_is | k_exc | kit_is | kernel_rfl); (case iC3C5 => first | k_is | k_exc | kit_is | kernel_rfl); (case kpC4 => first | k_is | k_exc | kit_is | kernel_rfl); (case exC4 => first | k_is | k_exc | kit_is | kernel_rfl); (case beC4 => first | k_is | k_exc | kit_is | kernel_rfl); (case tyC4 => first | k_is | k_exc | kit_is | kernel_rfl); (case hgC4 => first | k_is | k_exc | kit_is | kernel_rfl); (case hkC4 => first | k_is | k_exc | kit_is | kernel_rfl); (case hdC4 => first | k_is | k_exc | kit_is | kernel_rfl); (case haC4 => first | k_is | k_exc | kit_is | kernel_rfl); (case hnC4 => first | k_is | k_exc | kit_is | kernel_rfl); (case htC4 => first | k_is | k_exc | kit_is | kernel_rfl); (case hmC4 => first | k_is | k_exc | kit_is | kernel_rfl); (case vvC4 => first | k_is | k_exc | kit_is | kernel_rfl); (case iC4C0 => first | k_is | k_exc | kit_is | kernel_rfl); (case iC4C1 => first | k_is | k_exc | kit_is | kernel_rfl); (case iC4C2 => first | k_is | k_exc | kit_is | kernel_rfl); (case iC4C3 => first | k_is | k_exc | kit_is | kernel_rfl); (case iC4C4 => first | k_is | k_exc | kit_is | kernel_rfl); (case iC4C5 => first | k_is | k_exc | kit_is | kernel_rfl); (case kpC5 => first | k_is | k_exc | kit_is | kernel_rfl); (case exC5 => first | k_is | k_exc | kit_is | kernel_rfl); (case beC5 => first | k_is | k_exc | kit_is | kernel_rfl); (case tyC5 => first | k_is | k_exc | kit_is | kernel_rfl); (case hgC5 => first | k_is | k_exc | kit_is | kernel_rfl); (case hkC5 => first | k_is | k_exc | kit_is | kernel_rfl); (case hdC5 => first | k_is | k_exc | kit_is | kernel_rfl); (case haC5 => first | k_is | k_exc | kit_is | kernel_rfl); (case hnC5 => first | k_is | k_exc | kit_is | kernel_rfl); (case htC5 => first | k_is | k_exc | kit_is | kernel_rfl); (case hmC5 => first | k_is | k_exc | kit_is | kernel_rfl); (case vvC5 => first | k_is | k_exc | kit_is | kernel_rfl); (case iC5C0 => first | k_is | k_exc | kit_is | kernel_rfl); (case iC5C1 => first | k_is | k_exc | kit_is | kernel_rfl); (case iC5C2 => first | k_is | k_exc | kit_is | kernel_rfl); (case iC5C3 => first | k_is | k_exc | kit_is | kernel_rfl); (case iC5C4 => first | k_is | k_exc | kit_is | kernel_rfl); (case iC5C5 => first | k_is | k_exc | kit_is | kernel_rfl); (case a0 => first | k_is | k_exc | kit_is | kernel_rfl); (case l0 => first | k_is | k_exc | kit_is | kernel_rfl); (case c0 => first | k_is | k_exc | kit_is | kernel_rfl); (case k0 => first | k_is | k_exc | kit_is | kernel_rfl); (case a1 => first | k_is | k_exc | kit_is | kernel_rfl); (case l1 => first | k_is | k_exc | kit_is | kernel_rfl); (case c1 => first | k_is | k_exc | kit_is | kernel_rfl); (case k1 => first | k_is | k_exc | kit_is | kernel_rfl); (case a2 => first | k_is | k_exc | kit_is | kernel_rfl); (case l2 => first | k_is | k_exc | kit_is | kernel_rfl); (case c2 => first | k_is | k_exc | kit_is | kernel_rfl); (case k2 => first | k_is | k_exc | kit_is | kernel_rfl); (case a3 => first | k_is | k_exc | kit_is | kernel_rfl); (case l3 => first | k_is | k_exc | kit_is | kernel_rfl); (case c3 => first | k_is | k_exc | kit_is | kernel_rfl); (case k3 => first | k_is | k_exc | kit_is | kernel_rfl); (case a4 => first | k_is | k_exc | kit_is | kernel_rfl); (case l4 => first | k_is | k_exc | kit_is | kernel_rfl); (case c4 => first | k_is | k_exc | kit_is | kernel_rfl); (case k4 => first | k_is | k_exc | kit_is | kernel_rfl); (case a5 => first | k_is | k_exc | kit_is | kernel_rfl); (case l5 => first | k_is | k_exc | kit_is | kernel_rfl); (case c5 => first | k_is | k_exc | kit_is | kernel_rfl); (case k5 => first | k_is | k_exc | kit_is | kernel_rfl); (case a6 => first | k_is | k_exc | kit_is | kernel_rfl); (case l6 => first | k_is | k_exc | kit_is | kernel_rfl); (case c6 => first | k_is | k_exc | kit_is | kernel_rfl); (case k6 => first | k_is | k_exc | kit_is | kernel_rfl); (case a7 => first | k_is | k_exc | kit_is | kernel_rfl); (case l7 => first | k_is | k_exc | kit_is | kernel_rfl); (case c7 => first | k_is | k_exc | kit_is | kernel_rfl); (case k7 => first | k_is | k_exc | kit_is | kernel_rfl); (case a8 => first | k_is | k_exc | kit_is | kernel_rfl); (case l8 => first | k_is | k_exc | kit_is | kernel_rfl); (case c8 => first | k_is | k_exc | kit_is | kernel_rfl); (case k8 => first | k_is | k_exc | kit_is | kernel_rfl); (case a9 => first | k_is | k_exc | kit_is | kernel_rfl); (case l9 => first | k_is | k_exc | kit_is | kernel_rfl); (case c9 => first | k_is | k_exc | kit_is | kernel_rfl); (case k9 => first | k_is | k_exc | kit_is | kernel_rfl); (case a10 => first | k_is | k_exc | kit_is | kernel_rfl); (case l10 => first | k_is | k_exc | kit_is | kernel_rfl); (case c10 => first | k_is | k_exc | kit_is | kernel_rfl); (case k10 => first | k_is | k_exc | kit_is | kernel_rfl); (case a11 => first | k_is | k_exc | kit_is | kernel_rfl); (case l11 => first | k_is | k_exc | kit_is | kernel_rfl); (case c11 => first | k_is | k_exc | kit_is | kernel_rfl); (case k11 => first | k_is | k_exc | kit_is | kernel_rfl); (case a12 => first | k_is | k_exc | kit_is | kernel_rfl); (case l12 => first | k_is | k_exc | kit_is | kernel_rfl); (case c12 => first | k_is | k_exc | kit_is | kernel_rfl); (case k12 => first | k_is | k_exc | kit_is | kernel_rfl); (case a13 => first | k_is | k_exc | kit_is | kernel_rfl); (case l13 => first | k_is | k_exc | kit_is | kernel_rfl); (case c13 => first | k_is | k_exc | kit_is | kernel_rfl); (case k13 => first | k_is | k_exc | kit_is | kernel_rfl); (case a14 => first | k_is | k_exc | kit_is | kernel_rfl); (case l14 => first | k_is | k_exc | kit_is | kernel_rfl); (case c14 => first | k_is | k_exc | kit_is | kernel_rfl); (case k14 => first | k_is | k_exc | kit_is | kernel_rfl); (case a15 => first | k_is | k_exc | kit_is | kernel_rfl); (case l15 => first | k_is | k_exc | kit_is | kernel_rfl); (case c15 => first | k_is | k_exc | kit_is | kernel_rfl); (case k15 => first | k_is | k_exc | kit_is | kernel_rfl); (case a16 => first | k_is | k_exc | kit_is | kernel_rfl); (case l16 => first | k_is | k_exc | kit_is | kernel_rfl); (case c16 => first | k_is | k_exc | kit_is | kernel_rfl); (case k16 => first | k_is | k_exc | kit_is | kernel_rfl); (case a17 => first | k_is | k_exc | kit_is | kernel_rfl); (case l17 => first | k_is | k_exc | kit_is | kernel_rfl); (case c17 => first | k_is | k_exc | kit_is | kernel_rfl); (case k17 => first | k_is | k_exc | kit_is | kernel_rfl); (case a18 => first | k_is | k_exc | kit_is | kernel_rfl); (case l18 => first | k_is | k_exc | kit_is | kernel_rfl); (case c18 => first | k_is | k_exc | kit_is | kernel_rfl); (case k18 => first | k_is | k_exc | kit_is | kernel_rfl); (case a19 => first | k_is | k_exc | kit_is | kernel_rfl); (case i19 => first | k_is | k_exc | kit_is | kernel_rfl); (case l19 => first | k_is | k_exc | kit_is | kernel_rfl); (case c19 => first | k_is | k_exc | kit_is | kernel_rfl); (case k19 => first | k_is | k_exc | kit_is | kernel_rfl); (case a20 => first | k_is | k_exc | kit_is | kernel_rfl); (case i20 => first | k_is | k_exc | kit_is | kernel_rfl); (case l20 => first | k_is | k_exc | kit_is | kernel_rfl); (case c20 => first | k_is | k_exc | kit_is | kernel_rfl); (case k20 => first | k_is | k_exc | kit_is | kernel_rfl); (case a21 => first | k_is | k_exc | kit_is | kernel_rfl); (case i21 => first | k_is | k_exc | kit_is | kernel_rfl); (case l21 => first | k_is | k_exc | kit_is | kernel_rfl); (case c21 => first | k_is | k_exc | kit_is | kernel_rfl); (case k21 => first | k_is | k_exc | kit_is | kernel_rfl); (case a22 => first | k_is | k_exc | kit_is | kernel_rfl); (case i22 => first | k_is | k_exc | kit_is | kernel_rfl); (case l22 => first | k_is | k_exc | kit_is | kernel_rfl); (case c22 => first | k_is | k_exc | kit_is | kernel_rfl); (case k22 => first | k_is | k_exc | kit_is | kernel_rfl); (case a23 => first | k_is | k_exc | kit_is | kernel_rfl); (case i23 => first | k_is | k_exc | kit_is | kernel_rfl); (case l23 => first | k_is | k_exc | kit_is | kernel_rfl); (case c23 => first | k_is | k_exc | kit_is | kernel_rfl); (case k23 => first | k_is | k_exc | kit_is | kernel_rfl); (case a24 => first | k_is | k_exc | kit_is | kernel_rfl); (case i24 => first | k_is | k_exc | kit_is | kernel_rfl); (case l24 => first | k_is | k_exc | kit_is | kernel_rfl); (case c24 => first | k_is | k_exc | kit_is | kernel_rfl); (case k24 => first | k_is | k_exc | kit_is | kernel_rfl); (case a25 => first | k_is | k_exc | kit_is | kernel_rfl); (case i25 => first | k_is | k_exc | kit_is | kernel_rfl); (case l25 => first | k_is | k_exc | kit_is | kernel_rfl); (case c25 => first | k_is | k_exc | kit_is | kernel_rfl); (case k25 => first | k_is | k_exc | kit_is | kernel_rfl); (case a26 => first | k_is | k_exc | kit_is | kernel_rfl); (case i26 => first | k_is | k_exc | kit_is | kernel_rfl); (case l26 => first | k_is | k_exc | kit_is | kernel_rfl); (case c26 => first | k_is | k_exc | kit_is | kernel_rfl); (case k26 => first | k_is | k_exc | kit_is | kernel_rfl); (case a27 => first | k_is | k_exc | kit_is | kernel_rfl); (case i27 => first | k_is | k_exc | kit_is | kernel_rfl); (case l27 => first | k_is | k_exc | kit_is | kernel_rfl); (case c27 => first | k_is | k_exc | kit_is | kernel_rfl); (case k27 => first | k_is | k_exc | kit_is | kernel_rfl); (case a28 => first | k_is | k_exc | kit_is | kernel_rfl); (case l28 => first | k_is | k_exc | kit_is | kernel_rfl); (case c28 => first | k_is | k_exc | kit_is | kernel_rfl); (case k28 => first | k_is | k_exc | kit_is | kernel_rfl); (case a29 => first | k_is | k_exc | kit_is | kernel_rfl); (case l29 => first | k_is | k_exc | kit_is | kernel_rfl); (case c29 => first | k_is | k_exc | kit_is | kernel_rfl); (case k29 => first | k_is | k_exc | kit_is | kernel_rfl); (case a30 => first | k_is | k_exc | kit_is | kernel_rfl); (case l30 => first | k_is | k_exc | kit_is | kernel_rfl); (case c30 => first | k_is | k_exc | kit_is | kernel_rfl); (case k30 => first | k_is | k_exc | kit_is | kernel_rfl); (case a31 => first | k_is | k_exc | kit_is | kernel_rfl); (case l31 => first | k_is | k_exc | kit_is | kernel_rfl); (case c31 => first | k_is | k_exc | kit_is | kernel_rfl); (case k31 => first | k_is | k_exc | kit_is | kernel_rfl); (case a32 => first | k_is | k_exc | kit_is | kernel_rfl); (case l32 => first | k_is | k_exc | kit_is | kernel_rfl); (case c32 => first | k_is | k_exc | kit_is | kernel_rfl); (case k32 => first | k_is | k_exc | kit_is | kernel_rfl); (case a33 => first | k_is | k_exc | kit_is | kernel_rfl); (case l33 => first | k_is | k_exc | kit_is | kernel_rfl); (case c33 => first | k_is | k_exc | kit_is | kernel_rfl); (case k33 => first | k_is | k_exc | kit_is | kernel_rfl); (case a34 => first | k_is | k_exc | kit_is | kernel_rfl); (case l34 => first | k_is | k_exc | kit_is | kernel_rfl); (case c34 => first | k_is | k_exc | kit_is | kernel_rfl); (case k34 => first | k_is | k_exc | kit_is | kernel_rfl); (case a35 => first | k_is | k_exc | kit_is | kernel_rfl); (case l35 => first | k_is | k_exc | kit_is | kernel_rfl); (case c35 => first | k_is | k_exc | kit_is | kernel_rfl); (case k35 => first | k_is | k_exc | kit_is | kernel_rfl); (case a36 => first | k_is | k_exc | kit_is | kernel_rfl); (case l36 => first | k_is | k_exc | kit_is | kernel_rfl); (case c36 => first | k_is | k_exc | kit_is | kernel_rfl); (case k36 => first | k_is | k_exc | kit_is | kernel_rfl); (case a37 => first | k_is | k_exc | kit_is | kernel_rfl); (case l37 => first | k_is | k_exc | kit_is | kernel_rfl); (case c37 => first | k_is | k_exc | kit_is | kernel_rfl); (case k37 => first | k_is | k_exc | kit_is | kernel_rfl); (case a38 => first | k_is | k_exc | kit_is | kernel_rfl); (case l38 => first | k_is | k_exc | kit_is | kernel_rfl); (case c38 => first | k_is | k_exc | kit_is | kernel_rfl); (case k38 => first | k_is | k_exc | kit_is | kernel_rfl); (case a39 => first | k_is | k_exc | kit_is | kernel_rfl); (case l39 => first | k_is | k_exc | kit_is | kernel_rfl); (case c39 => first | k_is | k_exc | kit_is | kernel_rfl); (case k39 => first | k_is | k_exc | kit_is | kernel_rfl); (case a40 => first | k_is | k_exc | kit_is | kernel_rfl); (case l40 => first | k_is | k_exc | kit_is | kernel_rfl); (case c40 => first | k_is | k_exc | kit_is | kernel_rfl); (case k40 => first | k_is | k_exc | kit_is | kernel_rfl); (case a41 => first | k_is | k_exc | kit_is | kernel_rfl); (case l41 => first | k_is | k_exc | kit_is | kernel_rfl); (case c41 => first | k_is | k_exc | kit_is | kernel_rfl); (case k41 => first | k_is | k_exc | kit_is | kernel_rfl); (case a42 => first | k_is | k_exc | kit_is | kernel_rfl); (case l42 => first | k_is | k_exc | kit_is | kernel_rfl); (case c42 => first | k_is | k_exc | kit_is | kernel_rfl); (case k42 => first | k_is | k_exc | kit_is | kernel_rfl); (case vTOP => first | k_is | k_exc | kit_is | kernel_rfl); (case vMOST => first | k_is | k_exc | kit_is | kernel_rfl); (case zlen => first | k_is | k_exc | kit_is | kernel_rfl); (case zrange => first | k_is | k_exc | kit_is | kernel_rfl); (case zisinstance => first | k_is | k_exc | kit_is | kernel_rfl); (case zlist => first | k_is | k_exc | kit_is | kernel_rfl); (case ztuple => first | k_is | k_exc | kit_is | kernel_rfl); (case zint => first | k_is | k_exc | kit_is | kernel_rfl); (case zbool => first | k_is | k_exc | kit_is | kernel_rfl); (case zstr => first | k_is | k_exc | kit_is | kernel_rfl); (case zsum => first | k_is | k_exc | kit_is | kernel_rfl); (case zmax => first | k_is | k_exc | kit_is | kernel_rfl); (case zmin => first | k_is | k_exc | kit_is | kernel_rfl); (case zsorted => first | k_is | k_exc | kit_is | kernel_rfl); (case ztype => first | k_is | k_exc | kit_is | kernel_rfl); (case zzip => first | k_is | k_exc | kit_is | kernel_rfl); (case zenumerate => first | k_is | k_exc | kit_is | kernel_rfl); (case zdict => first | k_is | k_exc | kit_is | kernel_rfl)
