import PyProof.Rows.All
import Wide.All
import OpenK.AllK
import Wide.FinOn
import PyProof.EqAt
import PyProof.EqKinds
import PyProof.TupleCall
import HandS.ForMost
import HandS.Exc
import HandS.IsInst
import HandS.StrMore
import HandS.Replace
import HandS.ReplaceDef
import HandS.ReplaceLit
import HandS.ReplaceList
import HandS.Defaults
import HandS.Style
import HandS.Zip
import HandS.Conv
import HandS.Lambda
import HandS.Codes
import HandS.Evl
import HandS.ExcValue
import HandS.ExcInit
import HandS.ExcIs
import HandS.ExcField
import KE.KDflt
import KE.KExcIs
import HandS.EndTab
import PyProof.ReprRoads
import PyProof.ReprBulk
import HandS.ExcOwn
import HandS.WordsExc
import HandS.Walk
import PyProof.Rows.StrStrike
import PyProof.Draws
import PyProof.ListStr
import PyProof.Rows.RegStrFacts
import PyProof.Rows.RegReprOcc
import KE.KxIndex
import HandS.OwnEq
import HandS.More
import HandS.Strs
import HandS.SetFor
import KE.KRevSl
import KE.GoesMore
import HandS.DictComp
import PyProof.StrCalls6
import PyProof.MeetsStr3
import PyProof.CallFns
import KE.GoesZip
import KE.SortData
import PyProof.StrWalks
import PyProof.DictUpdate
import PyProof.AssignAttr
import HandS.Finally
import HandS.Small
import HandS.SortRule
import HandS.Iter
import HandS.Wide
import HandS.TryMany
import HandS.MakeKwOnly
import HandS.RaiseMore
import PySem.Challenge.RW_anyletter_k28_words_and_stands
set_option Elab.async false
set_option linter.all false
set_option maxRecDepth 100000
set_option maxHeartbeats 4000000
set_option autoImplicit false
namespace Kx
open PySem PySem.Spec PyProof.Rows L2
/-! ### a def that is promised only where no repr runs around it -/
structure FnG (P : Program) (w : World) (K : PySem.W.Frag) (mg : Str → Option Value) (base : Heap) (CX : CXT) (k : Nat) (f : Addr) (fd : FuncData) (ps : List Str) (sp : Sp) : Prop where
  len : ∀ vs H Q E, sp vs H Q E → vs.length = ps.length
  go : ∀ (A : Around) (outer : List Env) (s : Shared) (H : Hp) (args : Args) (us : List Value) (vs : List V) (Q : VK) (E : XK), A.guards = some [] → Room k A → Env0 P w K mg base A outer s H →
    BindsTo s fd args (ps.zip us) → Vals vs us → sp vs H Q E → codeAny (model P w) A (.call (.ref f) args) (CR CX outer P w H s Q E) s
section
variable {P : Program} {w : World} {K : PySem.W.Frag} {mg : Str → Option Value} {base : Heap}
theorem FnG.of {CX : CXT} {k : Nat} {f : Addr} {fd : FuncData} {ps : List Str} {sp : Sp} (F : FnOk P w K mg base CX k f fd ps sp) : FnG P w K mg base CX k f fd ps sp :=
  ⟨F.len, fun A outer s H args us vs Q E _ => F.run A outer s H args us vs Q E⟩
/-- the body's rule, guards told -/
theorem okG {x qual : Str} {st : Stmt} {f : Addr} {fd : FuncData} {N ps : List Str} {k : Nat} {sp : Sp} (F : Fun K x qual st f fd) (S : FnScope N ps (defScope st)) (len : ∀ vs H Q E, sp vs H Q E → vs.length = ps.length)
    (hbody : ∀ (cdv : Value) (A : Around) (outer : List Env) (s : Shared) (H : Hp) (vs : List V) (Q : VK) (E : XK), A.guards = some [] → Room k (A.deeper (envOfC qual (defScope st) s.heap.objs.size f cdv)) → sp vs H Q E →
      ∃ t, PSs (cxOf CX0 P w K mg base N qual (defScope st) f cdv A outer s H E).nox (defBody st) t ∧ t { nx := fun _ H' => Q .non H', rt := Q } (start N vs) H) :
    FnG P w K mg base CX0 (k + 1) f fd ps sp := by
  obtain ⟨oc, od, kV, doc, pm, an, cdv, ct, osl, rfl, lk, hcd⟩ := F.ex
  refine ⟨len, fun A outer s H args us vs Q E hg hr e0 hb r hsp => ?_⟩
  refine LamX.run_ofS lk hcd S hr e0 hb r (len _ _ _ _ hsp) fun hr' => ?_
  obtain ⟨t, h, q⟩ := hbody cdv A outer s H vs Q E hg hr' hsp
  exact ⟨t, h.nox, q⟩
end
/-! ### the law's own call, guards told -/
section
variable {P : Program} {w : World} {K : PySem.W.Frag} {mg mb : Str → Option Value} {k : Nat} {fa a : Addr} {fd : FuncData} {x : Str} {sp : Sp} {s : Shared} {vs : List Value} {ns : List Int}
/-- what the law's call has to leave -/
def LawEnd (s : Shared) (r : Result) (t : Shared) : Prop := r = .ok (.ret (.bool true)) ∧ OldK s.heap t.heap ∧ t.os = s.os ∧ AllBare t.gens
theorem lawG_of (KX : K.In s.heap) (G : s.heap.Ns mainGlobals mg) (B : s.heap.Ns builtinsNs mb) (BB : ∀ y : Str, y ≠ "__name__" → mb y = bootBuiltins y) (NL : s.heap.NoLimit) (g0 : s.gens = #[])
    (hr : Room k callerA) (F : ∀ base : Heap, K.In base → base.Ns mainGlobals mg → FnG P w K mg base CX0 k fa fd [x] sp) (bd : ∀ (t : Shared) (u : Value), BindsTo t fd ⟨[u], []⟩ [(x, u)])
    (H : Hp) (one : ∀ b u, H b = some u → b = a ∧ K.lookup a = none ∧ (∃ o xs, u = .frz o (.lst xs)) ∧ ∀ o es ep, s.heap.get? a = some o → o.data ≠ .dict es ep) (ok : HOk P w H s.heap)
    (pr : sp [.ref a] H (fun v _ => v = .bl true) fun _ _ _ => False) : codeAny (model P w) callerA (.call (.ref fa) ⟨[.ref a], []⟩) (LawEnd s) s := by
  have stay : ∀ {b : Addr} {o : Obj}, s.heap.get? b = some o → H b = none → (hidT s.heap H).get? b = some o := fun e n => hidT_get e n
  have nodict : ∀ {b : Addr} {m : Str → Option Value}, s.heap.Ns b m → (hidT s.heap H).Ns b m := by
    rintro b m ⟨o, es, ep, e, d, r⟩
    refine ⟨o, es, ep, stay e ?_, d, r⟩
    cases q : H b with
    | none => rfl
    | some u =>
      obtain ⟨rfl, _, _, nd⟩ := one b u q
      exact absurd d (nd o es ep e)
  have Kb : K.In (hidT s.heap H) := by
    intro b o e
    refine stay (KX b o e) ?_
    cases q : H b with
    | none => rfl
    | some u =>
      obtain ⟨rfl, z, _, _⟩ := one b u q
      rw [z] at e
      cases e
  obtain ⟨ml, l1, l2⟩ := NL
  have E0 : Env0 P w K mg (hidT s.heap H) callerA [] s H :=
    { frames := rfl
      mod := { kin := Kb, glob := nodict G, blt := ⟨mb, nodict B, BB⟩, nolimit := ⟨ml, nodict l1, l2⟩ }
      bs := fun b o e => of_hidT e
      bsz := Nat.le_of_eq (hidT_size _ _)
      funs := trivial
      frf := fun b hb => absurd hb (List.not_mem_nil)
      hok := ok
      bare := .of_eq g0 }
  refine codeAny_mono ((F _ Kb (nodict G)).go callerA [] s H ⟨[.ref a], []⟩ [.ref a] [.ref a] _ _ rfl hr E0 (bd s (.ref a)) (.cons rfl .nil) pr) ?_
  intro r t h
  match r, h with
  | .error e, h =>
    exact (show False from h).elim
  | .ok .next, h => exact False.elim h
  | .ok .brk, h => exact False.elim h
  | .ok .cont, h => exact False.elim h
  | .ok (.ret u), h =>
    obtain ⟨v, H', h1, h2, un, ok', rv, rfl⟩ := h
    cases rv
    refine ⟨rfl, OldK.of_keep fun b o e => ?_, h1, h2⟩
    cases q : H b with
    | none => exact un.keep b o e q List.not_mem_nil List.not_mem_nil
    | some u =>
      obtain ⟨rfl, _, ⟨ob, xs, rfl⟩, _⟩ := one b u q
      have e1 := (ok b _ q).1
      have e2 := (ok' b _ (un.frzs b ob _ q)).1
      rw [e] at e1
      cases e1
      exact e2
theorem lawG (KX : K.In s.heap) (G : s.heap.Ns mainGlobals mg) (B : s.heap.Ns builtinsNs mb) (BB : ∀ y : Str, y ≠ "__name__" → mb y = bootBuiltins y) (NL : s.heap.NoLimit) (g0 : s.gens = #[])
    (ha : s.heap.get? a = some { cls := .type "list", data := .seq vs.toArray }) (hi : IntsAre vs ns) (hl : ns.length ≤ sizeLine)
    (hr : Room k callerA) (F : ∀ base : Heap, K.In base → base.Ns mainGlobals mg → FnG P w K mg base CX0 k fa fd [x] sp) (bd : ∀ (t : Shared) (u : Value), BindsTo t fd ⟨[u], []⟩ [(x, u)])
    (pr : ∀ H : Hp, Only H → SqL K H a (ns.map V.int) → sp [.ref a] H (fun v _ => v = .bl true) fun _ _ _ => False) : codeAny (model P w) callerA (.call (.ref fa) ⟨[.ref a], []⟩) (LawEnd s) s := by
  have rv := vals_ints hi
  have lv := hi.length
  have nd : ∀ o es ep, s.heap.get? a = some o → o.data ≠ .dict es ep := by
    intro o es ep e d
    rw [ha] at e
    cases e
    cases d
  cases hk : K.lookup a with
  | some o =>
    have e := KX a o hk
    rw [ha] at e
    cases e
    have z : ∀ (b : Addr) (u : HO), (none : Option HO) = some u → False := fun _ _ q => nomatch q
    refine lawG_of KX G B BB NL g0 hr F bd (fun _ => none) (fun b u q => (z b u q).elim) (fun b u q => (z b u q).elim) (pr _ (fun _ => .inl rfl) (.inr ⟨_, vs.toArray, _, hk, rfl, rfl, rfl, ?_, by simpa using rv⟩))
    rw [List.size_toArray, lv]
    exact hl
  | none =>
    let o0 : Obj := { cls := .type "list", data := .seq vs.toArray }
    let Ha : Hp := fun b => if b = a then some (.frz o0 (.lst (ns.map V.int))) else none
    have at_a : Ha a = some (.frz o0 (.lst (ns.map V.int))) := if_pos rfl
    have but : ∀ b u, Ha b = some u → b = a ∧ u = .frz o0 (.lst (ns.map V.int)) := by
      intro b u q
      by_cases hb : b = a
      · subst hb
        rw [at_a] at q
        exact ⟨rfl, (Option.some.inj q).symm⟩
      · have q' : (none : Option HO) = some u := (if_neg hb).symm.trans q
        cases q'
    refine lawG_of KX G B BB NL g0 hr F bd Ha (fun b u q => ?_) (fun b u q => ?_) (pr _ (fun b => ?_) (.inl (.inr ⟨o0, at_a⟩)))
    · obtain ⟨e1, e2⟩ := but b u q
      exact ⟨e1, hk, ⟨_, _, e2⟩, nd⟩
    · obtain ⟨rfl, rfl⟩ := but b u q
      exact ⟨ha, by rw [List.length_map]; exact hl, vs, _, rv, ha⟩
    · by_cases hb : b = a
      · exact .inr ⟨_, _, by rw [hb]; exact at_a⟩
      · exact .inl (if_neg hb)
end
open PySem.W in
/-- the goal that the head leaves -/
theorem walkG {l : OpenLaw} {n k : Nat} {q : Program} {loose : List Str} {XP : (Str → Option Value) → Heap → Prop} {YP : World → Heap → Prop} {d : DefRec} {K : Params → Frag} {sp : Frag → Sp} {x : Str}
    (hn : l.most = some n) (hz : n ≤ sizeLine) (h0 : d.params.defaults = []) (hr : Room k callerA) (hY : ∀ (w : World) (h : Heap), YP w h → (K w.params).In h)
    (F : ∀ (w : World) (mg : Str → Option Value) (fa : Addr) (h : Heap), (K w.params).In h → h.Ns mainGlobals mg → mg d.name = some (.ref fa) → ∃ fd : FuncData,
      (∀ (t : Shared) (u : Value), BindsTo t fd ⟨[u], []⟩ [(x, u)]) ∧ ∀ base : Heap, (K w.params).In base → base.Ns mainGlobals mg → FnG l.prog w (K w.params) mg base CX0 k fa fd [x] (sp (K w.params)))
    (pr : ∀ (K : Frag) (H : Hp) (a : Addr) (ns : List Int), ns.length ≤ n → Only H → SqL K H a (ns.map V.int) → sp K [.ref a] H (fun v _ => v = .bl true) fun _ _ _ => False) :
    WalkO q loose XP YP l.row.toRowW d [] (fun f us => PySem.call f us) := by
  refine Att.attach_call hn h0 ?_
  intro w s₀ s₁ mg mb fa o pm cd doc a us ns G Y ho hd hcd hm hobj hints hlen hg
  obtain ⟨fd, hb, hF⟩ := F w mg fa _ (hY w _ Y) G.T.g hm
  exact lawG (hY w _ Y) G.T.g G.T.b G.T.builtins G.T.nolimit hg hobj hints (Nat.le_trans hlen hz) hr hF hb fun H hO hS => pr _ H a ns hlen hO hS
end Kx
namespace Kx
open PySem PySem.Spec PyProof.Rows L2 SX
/-! ### heaps -/
theorem same_new {H : Hp} {p : Addr} {o : HO} (h : H p = none) : Same H (upd H p o) := fun b u e => by
  rw [upd_ne (ne_of_none e h)]
  exact e
theorem Same.t {K : PySem.W.Frag} {H H' : Hp} {a : Addr} {xs : List V} (e : Same H H') (h : SqT K H a xs) : SqT K H' a xs := by
  rcases h with (h | ⟨o, h⟩) | h
  · exact .inl (.inl (e _ _ h))
  · exact .inl (.inr ⟨o, e _ _ h⟩)
  · exact .inr h
/-- a list or a tuple -/
def SqQ (K : PySem.W.Frag) (H : Hp) (a : Addr) (xs : List V) : Prop := SqL K H a xs ∨ SqT K H a xs
theorem Same.q {K : PySem.W.Frag} {H H' : Hp} {a : Addr} {xs : List V} (e : Same H H') (h : SqQ K H a xs) : SqQ K H' a xs := h.imp e.seq (Same.t e)
theorem tyL {K : PySem.W.Frag} {H : Hp} {a : Addr} {xs : List V} (h : SqL K H a xs) : TyX K H (.ref a) (.type "list") := by
  rcases h with (h | ⟨o, h⟩) | ⟨o, vs, n, h, hc, _⟩
  · exact .base (.lst h)
  · exact .base (.frz h)
  · exact .kList h hc
theorem tyT {K : PySem.W.Frag} {H : Hp} {a : Addr} {xs : List V} (h : SqT K H a xs) : TyX K H (.ref a) (.type "tuple") := by
  rcases h with (h | ⟨o, h⟩) | ⟨o, vs, n, h, hc, _⟩
  · exact .base (.tup h)
  · exact .fTuple h
  · exact .kTuple h hc
theorem kit_at {K : PySem.W.Frag} {n : String} {a b : Bool} (h1 : kitB n "list" = some a) (h2 : kitB n "tuple" = some b) : PySem.W.kitAny K (.type n) [.type "list", .type "tuple"] = some (a || b) := by
  refine kitAny_cons (kit_ty h1) (fun e => ?_) (fun e => by rw [e]; rfl)
  rw [e, Bool.false_or]
  exact kitAny_cons (kit_ty h2) (fun e => by rw [e]; exact kitAny_nil) (fun e => e)
theorem isl_q {K : PySem.W.Frag} {H : Hp} {a : Addr} {xs : List V} (h : SqQ K H a xs) : ∃ n, TyX K H (.ref a) (.type n) ∧ PySem.W.kitAny K (.type n) [.type "list", .type "tuple"] = some true := by
  rcases h with h | h
  · exact ⟨_, tyL h, kit_at (a := true) (b := false) (by decide +kernel) (by decide +kernel)⟩
  · exact ⟨_, tyT h, kit_at (a := false) (b := true) (by decide +kernel) (by decide +kernel)⟩
theorem ix_q {K : PySem.W.Frag} {H : Hp} {a : Addr} {xs : List V} {i : Int} {v : V} {Q : VK} (h : SqQ K H a xs) (hv : atI xs i = some v) (q : Q v H) : rIx K (.ref a) (.int i) H Q := by
  rcases h with h | h
  · exact .inl ⟨a, xs, i, v, rfl, rfl, h, hv, q⟩
  · exact .inr (.inl ⟨a, xs, i, v, rfl, rfl, h, hv, q⟩)
/-- is it data of this form, whatever tracks it -/
theorem dp_same {K : PySem.W.Frag} {H H' : Hp} (e : Same H H') : ∀ (d : PyData) (v : V), Dp K H v d → Dp K H' v d := by
  intro d v h
  exact Dp.rec (motive_1 := fun v d _ => Dp K H' v d) (motive_2 := fun vs ds _ => DpAll K H' vs ds) .non .bl .int .str (fun h _ i => .lst (e.seq h) i) (fun h _ i => .tup (Same.t e h) i) .nil (fun _ _ a b => .cons a b) h
end Kx
namespace Kx
open PySem PySem.Spec PyProof.Rows L2 SX
theorem iteC {c : Bool} {A B : Prop} (h1 : c = true → A) (h2 : c = false → B) : if c = true then A else B := by
  cases c with
  | true => exact iteT (h1 rfl)
  | false => exact iteF (h2 rfl)
/-! ### letters and signs -/
def low (c : Nat) : Bool := decide (97 ≤ c) && decide (c ≤ 122)
def lowB (l : List Nat) : Bool := !l.isEmpty && l.all low
def sg (c : Nat) : Bool := decide (c = 32) || low c
def textB (l : List Nat) : Bool := decide (l.length ≤ 200000) && l.all sg
theorem ascii1 : (List.range 128).all (fun c => (if Unicode.isAlpha c then (Unicode.isLower c && !(Unicode.isUpper c || Unicode.isTitle c)) == low c && ((Unicode.isLower c && !(Unicode.isUpper c || Unicode.isTitle c)) || (Unicode.isUpper c || Unicode.isTitle c)) else !low c)) = true := by decide +kernel
theorem ascii2 (c : Nat) (h : c < 128) : (Unicode.isAlpha c = true → ((Unicode.isUpper c || Unicode.isTitle c) = !low c) ∧ (low c = true → Unicode.isLower c = true)) ∧ (low c = true → Unicode.isAlpha c = true) := by
  have z := List.all_eq_true.mp ascii1 c (List.mem_range.mpr h)
  cases ha : Unicode.isAlpha c <;> cases hl : Unicode.isLower c <;> cases hu : (Unicode.isUpper c || Unicode.isTitle c) <;> cases hw : low c <;> simp_all
theorem low_lt {c : Nat} (h : low c = true) : c < 128 := by
  unfold low at h
  simp only [Bool.and_eq_true, decide_eq_true_eq] at h
  omega
theorem letters_S (l : List Nat) : (Txt.isascii (S l) && (Txt.isalpha (S l) && Txt.islower (S l))) = lowB l := by
  have ea : ∀ p : Nat → Bool, (S l).cps.all p = l.all p := fun p => by simp
  have ey : ∀ p : Nat → Bool, (S l).cps.any p = l.any p := fun p => by simp
  unfold Txt.isascii Txt.isalpha Txt.islower lowB
  rw [ea, ea, ey, ey, S_len]
  cases l with
  | nil => rfl
  | cons d r =>
    have e0 : decide ((d :: r).length > 0) = true := by simp
    rw [e0, Bool.true_and]
    rw [Bool.eq_iff_iff]
    simp only [Bool.and_eq_true, List.all_eq_true, decide_eq_true_eq, List.any_eq_true, Bool.not_eq_true', List.isEmpty_cons, Bool.not_false, true_and]
    constructor
    · rintro ⟨h1, h2, _, h4⟩ c hc
      have k := (ascii2 c (h1 c hc)).1 (h2 c hc)
      have n : (Unicode.isUpper c || Unicode.isTitle c) = false := by
        cases q : (Unicode.isUpper c || Unicode.isTitle c) with
        | false => rfl
        | true =>
          rw [List.any_eq_false] at h4
          exact absurd q (h4 c hc)
      rw [n] at k
      simpa using k.1
    · intro h
      refine ⟨fun c hc => low_lt (h c hc), fun c hc => (ascii2 c (low_lt (h c hc))).2 (h c hc), ⟨d, List.mem_cons_self, ?_⟩, ?_⟩
      · have hd := h d List.mem_cons_self
        exact ((ascii2 d (low_lt hd)).1 ((ascii2 d (low_lt hd)).2 hd)).2 hd
      · rw [List.any_eq_false]
        intro c hc q
        have hd := h c hc
        have k := ((ascii2 c (low_lt hd)).1 ((ascii2 c (low_lt hd)).2 hd)).1
        rw [q, hd] at k
        cases k
end Kx
namespace Kx
open PySem PySem.Spec PyProof.Rows L2 SX
/-! ### an exception that a name keeps behind the suite -/
/-- at a: an exception of the class cls, its own dict at d -/
def exT (a : Addr) (cls : Value) (d : Option Addr) : HO := .ext fun h => ∃ (oe : Obj) (vs : Array Value), h.get? a = some oe ∧ Zc cls d oe ∧ oe.data = .fields vs
section
variable {X : Cx} {pn0 : List (Addr × Obj)} {σ : L2.St} {H : Hp} {s : Shared} {a : Addr} {oe : Obj} {cls : Value} {d : Option Addr}
theorem exT_ne (o : HO) (h : ∀ φ, o ≠ .ext φ) : exT a cls d ≠ o := fun z => h _ z.symm
/-- what stands pinned in the suite is tracked behind it -/
theorem Inv.track {vs : Array Value} (I : Inv X pn0 σ H s) (ha : s.heap.get? a = some oe) (hz : Zc cls d oe) (hd : oe.data = .fields vs) (na : H a = none) (new0 : X.s_0.heap.get? a = none) (nL : a ≠ X.env.locals)
    (np : ∀ p ∈ X.pn ++ pn0, p.1 ≠ a) : Inv X pn0 σ (upd H a (exT a cls d)) s := by
  have off : ∀ {b : Addr} {u : HO}, H b = some u → upd H a (exT a cls d) b = some u := fun {b u} e => by
    rw [upd_ne (ne_of_none e na)]
    exact e
  have un : ∀ {b : Addr}, b ≠ a → H b = none → upd H a (exT a cls d) b = none := fun {b} n e => by
    rw [upd_ne n]
    exact e
  have old : ∀ {b : Addr} {o : Obj}, X.s_0.heap.get? b = some o → b ≠ a := fun {b o} e z => by
    rw [z, new0] at e
    cases e
  exact
    { ok := I.ok
      os := I.os
      bare := I.bare
      base :=
        { keep := I.base.keep
          slot := I.base.slot
          free := fun b o e n x => un (old e) (I.base.free b o e n x)
          there := I.base.there
          tups := fun b xs e => off (I.base.tups b xs e)
          frzs := fun b o u e => off (I.base.frzs b o u e)
          tbls := fun b ps e => by
            obtain ⟨m, q⟩ := I.base.tbls b ps e
            exact ⟨m, off q⟩ }
      loc := I.loc
      cell := I.cell
      free := un (Ne.symm nL) I.free
      freeC := fun y c e => by
        refine un (fun z => ?_) (I.freeC y c e)
        obtain ⟨v, o, e1, e2⟩ := I.cell y c e
        rw [z, ha] at e1
        cases e1
        rw [hd] at e2
        cases e2
      pin := fun p hp => by
        obtain ⟨e, n, r⟩ := I.pin p hp
        exact ⟨e, un (np p hp) n, r⟩
      hok := HOk.laidN (P := X.prog) (w := X.w) I.hok (fun _ _ e => e) na ⟨⟨oe, vs, ha, hz, hd⟩, ⟨oe, ha⟩, fun h1 h2 z k => by
        obtain ⟨o, v, e1, e2⟩ := z
        exact ⟨o, v, k _ e1, e2⟩⟩
      len := I.len }
end
/-- what «try: .. except x as n: y = n» wishes of an exception: it is one of x's; y keeps it -/
def wKeep (K : PySem.W.Frag) (n : Nat) (c : Value) (i j : Nat) (D : Ends) : WX := fun cls d σ H =>
  PySem.W.exmOne K cls c = some true ∧ ∀ a, H a = none → σ.length = n → D.nx ((((σ.set i (some (.ref a))).set j (some (.ref a)))).set i none) (upd H a (exT a cls d))
section
variable {X : Cx} {x n y : Str} {c : Value} {i j : Nat} {body : List Stmt} {p1 p2 p3 np pos pos' : Pos} {tb : WX → TS}
theorem ps_keep (hs : X.stack = X.env :: X.outer) (hex : X.ex = []) (hf : X.env.frame = some X.env.locals) (hN : X.N.Nodup) (hi : X.N[i]? = some n) (hln : X.env.kindOf n = some .local) (hlv : X.env.scope.names.lookup n = some .local)
    (hj : X.N[j]? = some y) (hlj : X.env.scope.names.lookup y = some .local) (hc : Names X x c) (hdb : (n == ("__debug__" : Str)) = false) (hdc : (n == ("__classdict__" : Str)) = false)
    (hb : ∀ (W : WX) (pn : List (Addr × Obj)) (xe : Value → Shared → Prop), Takes (X.tr pn xe) W → PassesOwn (model X.prog X.w) X.A X.env xe → PSs (X.tr pn xe) body (tb W)) :
    PS X (.Try body [.ExceptHandler (some (.Name x np)) (some n) [.Assign [.Name y p1] (.Name n p2) p3] pos'] [] [] pos) (fun D σ H => tb (wKeep X.K X.N.length c i j D) D σ H) := by
  refine ⟨fun pn0 s σ H D I h => ?_⟩
  have ok := I.ok
  have fr : X.A.frames = some (X.env :: X.outer) := by rw [ok.frames, hs]
  apply wpAny_Try_except
  have run := hb (wKeep X.K X.N.length c i j D) (X.pn ++ pn0)
    (fun e t1 => wpAny (model X.prog X.w) X.A (noteFrame e X.env)
      (fun _ t2 => wpAny (model X.prog X.w) X.A (setFlight e none)
        (fun _ t3 => wpAny (model X.prog X.w) X.A (handleBy e X.env [.ExceptHandler (some (.Name x np)) (some n) [.Assign [.Name y p1] (.Name n p2) p3] pos']) (SP X pn0 D) X.xe t3) X.xe t2) X.xe t1) ?take PassesOwn.looking
  case take =>
    rintro u t ⟨a, B, sI, pins', σ', H', cls, d, rfl, J', nb, up, sky, na, os, ag, isOne, hend⟩
    have Jb : Inv X pn0 σ' H' sI := J'.ofTry ok
    rw [show (X.tr (X.pn ++ pn0) _).stack = X.env :: X.outer from hs] at sky
    show wpAny (model X.prog X.w) X.A (noteFrame (.ref a) X.env) _ _ _
    refine Sky.land Zc.steady fr hf sky (fun h3 fl up3 => ?_)
    have J3 : Inv X pn0 σ' H' { t with heap := h3 } := Jb.landed nb fl.1 (up.trans up3) os ag
    have Bn := fl.2.1
    obtain ⟨oz3, vz3, at3, zc3, dt3⟩ := fl.there
    have out : a ∉ frs (X.env :: X.outer) := by
      intro hm
      obtain ⟨_, o', e', hnf⟩ := fl.2.2.1.mem hm
      rw [at3] at e'
      cases e'
      exact hnf _ dt3
    have nL : a ≠ X.env.locals := fun z => out (List.mem_filterMap.mpr ⟨X.env, List.mem_cons_self, by rw [hf, z]⟩)
    have nF : a ∉ X.fs := by
      intro hm
      obtain ⟨e, hme, q⟩ := List.mem_filterMap.mp hm
      exact out (List.mem_filterMap.mpr ⟨e, List.mem_cons_of_mem _ hme, q⟩)
    have gone : ∀ {b : Addr} {o : Obj}, sI.heap.get? b = some o → b ≠ a := by
      intro b o e z
      rw [z] at e
      have q := nb a o e (by rw [hs]; exact out)
      rw [Bn] at q
      cases q
    have new0 : X.s_0.heap.get? a = none := by
      cases q : X.s_0.heap.get? a with
      | none => rfl
      | some o =>
        obtain ⟨o', e'⟩ := Jb.base.there a o q (by rw [hex]; exact List.not_mem_nil)
        exact absurd rfl (gone e')
    have np0 : ∀ p ∈ X.pn ++ pn0, p.1 ≠ a := fun p hp => gone (Jb.pin p hp).1
    have In3 := J3.suite at3 dt3 na nL nF
    refine wpAny_handleBy_cons (codeAny_handlers_test ?_) (by intro q; cases q)
    have lookT : PySem.W.Looks (model X.prog X.w) h3 (typeOf (.ref a)) cls := fun A Q E s k q => wpAny_typeOf_ref (k _ _ at3) (by rw [zc3.1]; exact q)
    have LM := PySem.W.exm_one (M := model X.prog X.w) J3.kIn lookT isOne
    have named : ∀ {Q E : Value → Shared → Prop}, Q c { t with heap := h3 } → wpAny (model X.prog X.w) (X.A.mark (some (.ref a))) (eval (.Name x np) X.env) Q E { t with heap := h3 } := by
      intro Q E q
      obtain ⟨g, gd, g2⟩ := hc
      rcases g2 with m | ⟨m, v, nn⟩
      · exact ld_glob (X := X.suite a ((a, oz3) :: (X.pn ++ pn0))) In3 g m q gd
      · exact ld_blt (X := X.suite a ((a, oz3) :: (X.pn ++ pn0))) In3 g m v q nn gd
    refine named (LM.here ?_)
    refine codeAny_handlers_suite_as (HandSPX.lands_againZ fl fun h4 flr up4 => ?_)
    have J4 : Inv X pn0 σ' H' { t with heap := h4 } := Jb.landed nb flr.1 ((up.trans up3).trans up4) os ag
    obtain ⟨oz4, vz4, at4, zc4, dt4⟩ := flr.there
    have In4 := J4.suite at4 dt4 na nL nF
    refine store_ok (X := X.suite a ((a, oz4) :: (X.pn ++ pn0))) (v := .ref a) In4 hN hi (.inl hlv) rfl (fun s5 S5 => ?_) (.inr hlv)
    have il : i < σ'.length := by
      rw [In4.len]
      exact (List.getElem?_eq_some_iff.mp hi).1
    have suite : PSs (X.suite a ((a, oz4) :: (X.pn ++ pn0))) [.Assign [.Name y p1] (.Name n p2) p3] (tAsg (tVar i) (gName j)) :=
      pss_one (ps_set hN hj (.inl hlj) (pe_var hi (.inl hlv) hdb hdc) rfl (.inr hlj))
    refine wpAny_mono (suite.run [] s5 _ H' { nx := fun σ6 H6 => σ6 = (σ'.set i (some (.ref a))).set j (some (.ref a)) ∧ H6 = H', rt := fun _ _ => False, bk := fun _ _ => False, ct := fun _ _ => False } S5 ⟨_, List.getElem?_set_self il, rfl, rfl⟩) (fun f s6 q => ?_) (fun _ _ z => False.elim z)
    match f, q with
    | .ret _, q =>
      obtain ⟨_, _, _, _, _, z⟩ := q
      exact False.elim z
    | .brk, q =>
      obtain ⟨_, _, _, z⟩ := q
      exact False.elim z
    | .cont, q =>
      obtain ⟨_, _, _, z⟩ := q
      exact False.elim z
    | .next, q =>
      obtain ⟨σ6, H6, S6, rfl, rfl⟩ := q
      have pin := S6.pin (a, oz4) List.mem_cons_self
      have J6 : Inv X pn0 _ _ s6 := S6.unsuite ok
      have J7 := Kx.Inv.track J6 pin.1 zc4 dt4 na new0 nL np0
      refine gone_ok J7 hN hi hln fun s8 J8 => ⟨_, _, J8, hend a na Jb.len⟩
  refine wpAny_mono (run.run [] s σ H D (I.toTry _) h) (fun f s1 q => ?_) fun _ _ z => z
  match f, q with
  | .next, q =>
    obtain ⟨σ', H', J', z⟩ := q
    exact wpAny_execs_nil ⟨σ', H', J'.ofTry ok, z⟩
  | .brk, q =>
    obtain ⟨σ', H', J', z⟩ := q
    exact ⟨σ', H', J'.ofTry ok, z⟩
  | .cont, q =>
    obtain ⟨σ', H', J', z⟩ := q
    exact ⟨σ', H', J'.ofTry ok, z⟩
  | .ret u, q =>
    obtain ⟨v, σ', H', J', r, z⟩ := q
    exact ⟨v, σ', H', J'.ofTry ok, r, z⟩
end
end Kx
namespace Kx
open PySem PySem.Spec PyProof.Rows L2 SX LamX
section
variable {X : Cx} {pn0 : List (Addr × Obj)} {σ : L2.St} {H HZ : Hp} {s sB : Shared}
abbrev lamQ (X : Cx) : Str := X.env.qual ++ "<lambda>"
/-- the lambda as an object, its defaults at dV -/
abbrev lamObj (X : Cx) (params : Arguments) (body : Expr) (scp : Scope) (dV doc pm : Value) (c' : Addr) (ctv : Value) : Obj := PySem.W.kdv_obj "<lambda>" (lamQ X) params (.expr body) scp (cloFrom X.env.cells scp.names []) dV doc pm c' ctv
/-- what the making leaves -/
def Made (X : Cx) (pn0 : List (Addr × Obj)) (σ : L2.St) (H : Hp) (T : List (Addr × Str)) (params : Arguments) (body : Expr) (scp : Scope) (dV : Value) (s0 : Shared) (v : Value) (s' : Shared) : Prop :=
  ∃ (f c' : Addr) (doc pm ctv : Value) (H1 : Hp), v = .ref f ∧ Inv X pn0 σ H1 s' ∧ ExtN H H1 ∧ Tabs T H1 ∧ s'.heap.get? f = some (lamObj X params body scp dV doc pm c' ctv) ∧ H1 f = none ∧ f ∉ frs X.stack ∧ H1 c' = some (CodeO c' (lamQ X)) ∧
    (∀ b o, s0.heap.get? b = some o → (∀ pz, H b ≠ some (.tbl pz)) → s'.heap.get? b = some o) ∧ (∀ b, b < s0.heap.objs.size → H b = none → H1 b = none)
theorem lam_tail {T : List (Addr × Str)} {c P : Addr} {params : Arguments} {body : Expr} {scp : Scope} {pos : Pos} {ln : Nat} {dV : Value} {E : Value → Shared → Prop} (I : Inv X pn0 σ H s) (TB : TabB X.base X.mg c P) (hcode : X.env.code = .ref c)
    (hm : (P, lamQ X) ∈ T) (onlyP : ∀ p ∈ T, p.1 = P → p.2 = lamQ X) (hT : Tabs T H) (hfree : ∀ y ∈ scp.names, y.2 = .free → ∃ c, X.env.cells.lookup y.1 = some c) :
    wpAny (model X.prog X.w) X.A (makeTail "<lambda>" (lamQ X) params (.expr body) scp X.env dV .none none pos ln) (Made X pn0 σ H T params body scp dV s) E s := by
  obtain ⟨pz, eP, tr3, amg⟩ := hT _ hm
  have btP : s.heap.BuiltinsAt X.mg P := TB.bm.keeps I.bk
  have hP' : s.heap.get? P = some { cls := .none, data := .fields pz } := I.hok P _ eP
  have nofr : ∀ f, s.heap.objs.size ≤ f → f ∉ frs X.stack := by
    intro f hf z
    rcases List.mem_cons.mp (I.stkSub _ z) with e | e
    · have h1 := I.lt
      rw [← e] at h1
      exact absurd (Nat.lt_of_lt_of_le h1 hf) (Nat.lt_irrefl _)
    · exact I.nofs hf e
  cases fnd : codeAmong pos pz.toList with
  | none =>
    refine PySem.W.kdv_makeTail (mg := X.mg) (c := c) (P := P) (ps := pz) (closure_ok hfree) I.ok.glob (I.mod.glob.keeps I.bk) hcode (TB.code.keeps I.bk) hP' tr3 fnd TB.gP btP fun c' ctv doc h' tk stP gec ltc rcc tbb => ?_
    obtain ⟨cc2, oc, vs, t, e2, ocE, hd, ovE⟩ := rcc
    cases e2
    have szle : s.heap.objs.size ≤ h'.objs.size := Nat.le_trans gec (Nat.le_of_lt ltc)
    have ncn : H c' = none := I.hok.fresh gec
    have up : ∀ b o, b ≠ P → s.heap.get? b = some o → (h'.push (lamObj X params body scp dV doc ((X.mg "__name__").getD .none) c' ctv)).get? b = some o := fun b o hb e => Heap.get?_push_of_some _ (stP b o hb e)
    have I1 := inv_table (t' := tk) (more := #[rawInt pos.line, rawInt pos.col, .ref c']) (h' := h'.push (lamObj X params body scp dV doc ((X.mg "__name__").getD .none) c' ctv)) I eP up (Heap.get?_push_of_some _ tbb) gec ⟨oc, vs, t, Heap.get?_push_of_some _ ocE, hd, ovE⟩
    have exE : ExtN H (upd (upd H P (.tbl (pz ++ #[rawInt pos.line, rawInt pos.col, .ref c']))) c' (CodeO c' (lamQ X))) := by
      intro b o e n
      rw [upd_ne (ne_of_none e ncn), upd_ne (fun z => n pz (Option.some.inj (e.symm.trans (by rw [z]; exact eP))))]
      exact e
    have ell : (pz ++ #[rawInt pos.line, rawInt pos.col, .ref c']).toList = pz.toList ++ [rawInt pos.line, rawInt pos.col, .ref c'] := by simp
    refine ⟨h'.objs.size, c', doc, _, ctv, _, rfl, I1, exE, fun p hp => ?_, Heap.get?_push_size _ rfl, ?_, nofr _ szle, upd_same, fun b o e n => up b o (fun z => n pz (by rw [z]; exact eP)) e, fun b hb n => ?_⟩
    · by_cases hb : p.1 = P
      · rw [onlyP p hp hb, hb]
        refine ⟨_, by rw [upd_ne (ne_of_none eP ncn), upd_same], by rw [ell]; exact PySem.TriplesOk_snoc _ _ _ _ tr3, fun p' cwv cvE => ?_⟩
        rw [ell] at cvE
        rcases among_app _ tr3 cvE with z | z
        · obtain ⟨cq, e1, e2⟩ := amg p' cwv z
          exact ⟨cq, e1, exE _ _ e2 codeO_ne⟩
        · exact ⟨c', z, upd_same⟩
      · obtain ⟨ps', a1, a2, a3⟩ := hT p hp
        refine ⟨ps', by rw [upd_ne (ne_of_none a1 ncn), upd_ne hb]; exact a1, a2, fun p' cwv cvE => ?_⟩
        obtain ⟨cq, e1, e2⟩ := a3 p' cwv cvE
        exact ⟨cq, e1, exE _ _ e2 codeO_ne⟩
    · rw [upd_ne (Nat.ne_of_gt ltc), upd_ne (Nat.ne_of_gt (Nat.lt_of_lt_of_le (Heap.lt_size hP') szle))]
      exact I.hok.fresh szle
    · have n1 : b ≠ c' := Nat.ne_of_lt (Nat.lt_of_lt_of_le hb gec)
      have n2 : b ≠ P := fun z => by
        rw [z, eP] at n
        cases n
      rw [upd_ne n1, upd_ne n2]
      exact n
  | some cwv =>
    obtain ⟨c', e, hco⟩ := amg pos cwv fnd
    subst e
    refine PySem.W.kdv_makeTailHit (mg := X.mg) (c := c) (P := P) (ps := pz) (closure_ok hfree) I.ok.glob (I.mod.glob.keeps I.bk) hcode (TB.code.keeps I.bk) hP' tr3 fnd btP fun ctv doc h' tk stP szle => ?_
    refine ⟨h'.objs.size, c', doc, (X.mg "__name__").getD .none, ctv, H, rfl, I.kept fun b o e => Heap.get?_push_of_some _ (stP b o e), ExtN.refl H, hT, Heap.get?_push_size _ rfl, I.hok.fresh szle, nofr _ szle, hco, fun b o e _ => Heap.get?_push_of_some _ (stP b o e), fun _ _ n => n⟩
/-- .. with one default, 0 -/
theorem lam_makeD {T : List (Addr × Str)} {c P : Addr} {params : Arguments} {body : Expr} {scp : Scope} {pos cp : Pos} {j : Nat} {E : Value → Shared → Prop} {Qw : Value → Shared → Prop} (I : Inv X pn0 σ H s) (TB : TabB X.base X.mg c P) (hcode : X.env.code = .ref c)
    (hm : (P, lamQ X) ∈ T) (onlyP : ∀ p ∈ T, p.1 = P → p.2 = lamQ X) (hT : Tabs T H) (hfree : ∀ y ∈ scp.names, y.2 = .free → ∃ c, X.env.cells.lookup y.1 = some c)
    (hp : params.defaults = [.Constant (.int 0) j cp]) (hk : params.kw_defaults = [])
    (h : ∀ (t f c' : Addr) (tk : Tok) (doc pm ctv : Value) (H1 : Hp) (s' : Shared), Inv X pn0 σ H1 s' → ExtN H H1 → Tabs T H1 → s'.heap.get? t = some (PySem.W.kdv_tup [.int 0 tk]) → H1 t = none → t ∉ frs X.stack →
      s'.heap.get? f = some (lamObj X params body scp (.ref t) doc pm c' ctv) → H1 f = none → f ∉ frs X.stack → H1 c' = some (CodeO c' (lamQ X)) → Qw (.ref f) s') :
    wpAny (model X.prog X.w) X.A (eval (.Lambda params body scp pos) X.env) Qw E s := by
  refine PySem.W.kdv_lam (by rw [hp]; rfl) hk ?_
  rw [hp]
  refine PySem.W.kdv_all1 (thn ((pe_int (X := X) (i := 0) (j := j) (pos := cp)).run pn0 s σ H (fun v H1 => v = .int 0 ∧ H1 = H) I ⟨rfl, rfl⟩) fun u sB ⟨v, H1, I1, r, e1, e2⟩ => ?_)
  subst e1 e2
  obtain ⟨tk, rfl⟩ := r
  refine PySem.W.kdv_all0 ?_
  rw [makeFunction_eq]
  simp only [List.zip_nil_right, List.filterMap_nil, List.isEmpty_nil, if_true, pure_bind, List.isEmpty_cons, Bool.false_eq_true, if_false]
  refine wpAny_bind (wpAny_newTextTuple ?_)
  have fresh : H1 sB.heap.objs.size = none := I1.hok.fresh (Nat.le_refl _)
  have off : sB.heap.objs.size ∉ frs X.stack := by
    intro z
    rcases List.mem_cons.mp (I1.stkSub _ z) with e | e
    · exact absurd I1.lt (by rw [← e]; exact Nat.lt_irrefl _)
    · exact I1.nofs (Nat.le_refl _) e
  have I2 : Inv X pn0 σ H1 { sB with heap := sB.heap.push (PySem.W.kdv_tup [.int 0 tk]) } := I1.kept (t' := sB.toks) fun b o e => Heap.get?_push_of_some _ e
  refine thn (lam_tail I2 TB hcode hm onlyP hT hfree) fun v s2 ⟨f, c', doc, pm, ctv, H2, ev, I3, eN, T3, hf, nf, off2, hco, keep, fr⟩ => ?_
  subst ev
  refine h sB.heap.objs.size f c' tk doc pm ctv H2 s2 I3 eN T3 (keep _ _ (Heap.get?_push_size _ rfl) fun pz z => ?_) (fr _ ?_ fresh) off hf nf off2 hco
  · rw [fresh] at z
    cases z
  · show sB.heap.objs.size < (sB.heap.push _).objs.size
    rw [Heap.size_push]
    exact Nat.lt_succ_self _
/-! ### its body -/
/-- one parameter, z, with a default; else captured names and globals -/
structure LamP (sc scp : Scope) (z : Str) : Prop where
  kind : scp.kind = .function
  co : scp.isCoroutine = false
  gen : scp.isGenerator = false
  own : ∀ y ∈ scp.names, y.2 ≠ .cell ∧ (y.2 = .local → y.1 = z)
  par : scp.names.lookup z = some .local
  free : ∀ y ∈ scp.names, y.2 = .free → sc.names.lookup y.1 = some .cell ∨ sc.names.lookup y.1 = some .free
theorem LamP.has {X : Cx} {scp : Scope} {z : Str} (L : LamP X.env.scope scp z) (ok : X.Ok) : ∀ y ∈ scp.names, y.2 = .free → ∃ c, X.env.cells.lookup y.1 = some c := fun y hy e => ok.has _ ((L.free y hy e).imp id id)
/-- the slots' names without z -/
def hideN (z : Str) (N : List Str) : List Str := N.map fun y => if y = z then ("%" : Str) else y
/-- the context of such a body -/
def lamCxD (X : Cx) (A : Around) (outer : List Env) (s : Shared) (H : Hp) (E : XK) (scp : Scope) (z : Str) (f c' : Addr) : Cx := { lamCx X A outer s H E scp f c' with N := hideN z X.N }
theorem lam_startD {A : Around} {outer : List Env} {E : XK} {scp : Scope} {z : Str} {f c' : Addr} {h₁ : Heap} {tk : Nat} {u : Value} (I : Inv X pn0 σ H s) (L : LamP X.env.scope scp z) (hz : scp.names.lookup ("%" : Str) = none) (e0 : Env0 X.prog X.w X.K X.mg X.base A outer sB HZ)
    (hd : A.handled = none) (un : Un (frs X.stack) [] H HZ s.heap sB.heap) (hns : h₁.Ns sB.heap.objs.size fun y => ([(z, u)] : List (Str × Value)).reverse.lookup y) (kp : ∀ b o, sB.heap.get? b = some o → h₁.get? b = some o) :
    Inv (lamCxD X A outer sB HZ E scp z f c') [] σ HZ { sB with heap := h₁, toks := tk } := by
  have hfree := L.has I.ok
  have back : ∀ {y c}, (cloFrom X.env.cells scp.names []).lookup y = some c → X.env.cells.lookup y = some c := by
    intro y c e
    rcases cloFrom_mem (PySem.mem_of_lookup e) with hm | ⟨h1, h2⟩
    · cases hm
    · obtain ⟨cc1, fnd⟩ := hfree _ h1 rfl
      have hc' : X.env.cells.lookup y = some cc1 := fnd
      have e2 : c = cc1 := by
        rw [h2]
        show (X.env.cells.lookup y).getD 0 = cc1
        rw [hc'] <;> rfl
      rw [e2]
      exact hc'
  have there : ∀ {y}, scp.names.lookup y = some .free → ∃ c, (cloFrom X.env.cells scp.names []).lookup y = some c := fun {y} hl => mem_lookup (cloFrom_has (cells := X.env.cells) (acc := []) (PySem.mem_of_lookup hl))
  have cellK : ∀ {c : Addr} {v : Option Value}, H c = none → s.heap.IsCell c v → h₁.IsCell c v := by
    rintro c v n ⟨o, ho, hdat⟩
    obtain ⟨sl, q⟩ := un.any ho n List.not_mem_nil
    exact ⟨_, kp _ _ q, hdat⟩
  have noEx : ∀ b : Addr, b ∉ (lamCxD X A outer sB HZ E scp z f c').ex := fun b => List.not_mem_nil
  refine
    { ok :=
        { mod := e0.mod
          kind := L.kind
          glob := rfl
          blt := rfl
          above := Nat.le_refl _
          inj := fun y y2 c e1 e2 => I.ok.inj y y2 c (back e1) (back e2)
          has := fun y hy => ?has
          cab := fun y c q _ => absurd (show false = true from q) Bool.false_ne_true
          hd := fun _ => hd
          frames := Around.frames_deeper e0.frames
          stk := .inr ⟨rfl, rfl⟩
          exf := fun b q => absurd q (noEx b)
          bs := e0.bs
          bsz := e0.bsz
          noex := fun b _ _ => noEx b
          exfs := fun b q => absurd q (noEx b)
          funs := e0.funs
          frf := e0.frf }
      os := rfl
      bare := e0.bare
      base := Un.kept kp
      loc := ⟨_, hns, fun i y v e1 e2 e3 => ?loc⟩
      cell := fun y c e => ?cell
      free := e0.hok.fresh (Nat.le_refl _)
      freeC := fun y c e => ?freeC
      pin := fun q hq => absurd (show q ∈ ([] : List (Addr × Obj)) ++ [] from hq) List.not_mem_nil
      hok := e0.hok.kept kp
      len := ?len }
  case has =>
    rcases (show scp.names.lookup y = some .cell ∨ scp.names.lookup y = some .free from hy) with q | q
    · exact absurd rfl (L.own _ (PySem.mem_of_lookup q)).1
    · exact there q
  case loc =>
    have e3 : Vis scp y := e3
    have e1' : (hideN z X.N)[i]? = some y := e1
    rcases e3 with k | k | k
    · exfalso
      have ez : y = z := (L.own _ (PySem.mem_of_lookup k)).2 rfl
      unfold hideN at e1'
      rw [List.getElem?_map] at e1'
      cases q : X.N[i]? with
      | none =>
        rw [q] at e1'
        cases e1'
      | some n =>
        rw [q] at e1'
        have e4 : (if n = z then ("%" : Str) else n) = y := Option.some.inj e1'
        by_cases hn : n = z
        · rw [if_pos hn] at e4
          rw [← e4, hz] at k
          cases k
        · rw [if_neg hn] at e4
          exact hn (e4.trans ez)
    · exact absurd rfl (L.own _ (PySem.mem_of_lookup k)).1
    · have eN : X.N[i]? = some y := by
        unfold hideN at e1'
        rw [List.getElem?_map] at e1'
        cases q : X.N[i]? with
        | none =>
          rw [q] at e1'
          cases e1'
        | some n =>
          rw [q] at e1'
          have e4 : (if n = z then ("%" : Str) else n) = y := Option.some.inj e1'
          by_cases hn : n = z
          · rw [if_pos hn] at e4
            rw [← e4, hz] at k
            cases k
          · rw [if_neg hn] at e4
            rw [e4]
      obtain ⟨m, hn, hl⟩ := I.loc
      have vis : Vis X.env.scope y := (L.free _ (PySem.mem_of_lookup k) rfl).elim (fun q => .inr (.inl q)) fun q => .inr (.inr q)
      obtain ⟨w', r, q⟩ := hl i y v eN e2 vis
      obtain ⟨cc2, h2⟩ := there k
      refine ⟨w', r, .inr ⟨.inr k, cc2, h2, ?_⟩⟩
      have cc1 := back h2
      rcases q with ⟨k', _⟩ | ⟨_, c3, e', q3⟩
      · have k' : X.env.scope.names.lookup y = some .local := k'
        rcases L.free _ (PySem.mem_of_lookup k) rfl with kk2 | kk2 <;> rw [show X.env.scope.names.lookup y = _ from kk2] at k' <;> cases k'
      · rw [cc1] at e'
        cases e'
        exact cellK (I.freeC y _ cc1) q3
  case cell =>
    obtain ⟨w', q⟩ := I.cell y c (back e)
    exact ⟨w', cellK (I.freeC y c (back e)) q⟩
  case freeC =>
    obtain ⟨v, o, ho, _⟩ := I.cell y c (back e)
    exact un.free c o ho (I.freeC y c (back e)) List.not_mem_nil
  case len =>
    show σ.length = (hideN z X.N).length
    unfold hideN
    rw [List.length_map]
    exact I.len
end
end Kx
namespace Kx
open PySem PySem.Spec PyProof.Rows L2 SX LamX
section
variable {X : Cx} {pn0 : List (Addr × Obj)} {σ : L2.St} {Hm : Hp} {st : Shared}
/-- how the lambda's one default binds -/
def BindD (params : Arguments) (body : Expr) (scp : Scope) (z : Str) : Prop := ∀ (q : Str) (cl : List (Str × Addr)) (t : Addr) (doc pm cv ctv : Value) (tk : Tok), ∃ k,
  bindArgs (PySem.W.kdv_fn "<lambda>" q params (.expr body) scp cl (.ref t) doc pm cv ctv) ⟨[], []⟩ = seqItems? (.ref t) >>= k ∧ k (some #[.int 0 tk]) = pure [(z, .int 0 tk)]
theorem pe_actD {CXg : CXT} {Eg : XK} {Ng : List Str} {qg : Str} {sg : Scope} {g f c' t : Addr} {tk : Tok} {cdg doc pm ctv : Value} {params : Arguments} {body : Expr} {scp : Scope} {z : Str} {k i : Nat} {a : Str} {pn : List (Addr × Obj)} {xe : Value → Shared → Prop} {W : WX} {E : XK} {tb : TE} {p1 p2 : Pos}
    (I : Inv X pn0 σ Hm st) (L : LamP X.env.scope scp z) (hz : scp.names.lookup ("%" : Str) = none)
    (ht : st.heap.get? t = some (PySem.W.kdv_tup [.int 0 tk])) (htn : Hm t = none) (htr : t ∉ frs X.stack)
    (hf : st.heap.get? f = some (lamObj X params body scp (.ref t) doc pm c' ctv)) (hfn : Hm f = none) (hfr : f ∉ frs X.stack) (hbind : BindD params body scp z)
    (tk' : Takes ((cxOf CXg X.prog X.w X.K X.mg X.base Ng qg sg g cdg X.A X.stack st Hm Eg).tr pn xe) W) (hW : ∀ cls d σ' H', E cls d H' → W cls d σ' H') (hr : Room (k + 1) (X.A.deeper (envOfC qg sg st.heap.objs.size g cdg)))
    (hbody : ∀ (A : Around) (outer : List Env) (st : Shared) (Hm : Hp), Room k (A.deeper (lamEnv X scp st.heap.objs.size f c')) → PE (lamCxD X A outer st Hm E scp z f c') body tb)
    (ixN1 : Ng[i]? = some a) (visN : Vis sg a) (dbgN : (a == ("__debug__" : Str)) = false := by decide) (clsN : (a == ("__classdict__" : Str)) = false := by decide) :
    PE ((cxOf CXg X.prog X.w X.K X.mg X.base Ng qg sg g cdg X.A X.stack st Hm Eg).tr pn xe) (.Call (.Name a p1) [] [] p2)
      (fun σZ HZ Q => σZ[i]? = some (some (.ref f)) ∧ HZ c' = some (CodeO c' (lamQ X)) ∧ tb σ HZ Q) := by
  refine ⟨fun pnZ tZ σZ HZ Q IZ h => ?_⟩
  obtain ⟨hs, hc, hq⟩ := h
  refine wpAny_Call_Name_kw (thn ((pe_var (pos := p1) (i := i) ixN1 visN dbgN clsN).run pnZ tZ σZ HZ (fun v H1 => v = .ref f ∧ H1 = HZ) IZ ⟨.ref f, hs, rfl, rfl⟩) fun u s1 hh => ?_)
  obtain ⟨v, H1, I1, r1, rfl, rfl⟩ := hh
  obtain rfl : u = Value.ref f := r1
  have none_ex : ∀ {b : Addr}, b ∉ ([] : List Addr) := fun {b} => List.not_mem_nil
  have f1 := I1.base.keep f _ hf hfn hfr none_ex
  have t1 := I1.base.keep t _ ht htn htr none_ex
  refine PySem.W.callWith_F0 ⟨_, _, _, _, f1⟩ ?_
  have un : Un (frs X.stack) [] Hm H1 st.heap s1.heap := I1.base
  obtain ⟨⟨oc, vs, tq, e1, e2, e3⟩, _, _⟩ := I1.hok c' _ hc
  have run : codeAny (model X.prog X.w) (X.A.deeper (envOfC qg sg st.heap.objs.size g cdg)) (.call (.ref f) ⟨[], []⟩) (CR (L2.CX X.prog X.w) (envOfC qg sg st.heap.objs.size g cdg :: X.stack) X.prog X.w H1 s1 Q E) s1 := by
    refine PySem.W.kla_callFunE hr.depth f1 rfl L.co L.gen rfl ⟨c', oc, vs, tq, rfl, e1, e2, e3⟩ ?_
    obtain ⟨k2, b1, b2⟩ := hbind (lamQ X) (cloFrom X.env.cells scp.names []) t doc pm (.ref c') ctv tk
    refine BindsTo.of_defaults rfl t1 rfl b1 b2 _ _ _ _ ?_
    refine wpAny_newFunctionEnv (fun y hy => (L.own y hy).1) (fun y hy => ?_) (fun h₁ hns sbt => ⟨I1.nolimit.fresh _ sbt, ?_⟩) L.kind
    · obtain rfl := List.mem_singleton.mp hy
      exact L.par
    show codeAny _ _ (.expr body (lamEnv X scp s1.heap.objs.size f c')) _ _
    have kpt : ∀ b o, s1.heap.get? b = some o → h₁.get? b = some o := fun b o e => sbt.extBut b o (Nat.ne_of_lt (Heap.lt_size e)) (Heap.get?_push_of_some _ e)
    have J := lam_startD (E := E) (f := f) (c' := c') (tk := s1.toks + 1) I L hz I1.env0 hr.hd un hns kpt
    refine PySem.W.kla_codeExpr (wpAny_mono ((hbody _ _ s1 H1 (hr.deeper _)).run [] _ _ H1 Q J hq) (fun v s' q => ?_) fun _ _ q => q)
    obtain ⟨w', H', J', rv, q⟩ := q
    exact ⟨w', H', J'.os, J'.bare, J'.base, J'.hok, rv, q⟩
  have pass : Passes (L2.CX X.prog X.w) ((cxOf CXg X.prog X.w X.K X.mg X.base Ng qg sg g cdg X.A X.stack st Hm Eg).tr pn xe) E := passes_call tk' hW
  refine wpAny_call (codeAny_mono run fun r s' q => ?_)
  match r, q with
  | .error e, q => exact pass pnZ σZ H1 s1 e s' I1 q
  | .ok (.ret u), q => exact I1.after q
  | .ok .next, q => exact False.elim q
  | .ok .brk, q => exact False.elim q
  | .ok .cont, q => exact False.elim q
/-- x(lambda z=0: body) -/
theorem pe_lamcallD {T : List (Addr × Str)} {TT : (XK → Hp → VK → Prop) → Hp → VK → Prop} {x a z : Str} {g c P : Addr} {k : Nat} {pg : Arguments} {bg : List Stmt} {sg : Scope} {dV kV doc pm cdw ct oc : Value} {an od : Option Addr} {slg : Array (Option Value)} {Ng : List Str}
    {params : Arguments} {body : Expr} {scp : Scope} {t : XK → TE} {p lps pos cp : Pos} {j : Nat} (hg : Gl X x) (mgx : X.mg x = some (.ref g)) (hk : PySem.W.keepIn X.K (.ref g) = true)
    (lkg : X.K.lookup g = some ⟨oc, od, .func (PySem.W.fnOf x x pg bg sg dV kV doc pm an cdw ct), slg⟩) (cdg2 : PySem.W.codeIn X.K cdw x = true) (bdg : L2.Binds X.K (PySem.W.fnOf x x pg bg sg dV kV doc pm an cdw ct) [a] []) (Sg : FnScope Ng [a] sg) (hNg : Ng[0]? = some a) (hva : Vis sg a)
    (hG : GivesTo X Ng x sg g cdw bg a (lamQ X) TT) (TB : TabB X.base X.mg c P) (hcode : X.env.code = .ref c) (hmT : (P, lamQ X) ∈ T) (hu : ∀ p ∈ T, p.1 = P → p.2 = lamQ X) (hr : Room (k + 2) X.A)
    (L : LamP X.env.scope scp z) (hz : scp.names.lookup ("%" : Str) = none) (hp : params.defaults = [.Constant (.int 0) j cp]) (hkw : params.kw_defaults = []) (hbind : BindD params body scp z)
    (hbody : ∀ (A : Around) (outer : List Env) (st : Shared) (Hm : Hp) (E : XK) (f c' : Addr), Room k (A.deeper (lamEnv X scp st.heap.objs.size f c')) → PE (lamCxD X A outer st Hm E scp z f c') body (t E))
    (dbgX : (x == ("__debug__" : Str)) = false := by decide) (dbgN : (a == ("__debug__" : Str)) = false := by decide) (clsN : (a == ("__classdict__" : Str)) = false := by decide) :
    PE X (.Call (.Name x p) [.Lambda params body scp lps] [] pos) (tLam T TT t) := by
  refine ⟨fun pn0 st σ Hm Q I h => ?_⟩
  obtain ⟨hT, hq⟩ := h
  refine wpAny_Call_Name_kw (ld_glob I hg mgx ?_ dbgX)
  refine PySem.W.callWith_K (h₀ := X.base) I.ok.mod.kin hk ?_ (by rfl) (by rfl)
  show wpAny _ _ (spliced ((false, eval (.Lambda params body scp lps) X.env) :: backTo pos (starEach [] X.env))) _ _ st
  refine Calls.spliced_cons (lam_makeD I TB hcode hmT hu hT (L.has I.ok) hp hkw ?_)
  intro tt f c' tk doc' pm' ctv H1 s' I1 eN T1 ht nt ot hf nf of_ hco
  refine Calls.spliced_nil ⟨I1.kIn, ?_⟩
  have called : codeAny (model X.prog X.w) X.A (.call (.ref g) ⟨[.ref f], []⟩) (CR C8.CX0 X.stack X.prog X.w H1 s' Q C8.E0) s' := by
    refine run_ofS (N := Ng) (ps := [a]) (us := [.ref f]) (vs := [.ref f]) lkg cdg2 Sg hr I1.env0 (bdg s' [.ref f] I1.kIn rfl) (.cons rfl .nil) rfl fun hr' => ?_
    obtain ⟨t', d', q'⟩ := hG f c' s' H1 Q (fun E H' Q' => t E σ H' Q') (fun W pn xe E p1 p2 tk2 hW => pe_actD (i := 0) I1 L hz ht nt ot hf nf of_ hbind tk2 hW hr' (fun A outer st Hm hr2 => hbody A outer st Hm E f c' hr2) hNg hva dbgN clsN) hco (hq H1 eN T1)
    exact ⟨t', d'.nox, q'⟩
  refine wpAny_call (codeAny_mono called fun r s2 q => ?_)
  match r, q with
  | .error e, q => exact (show False from q).elim
  | .ok (.ret u), q => exact I1.after q
  | .ok .next, q => exact False.elim q
  | .ok .brk, q => exact False.elim q
  | .ok .cont, q => exact False.elim q
end
end Kx
namespace Kx
open PySem PySem.Spec PyProof.Rows L2 SX LamX
/-! ### the law's own call: guards told, tables of code objects known -/
section
variable {P : Program} {w : World} {K : PySem.W.Frag} {mg mb : Str → Option Value} {k : Nat} {fa a : Addr} {fd : FuncData} {x : Str} {sp : Sp} {s : Shared} {vs : List Value} {ns : List Int} {cs : List (Addr × Addr)}
abbrev tab0 : Obj := { cls := .none, data := .fields #[] }
abbrev scriptObj (vs : List Value) : Obj := { cls := .type "list", data := .seq vs.toArray }
/-- what is tracked when the law begins: the script, perhaps, and the tables -/
inductive Tr (cs : List (Addr × Addr)) (K : PySem.W.Frag) (a : Addr) (b : Addr) (u : HO) : Prop where
  | script (o : Obj) (xs : List V) (e : b = a) (k : K.lookup a = none) (h : u = .frz o (.lst xs))
  | table (p : Addr × Addr) (m : p ∈ cs) (e : b = p.2) (h : u = .tbl #[])
theorem lawT_of (KX : K.In s.heap) (G : s.heap.Ns mainGlobals mg) (B : s.heap.Ns builtinsNs mb) (BB : ∀ y : Str, y ≠ "__name__" → mb y = bootBuiltins y) (NL : s.heap.NoLimit) (g0 : s.gens = #[])
    (hT : ∀ p ∈ cs, s.heap.get? p.2 = some tab0 ∧ K.lookup p.2 = none ∧ PySem.W.CodeHd s.heap p.1 p.2)
    (bm : ∃ (m : Addr) (ob : Obj), mg "__builtins__" = some (.ref m) ∧ m ≠ builtinsNs ∧ s.heap.get? m = some ob ∧ ob.cls = .type "module" ∧ ob.dict = some builtinsNs ∧ ob.data = .plain)
    (ha : s.heap.get? a = some (scriptObj vs)) (hr : Room k callerA) (F : ∀ base : Heap, K.In base → base.Ns mainGlobals mg → (∀ p ∈ cs, TabB base mg p.1 p.2) → FnG P w K mg base CX0 k fa fd [x] sp)
    (bd : ∀ (t : Shared) (u : Value), BindsTo t fd ⟨[u], []⟩ [(x, u)]) (H : Hp) (tr : ∀ b u, H b = some u → Tr cs K a b u) (ok : HOk P w H s.heap) (all : ∀ p ∈ cs, H p.2 = some (.tbl #[]))
    (pr : sp [.ref a] H (fun v _ => v = .bl true) fun _ _ _ => False) : codeAny (model P w) callerA (.call (.ref fa) ⟨[.ref a], []⟩) (LawEnd s) s := by
  have stay : ∀ {b : Addr} {o : Obj}, s.heap.get? b = some o → H b = none → (hidT s.heap H).get? b = some o := fun e n => hidT_get e n
  -- what is neither a list nor an empty table is not tracked
  have off : ∀ {b : Addr} {o : Obj}, s.heap.get? b = some o → (∀ l n, o.data ≠ .seq l n) → o.data ≠ .fields #[] → H b = none := by
    intro b o e h1 h2
    cases q : H b with
    | none => rfl
    | some u =>
      exfalso
      cases tr b u q with
      | script ob xs eb _ _ =>
        rw [eb, ha] at e
        cases e
        exact h1 _ _ rfl
      | table p m eb _ =>
        rw [eb, (hT p m).1] at e
        cases e
        exact h2 rfl
  have nsK : ∀ {b : Addr} {m : Str → Option Value}, s.heap.Ns b m → (hidT s.heap H).Ns b m := by
    rintro b m ⟨o, es, ep, e, d, r⟩
    exact ⟨o, es, ep, stay e (off e (fun l n z => by rw [d] at z; cases z) (fun z => by rw [d] at z; cases z)), d, r⟩
  have Kb : K.In (hidT s.heap H) := by
    intro b o e
    refine stay (KX b o e) ?_
    cases q : H b with
    | none => rfl
    | some u =>
      exfalso
      cases tr b u q with
      | script ob xs eb kn _ =>
        rw [eb, kn] at e
        cases e
      | table p m eb _ =>
        rw [eb, (hT p m).2.1] at e
        cases e
  obtain ⟨ml, l1, l2⟩ := NL
  have TB : ∀ p ∈ cs, TabB (hidT s.heap H) mg p.1 p.2 := by
    intro p hp
    obtain ⟨t0, _, cd⟩ := hT p hp
    refine { code := ?_, bm := ?_, gP := ?_ }
    · obtain ⟨o, us, fl, tf, fg, tg, iF, tx, tt, e1, r1, r2, r3, r⟩ := cd
      refine ⟨o, us, fl, tf, fg, tg, iF, tx, tt, stay e1 (off e1 (fun l n z => by rw [r2] at z; cases z) fun z => ?_), r1, r2, r3, r⟩
      rw [r2] at z
      cases z
      simp at r3
    · obtain ⟨m, ob, b1, b2, b3, b4, b5, b6⟩ := bm
      have pl : ∀ d : Data, d = .plain → (∀ l n, d ≠ .seq l n) ∧ d ≠ .fields #[] := by
        rintro d rfl
        exact ⟨fun l n z => (by cases z), fun z => (by cases z)⟩
      refine ⟨m, ob, b1, b2, fun q => ?_, fun q => ?_, stay b3 (off b3 (pl _ b6).1 (pl _ b6).2), b4, b5, b6⟩
      · obtain ⟨o, es, ep, e, hd, _⟩ := G
        rw [q, e] at b3
        cases b3
        rw [hd] at b6
        cases b6
      · rw [q, t0] at b3
        cases b3
        cases b6
    · intro z
      obtain ⟨o, es, ep, e, hd, _⟩ := G
      rw [z, t0] at e
      cases e
      cases hd
  have E0 : Env0 P w K mg (hidT s.heap H) callerA [] s H :=
    { frames := rfl
      mod := { kin := Kb, glob := nsK G, blt := ⟨mb, nsK B, BB⟩, nolimit := ⟨ml, nsK l1, l2⟩ }
      bs := fun b o e => of_hidT e
      bsz := Nat.le_of_eq (hidT_size _ _)
      funs := trivial
      frf := fun b hb => absurd hb (List.not_mem_nil)
      hok := ok
      bare := .of_eq g0 }
  refine codeAny_mono ((F _ Kb (nsK G) TB).go callerA [] s H ⟨[.ref a], []⟩ [.ref a] [.ref a] _ _ rfl hr E0 (bd s (.ref a)) (.cons rfl .nil) pr) ?_
  intro r t h
  match r, h with
  | .error e, h =>
    exact (show False from h).elim
  | .ok .next, h => exact False.elim h
  | .ok .brk, h => exact False.elim h
  | .ok .cont, h => exact False.elim h
  | .ok (.ret u), h =>
    obtain ⟨v, H', h1, h2, un, ok', rv, rfl⟩ := h
    cases rv
    have grown : ∀ p ∈ cs, ∃ more : Array Value, t.heap.get? p.2 = some { cls := .none, data := .fields more } := by
      intro p hp
      obtain ⟨more, q⟩ := un.tbls p.2 #[] (all p hp)
      exact ⟨_, ok' p.2 _ q⟩
    have kept : ∀ b o, (∀ p ∈ cs, b ≠ p.2) → s.heap.get? b = some o → t.heap.get? b = some o := by
      intro b o nb e
      cases q : H b with
      | none => exact un.keep b o e q List.not_mem_nil List.not_mem_nil
      | some u =>
        cases tr b u q with
        | script ob xs eb _ eu =>
          rw [eu] at q
          have e1 := (ok b _ q).1
          have e2 := (ok' b _ (un.frzs b ob _ q)).1
          rw [e] at e1
          cases e1
          exact e2
        | table p m eb _ => exact absurd eb (nb p m)
    refine ⟨rfl, ⟨fun b o e => ?_, fun b o e => ?_⟩, h1, h2⟩
    · by_cases hb : ∃ p ∈ cs, b = p.2
      · obtain ⟨p, hp, rfl⟩ := hb
        obtain ⟨t0, _, cd⟩ := hT p hp
        obtain ⟨more, q⟩ := grown p hp
        rw [t0] at e
        cases e
        exact .inr (.inl ⟨(cd.tab t0).isCodeTable, rfl, #[], more, rfl, by rw [Array.empty_append]; exact q⟩)
      · exact .inl (kept b o (fun p hp z => hb ⟨p, hp, z⟩) e)
    · by_cases hb : ∃ p ∈ cs, b = p.2
      · obtain ⟨p, hp, rfl⟩ := hb
        obtain ⟨more, q⟩ := grown p hp
        exact ⟨_, q⟩
      · exact ⟨o, kept b o (fun p hp z => hb ⟨p, hp, z⟩) e⟩
theorem lawT (KX : K.In s.heap) (G : s.heap.Ns mainGlobals mg) (B : s.heap.Ns builtinsNs mb) (BB : ∀ y : Str, y ≠ "__name__" → mb y = bootBuiltins y) (NL : s.heap.NoLimit) (g0 : s.gens = #[])
    (hT : ∀ p ∈ cs, s.heap.get? p.2 = some tab0 ∧ K.lookup p.2 = none ∧ PySem.W.CodeHd s.heap p.1 p.2)
    (bm : ∃ (m : Addr) (ob : Obj), mg "__builtins__" = some (.ref m) ∧ m ≠ builtinsNs ∧ s.heap.get? m = some ob ∧ ob.cls = .type "module" ∧ ob.dict = some builtinsNs ∧ ob.data = .plain)
    (ha : s.heap.get? a = some (scriptObj vs)) (hi : IntsAre vs ns) (hl : ns.length ≤ sizeLine) (hr : Room k callerA)
    (F : ∀ base : Heap, K.In base → base.Ns mainGlobals mg → (∀ p ∈ cs, TabB base mg p.1 p.2) → FnG P w K mg base CX0 k fa fd [x] sp) (bd : ∀ (t : Shared) (u : Value), BindsTo t fd ⟨[u], []⟩ [(x, u)])
    (pr : ∀ H : Hp, (∀ p ∈ cs, H p.2 = some (.tbl #[])) → SqL K H a (ns.map V.int) → (∀ b u, H b = some u → Tr cs K a b u) → sp [.ref a] H (fun v _ => v = .bl true) fun _ _ _ => False) :
    codeAny (model P w) callerA (.call (.ref fa) ⟨[.ref a], []⟩) (LawEnd s) s := by
  have rv := vals_ints hi
  have na : ∀ p ∈ cs, p.2 ≠ a := by
    intro p hp z
    have e := (hT p hp).1
    rw [z, ha] at e
    cases e
  let tabs : Hp := fun b => if b ∈ cs.map (·.2) then some (.tbl #[]) else none
  have isT : ∀ p ∈ cs, tabs p.2 = some (.tbl #[]) := fun p hp => if_pos (List.mem_map.mpr ⟨p, hp, rfl⟩)
  have ofT : ∀ b u, tabs b = some u → ∃ p ∈ cs, b = p.2 ∧ u = .tbl #[] := by
    intro b u q
    by_cases hb : b ∈ cs.map (·.2)
    · obtain ⟨p, hp, e⟩ := List.mem_map.mp hb
      have q' : some (HO.tbl #[]) = some u := (if_pos hb).symm.trans q
      exact ⟨p, hp, e.symm, (Option.some.inj q').symm⟩
    · have q' : (none : Option HO) = some u := (if_neg hb).symm.trans q
      cases q'
  cases hk : K.lookup a with
  | some o =>
    have e := KX a o hk
    rw [ha] at e
    cases e
    have tr : ∀ b u, tabs b = some u → Tr cs K a b u := fun b u q => by
      obtain ⟨p, hp, e1, e2⟩ := ofT b u q
      exact .table p hp e1 e2
    refine lawT_of KX G B BB NL g0 hT bm ha hr F bd tabs tr (fun b u q => ?_) isT (pr tabs isT (.inr ⟨_, vs.toArray, _, hk, rfl, rfl, rfl, ?_, by simpa using rv⟩) tr)
    · obtain ⟨p, hp, rfl, rfl⟩ := ofT b u q
      exact (hT p hp).1
    · rw [List.size_toArray, hi.length]
      exact hl
  | none =>
    let Ha : Hp := fun b => if b = a then some (.frz (scriptObj vs) (.lst (ns.map V.int))) else tabs b
    have at_a : Ha a = some (.frz (scriptObj vs) (.lst (ns.map V.int))) := if_pos rfl
    have but : ∀ b, b ≠ a → Ha b = tabs b := fun b hb => if_neg hb
    have tr : ∀ b u, Ha b = some u → Tr cs K a b u := by
      intro b u q
      by_cases hb : b = a
      · rw [hb, at_a] at q
        exact .script _ _ hb hk (Option.some.inj q).symm
      · rw [but b hb] at q
        obtain ⟨p, hp, e1, e2⟩ := ofT b u q
        exact .table p hp e1 e2
    have isH : ∀ p ∈ cs, Ha p.2 = some (.tbl #[]) := fun p hp => (but _ (na p hp)).trans (isT p hp)
    refine lawT_of KX G B BB NL g0 hT bm ha hr F bd Ha tr (fun b u q => ?_) isH (pr Ha isH (.inl (.inr ⟨scriptObj vs, at_a⟩)) tr)
    by_cases hb : b = a
    · subst hb
      rw [at_a] at q
      cases q
      exact ⟨ha, by rw [List.length_map]; exact hl, vs, _, rv, ha⟩
    · rw [but b hb] at q
      obtain ⟨p, hp, rfl, rfl⟩ := ofT b u q
      exact (hT p hp).1
end
open PySem.W in
/-- the goal that the head leaves; cs: the defs that make lambdas, each with its code object and its table -/
theorem walkT {l : OpenLaw} {n k : Nat} {q : Program} {loose : List Str} {XP : (Str → Option Value) → Heap → Prop} {YP : World → Heap → Prop} {d : DefRec} {K : Params → Frag} {sp : Frag → Sp} {x : Str} {cs : Params → List (Str × Addr × Addr)}
    (hn : l.most = some n) (hz : n ≤ sizeLine) (h0 : d.params.defaults = []) (hr : Room k callerA) (hY : ∀ (w : World) (h : Heap), YP w h → (K w.params).In h)
    (hc : ∀ p, ∀ e ∈ cs p, (∃ r, (recsOf q).find? (fun r => r.name == e.1) = some r) ∧ tabIn (K p) e.1 = some e.2 ∧ (K p).lookup e.2.2 = none)
    (F : ∀ (w : World) (mg : Str → Option Value) (fa : Addr) (h : Heap), (K w.params).In h → h.Ns mainGlobals mg → mg d.name = some (.ref fa) → ∃ fd : FuncData,
      (∀ (t : Shared) (u : Value), BindsTo t fd ⟨[u], []⟩ [(x, u)]) ∧ ∀ base : Heap, (K w.params).In base → base.Ns mainGlobals mg → (∀ e ∈ cs w.params, TabB base mg e.2.1 e.2.2) → FnG l.prog w (K w.params) mg base CX0 k fa fd [x] (sp (K w.params)))
    (pr : ∀ (p : Params) (H : Hp) (a : Addr) (ns : List Int), ns.length ≤ n → (∀ e ∈ cs p, H e.2.2 = some (.tbl #[])) → SqL (K p) H a (ns.map V.int) → (∀ b u, H b = some u → Tr ((cs p).map (·.2)) (K p) a b u) → sp (K p) [.ref a] H (fun v _ => v = .bl true) fun _ _ _ => False) :
    WalkO q loose XP YP l.row.toRowW d [] (fun f us => PySem.call f us) := by
  refine Att.attach_call hn h0 ?_
  intro w s₀ s₁ mg mb fa o pm cd doc a us ns G Y ho hd hcd hm hobj hints hlen hg
  have KX := hY w _ Y
  obtain ⟨fd, hb, hF⟩ := F w mg fa _ KX G.T.g hm
  have lift : ∀ {φ : Addr × Addr → Prop}, (∀ p ∈ (cs w.params).map (·.2), φ p) ↔ ∀ e ∈ cs w.params, φ e.2 := by
    intro φ
    constructor
    · intro h e he
      exact h _ (List.mem_map.mpr ⟨e, he, rfl⟩)
    · intro h p hp
      obtain ⟨e, he, rfl⟩ := List.mem_map.mp hp
      exact h e he
  refine lawT (cs := (cs w.params).map (·.2)) KX G.T.g G.T.b G.T.builtins G.T.nolimit hg (lift.mpr fun e he => ?_) G.T.bmain hobj hints (Nat.le_trans hlen hz) hr (fun base h1 h2 h3 => hF base h1 h2 (lift.mp h3)) hb fun H h1 h2 h3 => pr _ H a ns hlen (lift.mp h1) h2 h3
  obtain ⟨⟨r, e1⟩, e2, e3⟩ := hc w.params e he
  obtain ⟨t1, t2⟩ := tab_of G.T KX e1 e2
  exact ⟨t2, e3, t1⟩
end Kx
namespace Kx
open PySem PySem.Spec PyProof.Rows L2 SX LamX
section
variable {X : Cx}
/-! ### repr of data -/
def rRepr (K : PySem.W.Frag) : List V → Hp → VK → Prop := fun xs H Q => ∃ (a : Addr) (d : PyData), xs = [.ref a] ∧ Dp K H (.ref a) d ∧ d.showable = true ∧ d.hasDict = false ∧ d.depth ≤ 60 ∧ d.shown.length ≤ sizeLine ∧ Q (.str d.shown) H
theorem call_reprD (hg : X.A.guards = some []) (hu : X.A.units + 64 < cLine) : CallR X (.builtin "repr") (rRepr X.K) := by
  intro pins s σ H xs us Q I r h
  obtain ⟨a, d, rfl, hd, hs, hn, hp, hl, q⟩ := h
  cases r with
  | cons r0 rr =>
    cases rr
    obtain ⟨as, rd⟩ := Dp.reads I d _ _ hd r0
    cases r0
    refine repr_of_reads' rd hs (PyData.noDict_hsm hn) hg (by omega) (fun _ _ e => e) (fun h' u tk k => ?_) hl
    exact ⟨.str d.shown, H, I.kept k, ⟨u, rfl⟩, q⟩
/-! ### f(k = v, ..): keywords alone -/
theorem pe_callK0 {CX : CXT} {k : Nat} {f : Addr} {fd : FuncData} {ps ks : List Str} {sp : Sp} {E : XK} {x : Str} {p pos : Pos} {kws : List Keyword} {tk : TA} {g : List Value → List Value → List Value} {gV : List V → List V → List V}
    (F : FnOk X.prog X.w X.K X.mg X.base CX k f fd ps sp) (hr : Room k X.A) (hg : Gl X x) (hm : X.mg x = some (.ref f)) (hk : PySem.W.keepIn X.K (.ref f) = true) (hb : KBinds X.K fd ps ks g gV) (hx : Passes CX X E) (hkw : PK X kws tk)
    (hall : (backToKw pos (keywordEach kws X.env)).all (·.1.isSome) = true := by rfl) (hks : (backToKw pos (keywordEach kws X.env)).filterMap (·.1) = ks := by rfl) (hdb : (x == ("__debug__" : Str)) = false := by decide)
    (hpl : ((backTo pos (starEach [] X.env)).any (·.1) || (backToKw pos (keywordEach kws X.env)).any (·.1.isNone)) = false := by rfl) : PE X (.Call (.Name x p) [] kws pos) (tCallK sp gV E tNil tk) := by
  refine ⟨fun pins s σ H Q I h => ?_⟩
  apply wpAny_Call_Name_kw
  refine ld_glob I hg hm ?_ hdb
  refine PySem.W.callWith_KW0 (h₀ := X.base) I.ok.mod.kin hk hall (thn (hkw.run pos pins s σ H _ I h) fun ws s2 hh => ?_) hpl
  obtain ⟨zs, H2, I2, rz, q2⟩ := hh
  refine ⟨I2.kIn, ?_⟩
  rw [hks]
  exact run_fnk (us := []) F hr hb hx I2 .nil rz q2
/-! ### an exception that a name holds -/
/-- isinstance of it -/
def rIsX (K : PySem.W.Frag) : List V → Hp → VK → Prop := fun xs H Q => ∃ (a D dd : Addr) (fs : List (Str × V)) (c : V) (cv : Value) (b : Bool), xs = [.ref a, c] ∧ H a = some (exT a (.ref D) (some dd)) ∧ H dd = some (.xd fs) ∧ ExcC K D ∧
  (∀ u, RelV c u → u = cv) ∧ PySem.W.kitOne K (.ref D) cv = some b ∧ Q (.bl b) H
theorem exT_at {P : Program} {w : World} {H : Hp} {h : Heap} {a : Addr} {cls : Value} {d : Option Addr} (hok : HOk P w H h) (e : H a = some (exT a cls d)) : ∃ (oe : Obj) (vs : Array Value), h.get? a = some oe ∧ Zc cls d oe ∧ oe.data = .fields vs := by
  have q : ObjOk P w H h a (exT a cls d) := hok a _ e
  exact q.1
theorem inst_at {pins : List (Addr × Obj)} {σ : L2.St} {H : Hp} {s : Shared} {a D dd : Addr} {fs : List (Str × V)} (I : Inv X pins σ H s) (e : H a = some (exT a (.ref D) (some dd))) (ed : H dd = some (.xd fs)) :
    ∃ (oe od : Obj) (mA : Str → Option Value), PySem.W.InstAt s.heap a oe D (some od) ∧ (∀ n, PySem.W.lookIn n od = some (mA n)) ∧ ∀ n, RelO (fs.lookup n) (mA n) := by
  obtain ⟨oe, vs, h1, h2, h3⟩ := exT_at I.hok e
  have hx : ObjOk X.prog X.w H s.heap dd (.xd fs) := I.hok dd _ ed
  obtain ⟨mA, hns, hr⟩ := hx
  obtain ⟨od, ho, hl⟩ := lookIn_ns hns
  refine ⟨oe, od, mA, { at_ := h1, cls := h2.1, no := ?_, dict := ?_ }, hl, hr⟩
  · unfold PySem.W.notCls
    rw [h3] <;> rfl
  · rw [h2.2]
    exact ho
theorem call_isX : CallR X (.builtin "isinstance") (rIsX X.K) := by
  intro pins s σ H xs us Q I r h
  obtain ⟨a, D, dd, fs, c, cv, b, rfl, e, ed, C, hc, hk, q⟩ := h
  obtain ⟨u1, u2, rfl, r1, r2⟩ := vals2 r
  obtain rfl : u1 = Value.ref a := r1
  obtain rfl := hc _ r2
  obtain ⟨oe, od, mA, J, _, _⟩ := inst_at I e ed
  have cls : (PySem.W.clsIn X.K D).isSome = true := by
    obtain ⟨cd, hcd, _⟩ := PySem.W.any_some C.hd
    rw [hcd]
    rfl
  exact PySem.W.kia_one (PySem.W.kitx_exc cls C.hg C.hk C.hs C.ha C.hn C.ht C.hm) I.kIn J hk (fun z => nomatch z) fun tk => ⟨.bl b, H, I.kept (t' := tk) fun _ _ z => z, rfl, q⟩
def rIsiX (K : PySem.W.Frag) : List V → Hp → VK → Prop := fun xs H Q => rIsi K xs H Q ∨ rIsX K xs H Q
theorem call_isiX : CallR X (.builtin "isinstance") (rIsiX X.K) := fun pins s σ H xs us Q I r h => h.elim (call_isi pins s σ H xs us Q I r) (call_isX pins s σ H xs us Q I r)
/-- e.n, e's value such an exception -/
def tXp (K : PySem.W.Frag) (n : Str) (te : TE) : TE := fun σ H Q => te σ H fun x H1 => ∃ (a D dd : Addr) (fs : List (Str × V)) (v : V), x = .ref a ∧ H1 a = some (exT a (.ref D) (some dd)) ∧ H1 dd = some (.xd fs) ∧ XfC K D ∧ PySem.W.findIn K (.ref D) n = some none ∧ fs.lookup n = some v ∧ Q v H1
theorem pe_xp {e : Expr} {te : TE} {n : Str} {pos : Pos} (he : PE X e te) (hb : attributeBase e n X.env (eval e X.env) = eval e X.env := by rfl) : PE X (.Attribute e n pos) (tXp X.K n te) := by
  refine ⟨fun pins s σ H Q I h => ?_⟩
  refine attr_of hb (thn (he.run pins s σ H _ I h) fun u s1 hh => ?_)
  obtain ⟨x, H1, I1, rx, a, D, dd, fs, v, rfl, e1, e2, T, hno, hl, q⟩ := hh
  obtain rfl : u = Value.ref a := rx
  obtain ⟨oe, od, mA, J, look, rel⟩ := inst_at I1 e1 e2
  obtain ⟨w, hw, rw'⟩ := RelO.some_of (v := v) (o := mA n) (by rw [← hl]; exact rel n)
  exact HandSPX.exc_get I1.kIn J T.ga T.gg T.exC (PySem.W.findObj_own T.hdC hno rfl (by rw [look, hw])) (handed_of rw') ⟨v, H1, I1.tok _, rw', q⟩
end
end Kx
namespace Kx
open PySem PySem.Spec PyProof.Rows L2 SX LamX
/-! ### an error class of the program: one field, part -/
structure Er (K : PySem.W.Frag) (mg : Str → Option Value) (x qual : Str) (st : Stmt) (base : Str) where
  C : Addr
  L : Addr
  fI : Addr
  fd : FuncData
  gC : mg x = some (.ref C)
  gL : mg base = some (.ref L)
  oex : OexC K C
  iC : PySem.W.findIn K (.ref C) "__init__" = some (some (.ref fI))
  tI : PySem.W.typeIn K (.ref fI) = some (.type "function")
  F : Fun K "__init__" qual st fI fd
  b : Binds K fd ["self", "part"] []
  np : PySem.W.findIn K (.ref C) "part" = some none
  exc : ExcC K C
  xf : XfC K C
  em : PySem.W.exmOne K (.ref C) (.ref L) = some true
/-- its making, out of what the top left -/
def er_mk {K : PySem.W.Frag} {h : Heap} {mg : Str → Option Value} (X : K.In h) (G : h.Ns mainGlobals mg) {x qual : Str} {st : Stmt} {base : Str} {C L fI N : Addr} {nm q : Str} {bs bm : List Value} {sn : List Str} {sub : List Value} {ab : Bool} {col : Option Bool} {dd : Option Addr} {m0 m1 m2 m3 m5 : Option Value}
    {od an : Option Addr} {sl : Array (Option Value)} {oc kV dc pm cd ct : Value} (aC : PySem.W.nsIn K mainGlobals x = some (some (.ref C))) (aL : PySem.W.nsIn K mainGlobals base = some (some (.ref L)))
    (xL : K.lookup C = some (excClassObj nm q C N bs bm true sn sub ab col dd m0 m1 m2 m3 m5 "ValueError.__new__")) (hbm : PySem.HandSPX.refsVE bm = true)
    (sa : PySem.W.findIn K (.ref C) "__setattr__" = some (some (.builtin "object.__setattr__"))) (eC : PySem.W.subIn K (.ref C) (.type "BaseException") = some true) (tC : PySem.W.typeIn K (.ref C) = some (.type "type")) (kC : PySem.W.keepIn K (.ref C) = true)
    (a1 : PySem.W.findIn K (.ref C) "__init__" = some (some (.ref fI))) (t1 : PySem.W.typeIn K (.ref fI) = some (.type "function"))
    (l1 : K.lookup fI = some ⟨oc, od, .func (PySem.W.fnOf "__init__" qual (defArgs st) (defBody st) (defScope st) .none kV dc pm an cd ct), sl⟩) (c1 : PySem.W.codeIn K cd qual = true) (k1 : PySem.W.keepIn K (.ref fI) = true)
    (b1 : ∀ (kV doc pm : Value) (an : Option Addr) (cdv ct : Value) (us : List Value), us.length = (["self", "part"] : List Str).length → bindArgs (PySem.W.fnOf "__init__" qual (defArgs st) (defBody st) (defScope st) .none kV doc pm an cdv ct) ⟨us, []⟩ = pure ((["self", "part"] : List Str).zip us))
    (nb : PySem.W.findIn K (.ref C) "part" = some none) (ga : PySem.W.findIn K (.ref C) "__getattribute__" = some (some (.builtin "BaseException.__getattribute__"))) (gg : PySem.W.findIn K (.ref C) "__getattr__" = some none) (hd : PySem.W.hasDictIn K C = true)
    (hc : PySem.W.findIn K (.ref C) "__class__" = some (some (.builtin "object.__class__"))) (hn : PySem.W.specialIn K (.builtin "object.__class__") "__get__" = some (some (.builtin "getset_descriptor.__get__"))) (ht : PySem.W.takesIn K (.builtin "object.__class__") = some true)
    (hm : PySem.W.mroIn K C (.type "object") = some true) (eL : PySem.W.subIn K (.ref L) (.type "BaseException") = some true) (dL : PySem.W.hasDictIn K L = true) (tL : PySem.W.typeIn K (.ref L) = some (.type "type")) (sCL : PySem.W.subIn K (.ref C) (.ref L) = some true) : Er K mg x qual st base where
  C := C
  L := L
  fI := fI
  fd := _
  gC := PySem.W.mg_of X G aC
  gL := PySem.W.mg_of X G aL
  oex := ⟨⟨nm, q, N, bs, bm, sn, sub, ab, col, dd, m0, m1, m2, m3, m5, xL, hbm⟩, sa, eC, tC, kC⟩
  iC := a1
  tI := t1
  F := fun_mk (st := st) l1 c1 k1
  b := (fun_mk (st := st) l1 c1 k1).binds (ps := ["self", "part"]) b1
  np := nb
  exc := ⟨ga, gg, eC, hd, hc, hn, ht, hm⟩
  xf := ⟨ga, gg, eC, hd⟩
  em := PySem.W.exm_ref eL dL tL sCL
theorem passF {X : Cx} : Passes (L2.CX X.prog X.w) X (fun _ _ _ => False) := fun _ _ _ _ _ _ _ z => by
  obtain ⟨_, _, _, _, _, _, _, _, _, _, _, _, f⟩ := z
  exact f.elim
/-- the promise of such an __init__: self.part = part -/
def sp_init (K : PySem.W.Frag) : Sp := fun vs H Q _ => ∃ (a C : Addr) (y : V), vs = [.ref a, y] ∧ OexC K C ∧ PySem.W.findIn K (.ref C) "part" = some none ∧ H a = some (exo a C none) ∧
  ∀ dx, H dx = none → dx ≠ a → Q .non (upd (upd H dx (exd dx [("part", y)])) a (exo a C (some dx)))
section
variable {P : Program} {w : World} {K : PySem.W.Frag} {mg : Str → Option Value} {base : Heap}
/-- the body of such an __init__ -/
def IsInit (st : Stmt) : Prop := ∃ p1 p2 p3 p4, defBody st = [.Assign [.Attribute (.Name "self" p1) "part" p2] (.Name "part" p3) p4] ∧ FnScope ["self", "part"] ["self", "part"] (defScope st) ∧ (defScope st).names.lookup ("self" : Str) = some .local ∧ (defScope st).names.lookup ("part" : Str) = some .local
theorem ok_init {x qual : Str} {st : Stmt} {bs : Str} (e : Er K mg x qual st bs) (h : IsInit st) : FnOk P w K mg base CX0 1 e.fI e.fd ["self", "part"] (sp_init K) := by
  obtain ⟨p1, p2, p3, p4, hb, sc, v1, v2⟩ := h
  refine e.F.ok sc (fun vs H Q E h => ?_) (fun cdv A outer s H vs Q E hr h => ?_)
  · obtain ⟨a, C, y, rfl, _⟩ := h
    rfl
  · obtain ⟨a, C, y, rfl, o, n, ha, q⟩ := h
    rw [hb]
    refine ⟨_, pss_one (ps_ost (pv 0 rfl (.inl v1)) (pv 1 rfl (.inl v2))), ?_⟩
    exact ⟨y, rfl, .ref a, rfl, a, C, rfl, o, n, .inl ⟨ha, q⟩⟩
end
/-! ### a choice of rules -/
section
variable {X : Cx}
theorem pi_either {tg it : Expr} {w1 w2 : TI} (h1 : PI X tg it w1) (h2 : PI X tg it w2) : PI X tg it (fun σ H R => w1 σ H R ∨ w2 σ H R) := ⟨fun pins s σ H R I h => h.elim (h1.run pins s σ H R I) (h2.run pins s σ H R I)⟩
theorem pe_either {e : Expr} {t1 t2 : TE} (h1 : PE X e t1) (h2 : PE X e t2) : PE X e (fun σ H Q => t1 σ H Q ∨ t2 σ H Q) := ⟨fun pins s σ H Q I h => h.elim (h1.run pins s σ H Q I) (h2.run pins s σ H Q I)⟩
theorem pi_seq {tg it : Expr} {tl : TE} (h : PE X it tl) : PI X tg it (fun σ H R => iList X.K tl σ H R ∨ iTup X.K tl σ H R) := pi_either (pi_list h) (pi_tup h)
end
end Kx
namespace Kx
open PySem PySem.Spec PyProof.Rows L2 SX LamX
theorem tyx_same {K : PySem.W.Frag} {H H' : Hp} {x : V} {n : String} (e : Same H H') (h : TyX K H x (.type n)) : TyX K H' x (.type n) := by
  cases h with
  | base b =>
    cases b with
    | non => exact .base .non
    | bl y => exact .base (.bl y)
    | int i => exact .base (.int i)
    | str z => exact .base (.str z)
    | flt z => exact .base (.flt z)
    | lst h => exact .base (.lst (e _ _ h))
    | frz h => exact .base (.frz (e _ _ h))
    | tup h => exact .base (.tup (e _ _ h))
    | dK h => exact .base (.dK (e _ _ h))
    | dT h => exact .base (.dT (e _ _ h))
  | byt b => exact .byt b
  | set h => exact .set (e _ _ h)
  | kList h c => exact .kList h c
  | kTuple h c => exact .kTuple h c
  | kDict h c => exact .kDict h c
  | fTuple h => exact .fTuple (e _ _ h)
  | fDict h => exact .fDict (e _ _ h)
/-! ### integers with bounds, of any value -/
def isIntV : V → Bool
  | .int _ => true
  | _ => false
/-- what the checks ask of a value's type -/
def HasInt (K : PySem.W.Frag) (H : Hp) (x : V) : Prop := ∃ (n : String) (a b : Bool), TyX K H x (.type n) ∧ kitB n "int" = some a ∧ kitB n "bool" = some b ∧ (a && !b) = isIntV x
theorem HasInt.same {K : PySem.W.Frag} {H H' : Hp} {x : V} (e : Same H H') (h : HasInt K H x) : HasInt K H' x := by
  obtain ⟨n, a, b, t, r⟩ := h
  exact ⟨n, a, b, tyx_same e t, r⟩
theorem hasInt_int {K : PySem.W.Frag} {H : Hp} (i : Int) : HasInt K H (.int i) := ⟨"int", true, false, .base (.int i), by decide +kernel, by decide +kernel, rfl⟩
theorem hasInt_bl {K : PySem.W.Frag} {H : Hp} (i : Bool) : HasInt K H (.bl i) := ⟨"bool", true, true, .base (.bl i), by decide +kernel, by decide +kernel, rfl⟩
theorem hasInt_str {K : PySem.W.Frag} {H : Hp} (i : Str) : HasInt K H (.str i) := ⟨"str", false, false, .base (.str i), by decide +kernel, by decide +kernel, rfl⟩
theorem hasInt_non {K : PySem.W.Frag} {H : Hp} : HasInt K H .non := ⟨"NoneType", false, false, .base .non, by decide +kernel, by decide +kernel, rfl⟩
theorem hasInt_lst {K : PySem.W.Frag} {H : Hp} {a : Addr} {xs : List V} (h : SqL K H a xs) : HasInt K H (.ref a) := ⟨"list", false, false, tyL h, by decide +kernel, by decide +kernel, rfl⟩
theorem hasInt_tup {K : PySem.W.Frag} {H : Hp} {a : Addr} {xs : List V} (h : SqT K H a xs) : HasInt K H (.ref a) := ⟨"tuple", false, false, tyT h, by decide +kernel, by decide +kernel, rfl⟩
/-- a bound: none, or an int -/
def bdV : Option Int → V
  | none => .non
  | some i => .int i
def loB (i : Int) : Option Int → Bool
  | none => true
  | some l => decide (l ≤ i)
def hiB (i : Int) : Option Int → Bool
  | none => true
  | some h => decide (i ≤ h)
def withinB (i : Int) (lo hi : Option Int) : Bool := loB i lo && hiB i hi
def withinV (x : V) (lo hi : Option Int) : Bool := match x with
  | .int i => withinB i lo hi
  | _ => false
end Kx
namespace Kx
open PySem PySem.Spec PyProof.Rows L2 SX LamX
/-! ### the draws' wheel: cells, how many were begun, what is left -/
def Wh (H : Hp) (a c : Addr) (n : Nat) : Prop := ∃ (cs : List Int) (t l : Int), H a = some (.lst [.ref c, .int t, .int l]) ∧ H c = some (.lst (cs.map V.int)) ∧ cs.length ≤ 60 ∧ 0 ≤ t ∧ t ≤ n
/-- all that was tracked, but for what stands at a, is as it was -/
def Mv (a : Addr) (H H' : Hp) : Prop := ∀ b o, b ≠ a → H b = some o → H' b = some o
theorem Mv.refl (a : Addr) (H : Hp) : Mv a H H := fun _ _ _ h => h
theorem Mv.trans {a : Addr} {H H1 H2 : Hp} (x : Mv a H H1) (y : Mv a H1 H2) : Mv a H H2 := fun b o n h => y b o n (x b o n h)
theorem Mv.of {a : Addr} {H H1 : Hp} (x : Same H H1) : Mv a H H1 := fun b o _ h => x b o h
theorem Mv.upd (a : Addr) (H : Hp) (o : HO) : Mv a H (upd H a o) := fun b p n h => by rw [upd_ne n]; exact h
theorem Mv.same {a : Addr} {H H1 : Hp} (x : Mv a H H1) (h : H a = none) : Same H H1 := fun b o e => x b o (fun z => by rw [z, h] at e; cases e) e
theorem Wh.lt {H : Hp} {a c : Addr} {n m : Nat} (h : Wh H a c n) (l : n ≤ m) : Wh H a c m := by
  obtain ⟨cs, t, l', h1, h2, h3, h4, h5⟩ := h
  exact ⟨cs, t, l', h1, h2, h3, h4, by omega⟩
theorem Wh.same {H H' : Hp} {a c : Addr} {n : Nat} (h : Wh H a c n) (e : Same H H') : Wh H' a c n := by
  obtain ⟨cs, t, l', h1, h2, h3⟩ := h
  exact ⟨cs, t, l', e _ _ h1, e _ _ h2, h3⟩
theorem wh_set {H : Hp} {a c : Addr} {cs : List Int} {t l : Int} {n : Nat} {u : List V} (h1 : H a = some (.lst u)) (h2 : H c = some (.lst (cs.map V.int))) (hac : a ≠ c) (h3 : cs.length ≤ 60) (h4 : 0 ≤ t) (h5 : t ≤ n) : Wh (upd H a (.lst [.ref c, .int t, .int l])) a c n :=
  ⟨cs, t, l, upd_same, by rw [upd_ne (fun e => hac e.symm)]; exact h2, h3, h4, h5⟩
theorem wh_ac {H : Hp} {a c : Addr} {cs : List Int} {t l : Int} (h1 : H a = some (.lst [.ref c, .int t, .int l])) (h2 : H c = some (.lst (cs.map V.int))) : a ≠ c := by
  intro e
  rw [← e, h1] at h2
  injection h2 with h2
  injection h2 with h2
  cases cs with
  | nil => cases h2
  | cons x xs => injection h2 with h2 _; cases h2
/-! ### data: lists that are laid, compared -/
theorem canLayAll_of : ∀ (ds : List PyData), (∀ d ∈ ds, d.canLay0 = true) → PyData.canLayAll0 ds = true
  | [], _ => rfl
  | d :: ds, h => by
    have h1 := h d (List.mem_cons_self ..)
    have h2 := canLayAll_of ds fun e m => h e (List.mem_cons_of_mem _ m)
    show (d.canLay0 && PyData.canLayAll0 ds) = true
    rw [h1, h2]
    rfl
theorem depthAll_of {k : Nat} : ∀ (ds : List PyData), (∀ d ∈ ds, d.depth ≤ k) → PyData.depthAll ds ≤ k
  | [], _ => Nat.zero_le _
  | d :: ds, h => by
    have h1 := h d (List.mem_cons_self ..)
    have h2 := depthAll_of ds fun e m => h e (List.mem_cons_of_mem _ m)
    show max d.depth (PyData.depthAll ds) ≤ k
    omega
/-- plain data of a depth -/
def Pl (k : Nat) (d : PyData) : Prop := d.canLay0 = true ∧ d.depth ≤ k
theorem Pl.lst {k : Nat} {ds : List PyData} (h : ∀ d ∈ ds, Pl k d) : Pl (k + 1) (.list ds) :=
  ⟨canLayAll_of ds fun d m => (h d m).1, Nat.succ_le_succ (depthAll_of ds fun d m => (h d m).2)⟩
theorem Pl.tup {k : Nat} {ds : List PyData} (h : ∀ d ∈ ds, Pl k d) : Pl (k + 1) (.tuple ds) :=
  ⟨canLayAll_of ds fun d m => (h d m).1, Nat.succ_le_succ (depthAll_of ds fun d m => (h d m).2)⟩
theorem Pl.shaped {k : Nat} {d : PyData} (h : Pl k d) (hk : k ≤ 64) : SeqAt.shaped d = true := by
  show (d.canLay0 && decide (d.depth ≤ 64)) = true
  rw [h.1, decide_eq_true (Nat.le_trans h.2 hk)]
  rfl
theorem pl_int (k : Nat) (i : Int) : Pl k (.int i) := ⟨rfl, Nat.zero_le _⟩
theorem pl_ints (xs : List Int) : Pl 1 (.list (xs.map PyData.int)) := Pl.lst fun d m => by
  obtain ⟨i, _, rfl⟩ := List.mem_map.mp m
  exact pl_int 0 i
theorem dpAll_map {K : PySem.W.Frag} {H : Hp} {α : Type} {f : α → V} {g : α → PyData} : ∀ (xs : List α), (∀ x ∈ xs, Dp K H (f x) (g x)) → DpAll K H (xs.map f) (xs.map g)
  | [], _ => .nil
  | x :: xs, h => .cons (h x (List.mem_cons_self ..)) (dpAll_map xs fun y m => h y (List.mem_cons_of_mem _ m))
theorem dp_ints {K : PySem.W.Frag} {H : Hp} {a : Addr} {xs : List Int} (h : SqL K H a (xs.map V.int)) : Dp K H (.ref a) (.list (xs.map PyData.int)) := .lst h (dpAll_map xs fun x _ => .int x)
theorem eqvAll_map {α : Type} [DecidableEq α] {g : α → PyData} (hg : ∀ x y, PyData.eqv (g x) (g y) = decide (x = y)) : ∀ (xs ys : List α), PyData.eqvAll (xs.map g) (ys.map g) = decide (xs = ys)
  | [], [] => rfl
  | [], _ :: _ => rfl
  | _ :: _, [] => rfl
  | x :: xs, y :: ys => by
    show (PyData.eqv (g x) (g y) && PyData.eqvAll (xs.map g) (ys.map g)) = _
    rw [hg, eqvAll_map hg xs ys]
    by_cases e : x = y
    · by_cases e2 : xs = ys
      · subst e e2; simp
      · simp [e, e2]
    · simp [e]
theorem eqv_int (x y : Int) : PyData.eqv (.int x) (.int y) = decide (x = y) := by
  show (x == y) = _
  by_cases e : x = y <;> simp [e]
theorem eqv_ints (xs ys : List Int) : PyData.eqv (.list (xs.map PyData.int)) (.list (ys.map PyData.int)) = decide (xs = ys) := eqvAll_map eqv_int xs ys
/-- «xs != []» -/
theorem ne_nil {K : PySem.W.Frag} {H : Hp} {a p : Addr} {xs : List Int} {Q : VK} (h1 : SqL K H a (xs.map V.int)) (h2 : H p = some (.lst [])) (q : Q (.bl (!decide (xs = []))) H) : rNeD K (.ref a) (.ref p) H Q :=
  ⟨_, _, dp_ints h1, dp_ints (xs := []) (.inl (.inl h2)), (pl_ints xs).shaped (by decide), (pl_ints []).shaped (by decide), by rw [eqv_ints]; exact q⟩
/-! ### places -/
theorem at_nat {α : Type} {xs : List α} {i : Nat} (h : i < xs.length) : atI xs (i : Int) = some xs[i] := by
  unfold atI ixN
  rw [if_pos (by omega), if_pos (by omega)]
  show xs[(i : Int).toNat]? = _
  rw [Int.toNat_natCast, List.getElem?_eq_getElem h]
theorem at_lt {α : Type} {xs : List α} {i : Int} (h0 : 0 ≤ i) (h : i < xs.length) : ∃ v, v ∈ xs ∧ atI xs i = some v := by
  obtain ⟨k, rfl⟩ : ∃ k : Nat, i = k := ⟨i.toNat, by omega⟩
  exact ⟨_, List.getElem_mem (by omega), at_nat (by omega)⟩
theorem at_last {α : Type} {xs : List α} {x : α} : atI (xs ++ [x]) (-1) = some x := by
  unfold atI ixN
  rw [if_neg (by omega), if_pos (by simp; omega)]
  show (xs ++ [x])[_]? = _
  rw [show (-1 + ((xs ++ [x]).length : Int)).toNat = xs.length by simp; omega]
  simp
/-- one way on from two branches, for all values that they leave -/
theorem cutI {c : Bool} {A B : Prop} {R : Int → Prop} (y : Int) (h2 : c = false → R y → B) (h1 : (∀ z, R z) → c = true → A) (key : ∀ z, R z) : if c = true then A else B := iteC (h1 key) fun e => h2 e (key y)
theorem genI {P : V → Prop} {x : Int} (h : ∀ z : Int, P (.int z)) : P (.int x) := h x
theorem genIB {P : V → Prop} {x M : Int} (hM : 0 < M) (h : ∀ z : Int, 0 ≤ z → z < M → P (.int z)) : P (.int (x.fmod M)) := h _ (Int.fmod_nonneg_of_pos _ hM) (Int.fmod_lt_of_pos _ hM)
theorem cutP {c : Bool} {X Y B : Prop} (h2 : c = false → B → Y) (h1 : B → c = true → X) (b : B) : if c = true then X else Y := iteC (h1 b) fun e => h2 e b
theorem mul_bnd {a b A B : Int} (a0 : 0 ≤ a) (a1 : a ≤ A) (b0 : 0 ≤ b) (b1 : b ≤ B) : 0 ≤ a * b ∧ a * b ≤ A * B :=
  ⟨Int.mul_nonneg a0 b0, Int.mul_le_mul a1 b1 b0 (Int.le_trans a0 a1)⟩
theorem bnd5 {c M k t l : Int} (hM : 0 < M) (hM2 : M ≤ 1099511627776) (t0 : 0 ≤ t) (t1 : t ≤ 1000000) (k0 : 0 ≤ k) (k1 : k ≤ 8388608) (l0 : 0 ≤ l) (l1 : l ≤ 1099511627776) : (c.fmod M + k * t + l).natAbs < 2 ^ 64 := by
  have h1 := Int.fmod_nonneg_of_pos c hM
  have h2 := Int.fmod_lt_of_pos c hM
  obtain ⟨h3, h4⟩ := mul_bnd k0 k1 t0 t1
  omega
theorem bnd3 {m t a k l : Int} (m0 : 0 ≤ m) (m1 : m ≤ 4294967296) (t0 : 0 ≤ t) (t1 : t ≤ 1000000) (a0 : 0 ≤ a) (a1 : a ≤ 8388608) (k0 : 0 ≤ k) (k1 : k ≤ 8388608) (l0 : 0 ≤ l) (l1 : l ≤ 1099511627776) : (m * (2 * t + a) + k * t * t + l).natAbs < 2 ^ 64 := by
  obtain ⟨h1, h2⟩ := mul_bnd (b := 2 * t + a) (B := 10388608) m0 m1 (by omega) (by omega)
  obtain ⟨h3, h4⟩ := mul_bnd k0 k1 t0 t1
  obtain ⟨h5, h6⟩ := mul_bnd h3 h4 t0 t1
  omega
/-! ### slices -/
theorem cut_to (xs : List V) (k : Nat) : cutV xs none (some (k : Int)) = xs.take k := by
  unfold cutV
  rw [HT.sIx_none, HT.sIx_nat, List.drop_zero, Nat.sub_zero]
  by_cases h : k ≤ xs.length
  · rw [Nat.min_eq_left h]
  · rw [Nat.min_eq_right (by omega), List.take_of_length_le (Nat.le_refl _), List.take_of_length_le (by omega)]
theorem cut_from (xs : List V) (k : Nat) : cutV xs (some (k : Int)) none = xs.drop k := by
  unfold cutV
  rw [HT.sIx_none, HT.sIx_nat]
  by_cases h : k ≤ xs.length
  · rw [Nat.min_eq_left h, List.take_of_length_le (by rw [List.length_drop]; omega)]
  · rw [Nat.min_eq_right (by omega), Nat.sub_self, List.take_zero, List.drop_eq_nil_of_le (by omega)]
/-! ### comprehensions, item by item -/
section
variable {K : PySem.W.Frag} {a : Addr} {xs : List V} {g : TG} {tt : TT} {te : TE} {vs : List Nat} {σ : L2.St} {H1 : Hp} {D : Addr} {Qd : Hp → Prop}
theorem lc_mapL (f : V → V) (hq : SqL K H1 a xs) (nD : H1 D = none) (len : xs.length ≤ 100000)
    (turn : ∀ (i : Nat) (x : V) (Hc : Hp) (Q' : VK) (R' : Hp → Prop), xs[i]? = some x → Same H1 Hc → (∀ H4, Same Hc H4 → Q' (f x) H4) → g x (wipe σ vs) Hc fun σ2 H2 => wipe σ2 vs = wipe σ vs ∧ tt σ2 H2 fun b H3 => if b = true then te σ2 H3 Q' else R' H3)
    (fin : ∀ Hc, Same H1 Hc → Hc D = some (.lst (xs.map f)) → Qd Hc) :
    ∃ W : Nat → Nat → Hp → Prop, (∃ m, W 0 m (upd H1 D (.lst []))) ∧ ∀ i m H, W i m H →
      ((Itl K a).stop i H ∧ Qd H) ∨ ((Itl K a).go i H ∧ ∃ Nx : Hp → Prop, (∀ H', Nx H' → ∃ m', m' < m ∧ W (i + 1) m' H') ∧ ∀ x H', (Itl K a).yld i H x H' → g x (wipe σ vs) H' fun σ2 H2 => wipe σ2 vs = wipe σ vs ∧ tt σ2 H2 fun b H3 =>
        if b = true then te σ2 H3 fun y H4 => ∃ acc, H4 D = some (.lst acc) ∧ acc.length < sizeLine ∧ Nx (upd H4 D (.lst (acc ++ [y]))) else Nx H3) := by
  refine lc_list (fun i Hc => Same H1 Hc ∧ Hc D = some (.lst ((xs.take i).map f))) ⟨same_new nD, upd_same⟩ (fun i H _ p => p.1.seq hq) (fun i x Hc hx p => ?_) (fun Hc p => ?_)
  · refine turn i x Hc _ _ hx p.1 (fun H4 e4 => ⟨_, e4 _ _ p.2, ?_, ?_⟩)
    · rw [List.length_map, List.length_take]
      exact Nat.lt_of_le_of_lt (Nat.min_le_right _ _) (Nat.lt_of_le_of_lt len (by decide))
    · refine ⟨fun b o z => ?_, ?_⟩
      · rw [upd_ne (ne_of_none z nD)]
        exact e4 _ _ (p.1 b o z)
      · rw [upd_same, List.take_add_one, hx, List.map_append]
        rfl
  · rw [List.take_length] at p
    exact fin Hc p.1 p.2
theorem lc_mapT (f : V → V) (hq : SqT K H1 a xs) (nD : H1 D = none) (len : xs.length ≤ 100000)
    (turn : ∀ (i : Nat) (x : V) (Hc : Hp) (Q' : VK) (R' : Hp → Prop), xs[i]? = some x → Same H1 Hc → (∀ H4, Same Hc H4 → Q' (f x) H4) → g x (wipe σ vs) Hc fun σ2 H2 => wipe σ2 vs = wipe σ vs ∧ tt σ2 H2 fun b H3 => if b = true then te σ2 H3 Q' else R' H3)
    (fin : ∀ Hc, Same H1 Hc → Hc D = some (.lst (xs.map f)) → Qd Hc) :
    ∃ W : Nat → Nat → Hp → Prop, (∃ m, W 0 m (upd H1 D (.lst []))) ∧ ∀ i m H, W i m H →
      ((Itt K a).stop i H ∧ Qd H) ∨ ((Itt K a).go i H ∧ ∃ Nx : Hp → Prop, (∀ H', Nx H' → ∃ m', m' < m ∧ W (i + 1) m' H') ∧ ∀ x H', (Itt K a).yld i H x H' → g x (wipe σ vs) H' fun σ2 H2 => wipe σ2 vs = wipe σ vs ∧ tt σ2 H2 fun b H3 =>
        if b = true then te σ2 H3 fun y H4 => ∃ acc, H4 D = some (.lst acc) ∧ acc.length < sizeLine ∧ Nx (upd H4 D (.lst (acc ++ [y]))) else Nx H3) := by
  refine lc_tup (fun i Hc => Same H1 Hc ∧ Hc D = some (.lst ((xs.take i).map f))) ⟨same_new nD, upd_same⟩ (fun i H _ p => Same.t p.1 hq) (fun i x Hc hx p => ?_) (fun Hc p => ?_)
  · refine turn i x Hc _ _ hx p.1 (fun H4 e4 => ⟨_, e4 _ _ p.2, ?_, ?_⟩)
    · rw [List.length_map, List.length_take]
      exact Nat.lt_of_le_of_lt (Nat.min_le_right _ _) (Nat.lt_of_le_of_lt len (by decide))
    · refine ⟨fun b o z => ?_, ?_⟩
      · rw [upd_ne (ne_of_none z nD)]
        exact e4 _ _ (p.1 b o z)
      · rw [upd_same, List.take_add_one, hx, List.map_append]
        rfl
  · rw [List.take_length] at p
    exact fin Hc p.1 p.2
end
end Kx
namespace Kx
open PySem PySem.Spec PyProof.Rows L2 SX LamX
theorem paired_get {α β : Type} {F : α → β → Prop} : ∀ {l : List α} {m : List β}, Paired F l m → ∀ {i : Nat} {a : α}, l[i]? = some a → ∃ b, m[i]? = some b ∧ F a b
  | _, _, .cons h t, 0, a, e => by
    simp at e
    subst e
    exact ⟨_, rfl, h⟩
  | _, _, .cons h t, i + 1, a, e => paired_get t (i := i) (by simpa using e)
theorem paired_split {α β : Type} {F : α → β → Prop} : ∀ {l : List α} (m : List β) {b : β}, Paired F l (m ++ [b]) → ∃ l' a, l = l' ++ [a] ∧ Paired F l' m ∧ F a b
  | _, [], _, .cons h .nil => ⟨[], _, rfl, .nil, h⟩
  | _, _ :: m, b, .cons h t => by
    obtain ⟨l', a, rfl, p, f⟩ := paired_split m t
    exact ⟨_ :: l', a, rfl, .cons h p, f⟩
theorem paired_nil {α β : Type} {F : α → β → Prop} {l : List α} (h : Paired F l []) : l = [] := by
  cases h
  rfl
theorem nil_or_snoc {α : Type} (l : List α) : l = [] ∨ ∃ l' a, l = l' ++ [a] := by
  rcases List.eq_nil_or_concat l with h | ⟨l', a, h⟩
  · exact .inl h
  · exact .inr ⟨l', a, by rw [h, List.concat_eq_append]⟩
theorem paired_map {α β γ : Type} {F : α → γ → Prop} {G : α → β → Prop} (f : β → γ) (h : ∀ a b, G a b → F a (f b)) : ∀ {l : List α} {m : List β}, Paired G l m → Paired F l (m.map f)
  | _, _, .nil => .nil
  | _, _, .cons x t => .cons (h _ _ x) (paired_map f h t)
theorem paired_of_map {α β γ : Type} {F : α → γ → Prop} (f : β → α) (g : β → γ) : ∀ {m : List β}, (∀ b ∈ m, F (f b) (g b)) → Paired F (m.map f) (m.map g)
  | [], _ => .nil
  | b :: m, h => .cons (h b (List.mem_cons_self ..)) (paired_of_map f g fun c hc => h c (List.mem_cons_of_mem _ hc))
theorem dpAll_of {K : PySem.W.Frag} {H : Hp} : ∀ {vs : List V} {ds : List PyData}, Paired (fun v d => Dp K H v d) vs ds → DpAll K H vs ds
  | _, _, .nil => .nil
  | _, _, .cons h t => .cons h (dpAll_of t)
/-- «xs != []», any laid items -/
theorem ne_nilD {K : PySem.W.Frag} {H : Hp} {a p : Addr} {vs : List V} {ds : List PyData} {k : Nat} {Q : VK} (h1 : SqL K H a vs) (hd : Paired (fun v d => Dp K H v d) vs ds) (hp : ∀ d ∈ ds, Pl k d) (hk : k ≤ 60) (h2 : H p = some (.lst [])) (q : Q (.bl (!decide (ds = []))) H) : rNeD K (.ref a) (.ref p) H Q :=
  ⟨_, _, .lst h1 (dpAll_of hd), dp_ints (xs := []) (.inl (.inl h2)), (Pl.lst hp).shaped (by omega), (pl_ints []).shaped (by decide), by
    have e : PyData.eqv (.list ds) (.list (([] : List Int).map PyData.int)) = decide (ds = []) := by
      cases ds with
      | nil => rfl
      | cons d t => rfl
    rw [e]
    exact q⟩
/-- a pair of ints -/
def Pr2 (H : Hp) (v : V) (r : Int × Int) : Prop := ∃ t, v = V.ref t ∧ H t = some (.tup [.int r.1, .int r.2])
theorem Pr2.same {H H' : Hp} {v : V} {r : Int × Int} (e : Same H H') (h : Pr2 H v r) : Pr2 H' v r := by
  obtain ⟨t, rfl, h⟩ := h
  exact ⟨t, rfl, e _ _ h⟩
def pr2D (r : Int × Int) : PyData := .tuple [.int r.1, .int r.2]
theorem Pr2.dp {K : PySem.W.Frag} {H : Hp} {v : V} {r : Int × Int} (h : Pr2 H v r) : Dp K H v (pr2D r) := by
  obtain ⟨t, rfl, h⟩ := h
  exact .tup (.inl (.inl h)) (.cons (.int _) (.cons (.int _) .nil))
theorem pl_pr2 (r : Int × Int) : Pl 1 (pr2D r) := Pl.tup fun d m => by
  rcases List.mem_cons.mp m with rfl | m
  · exact pl_int 0 _
  · rcases List.mem_cons.mp m with rfl | m
    · exact pl_int 0 _
    · cases m
/-! ### stretches of like numbers -/
def stepR (rs : List (Int × Int)) (n : Int) : List (Int × Int) :=
  match rs.reverse with
  | [] => [(n, 1)]
  | (m, k) :: t => if m = n then t.reverse ++ [(n, k + 1)] else rs ++ [(n, 1)]
theorem stepR_nil (n : Int) : stepR [] n = [(n, 1)] := rfl
theorem stepR_snoc (rs : List (Int × Int)) (m k n : Int) : stepR (rs ++ [(m, k)]) n = if m = n then rs ++ [(n, k + 1)] else rs ++ [(m, k)] ++ [(n, 1)] := by
  unfold stepR
  simp
def runs (row : List Int) : List (Int × Int) := row.foldl stepR []
theorem runs_snoc (row : List Int) (n : Int) : runs (row ++ [n]) = stepR (runs row) n := by
  unfold runs
  rw [List.foldl_append]
  rfl
theorem stepR_length (rs : List (Int × Int)) (n : Int) : (stepR rs n).length ≤ rs.length + 1 := by
  rcases nil_or_snoc rs with rfl | ⟨rs', ⟨m, k⟩, rfl⟩
  · simp [stepR_nil]
  · rw [stepR_snoc]
    split <;> simp
theorem fold_length : ∀ (row : List Int) (rs : List (Int × Int)), (row.foldl stepR rs).length ≤ rs.length + row.length
  | [], _ => Nat.le_refl _
  | x :: row, rs => by
    have h1 := fold_length row (stepR rs x)
    have h2 := stepR_length rs x
    show (row.foldl stepR (stepR rs x)).length ≤ rs.length + (row.length + 1)
    omega
theorem runs_length (row : List Int) : (runs row).length ≤ row.length := by
  have h := fold_length row []
  rw [List.length_nil, Nat.zero_add] at h
  exact h
/-! ### for and comprehension over a list or a tuple, held by a name -/
section
variable {K : PySem.W.Frag} {a : Addr} {xs : List V} {g : TG} {σ : L2.St} {H : Hp} {k : Nat}
theorem for_seq {tb : TS} {D : Ends} {H0 : Hp} (hi : σ[k]? = some (some (.ref a))) (hq : SqQ K H0 a xs) (e0 : Same H0 H) (Pv : Nat → L2.St → Hp → Prop) (h0 : Pv 0 σ H) (stay : ∀ i σ' H', i ≤ xs.length → Pv i σ' H' → Same H0 H')
    (hs : ∀ i x σ H, xs[i]? = some x → Pv i σ H → g x σ H fun σ2 H2 => tb { D with nx := Pv (i + 1), ct := Pv (i + 1), bk := D.nx } σ2 H2) (hd : ∀ σ H, Pv xs.length σ H → D.nx σ H) :
    tFor (fun σ H R => iList K (tVar k) σ H R ∨ iTup K (tVar k) σ H R) g tb D σ H := by
  rcases hq with h | h
  · exact .inl ⟨_, hi, a, rfl, ⟨_, e0.seq h⟩, for_list Pv h0 (fun i σ' H' l p => (stay i σ' H' l p).seq h) hs hd⟩
  · exact .inr ⟨_, hi, a, rfl, ⟨_, Same.t e0 h⟩, for_tup Pv h0 (fun i σ' H' l p => Same.t (stay i σ' H' l p) h) hs hd⟩
theorem lc_seqmap {tt : TT} {te : TE} {vs : List Nat} {Q : VK} (f : V → V) (hi : σ[k]? = some (some (.ref a))) (hq : SqQ K H a xs) (len : xs.length ≤ 100000)
    (turn : ∀ (i : Nat) (x : V) (Hc : Hp) (Q' : VK) (R' : Hp → Prop), xs[i]? = some x → Same H Hc → (∀ H4, Same Hc H4 → Q' (f x) H4) → g x (wipe σ vs) Hc fun σ2 H2 => wipe σ2 vs = wipe σ vs ∧ tt σ2 H2 fun b H3 => if b = true then te σ2 H3 Q' else R' H3)
    (fin : ∀ (D : Addr) (Hc : Hp), Same H Hc → Hc D = some (.lst (xs.map f)) → Q (.ref D) Hc) :
    tLc (fun σ H R => iList K (tVar k) σ H R ∨ iTup K (tVar k) σ H R) g tt te vs σ H Q := by
  rcases hq with h | h
  · exact .inl ⟨_, hi, a, rfl, ⟨_, h⟩, fun D nD => lc_mapL f h nD len turn (fin D)⟩
  · exact .inr ⟨_, hi, a, rfl, ⟨_, h⟩, fun D nD => lc_mapT f h nD len turn (fin D)⟩
theorem lc_lstmap {tt : TT} {te : TE} {vs : List Nat} {Q : VK} (f : V → V) (hi : σ[k]? = some (some (.ref a))) (hq : SqL K H a xs) (len : xs.length ≤ 100000)
    (turn : ∀ (i : Nat) (x : V) (Hc : Hp) (Q' : VK) (R' : Hp → Prop), xs[i]? = some x → Same H Hc → (∀ H4, Same Hc H4 → Q' (f x) H4) → g x (wipe σ vs) Hc fun σ2 H2 => wipe σ2 vs = wipe σ vs ∧ tt σ2 H2 fun b H3 => if b = true then te σ2 H3 Q' else R' H3)
    (fin : ∀ (D : Addr) (Hc : Hp), Same H Hc → Hc D = some (.lst (xs.map f)) → Q (.ref D) Hc) :
    tLc (iList K (tVar k)) g tt te vs σ H Q := ⟨_, hi, a, rfl, ⟨_, hq⟩, fun D nD => lc_mapL f hq nD len turn (fin D)⟩
end
theorem Pr2.set {H : Hp} {p : Addr} {us : List V} {v : V} {r : Int × Int} {o : HO} (hp : H p = some (.lst us)) (h : Pr2 H v r) : Pr2 (upd H p o) v r := by
  obtain ⟨t, rfl, h⟩ := h
  refine ⟨t, rfl, ?_⟩
  rw [upd_ne (fun e => by rw [e, hp] at h; cases h)]
  exact h
theorem same_set {H Hd : Hp} {p : Addr} {o : HO} (e : Same H Hd) (np : H p = none) : Same H (upd Hd p o) := fun b u h => by
  rw [upd_ne (ne_of_none h np)]
  exact e b u h
theorem Pr2.new {H : Hp} {t : Addr} {x y : Int} : Pr2 (upd H t (.tup [.int x, .int y])) (.ref t) (x, y) := ⟨t, rfl, upd_same⟩
theorem sz1 {x : V} : [x].length ≤ sizeLine := by
  show 1 ≤ sizeLine
  decide
theorem sz2 {x y : V} : [x, y].length ≤ sizeLine := by
  show 2 ≤ sizeLine
  decide
theorem sz3 {x y z : V} : [x, y, z].length ≤ sizeLine := by
  show 3 ≤ sizeLine
  decide
theorem sz4 {x y z u : V} : [x, y, z, u].length ≤ sizeLine := by
  show 4 ≤ sizeLine
  decide
theorem ix_last {n : Nat} : ixN (n + 1) (-1) = some n := by
  unfold ixN
  rw [if_neg (by omega), if_pos (by omega)]
  congr 1
  omega
/-- xs[-1] = y, what is set -/
theorem set_last {H : Hp} {p : Addr} {xs : List V} {x y : V} {Q : Hp → Prop} (hp : H p = some (.lst (xs ++ [x]))) (q : Q (upd H p (.lst (xs ++ [y])))) : rSetL (.ref p) (.int (-1)) y H Q :=
  ⟨p, _, -1, xs.length, rfl, rfl, hp, by rw [List.length_append]; exact ix_last, by rw [show (xs ++ [x]).set xs.length y = xs ++ [y] by simp]; exact q⟩
end Kx
namespace Kx
open PySem PySem.Spec PyProof.Rows L2 SX LamX
/-! ### rules that name the frame, within a comprehension -/
section
variable {X : Cx} {K : PySem.W.Frag}
theorem inK_ix_list (e : X.K = K) : IxR X (rIxL K) := e ▸ ix_list
theorem inK_ix_tup (e : X.K = K) : IxR X (rIxT K) := e ▸ ix_tup
theorem inK_call_len_seq (e : X.K = K) : CallR X (.builtin "len") (fun xs H Q => ∃ p ys, xs = [.ref p] ∧ (SqL K H p ys ∨ SqT K H p ys) ∧ Q (.int ys.length) H) := e ▸ call_len_seq
theorem inK_sl_list (e : X.K = K) : SlR X (rSlL K) := e ▸ sl_list
theorem inK_op_eqD (e : X.K = K) (hu : X.A.units + 64 < cLine) : OpR X (compareOp .Eq) (rEqD K) := e ▸ op_eqD hu
theorem inK_op_neD (e : X.K = K) (hu : X.A.units + 64 < cLine) : OpR X (compareOp .NotEq) (rNeD K) := e ▸ op_neD hu
theorem inK_pg_tup {es : List Expr} {k : Nat} {t : TGs} {n : Nat} {pos : Pos} (e : X.K = K) (hc : X.calm = true) (h : PGs X es t) (hn : (assignEach es X.env).length = n := by rfl) (hst : (assignEach es X.env).findIdx? (·.1) = none := by rfl) : PG X (.Tuple es k pos) (gTup K n t) := e ▸ pg_tup hc h hn hst
end
end Kx
namespace Kx
open PySem PySem.Spec PyProof.Rows L2 SX LamX
/-- an error is made with its part -/
theorem mk_part {K : PySem.W.Frag} {C : Addr} {σ : L2.St} {H : Hp} {Q : XK} {v : V} (o : OexC K C) (n : PySem.W.findIn K (.ref C) "part" = some none)
    (q : ∀ d H', Same H H' → H' d = some (.xd [("part", v)]) → Q (.ref C) (some d) H') : tMkO C (sp_init K) [] (tCons (tC v) tNil) σ H Q := by
  refine ⟨by show 1 ≤ 1000; decide, fun a na => ⟨a, C, v, rfl, o, n, upd_same, fun dx nd hne => ⟨rfl, dx, [("part", v)], upd_same, ?_, ?_, q dx _ ?_ upd_same⟩⟩⟩
  · rw [upd_ne hne, upd_same]
  · rw [upd_ne hne] at nd
    exact nd
  · rw [upd_ne hne] at nd
    intro b u h
    rw [upd_ne (ne_of_none h nd)]
    show (if b = a then none else _) = some u
    rw [if_neg (ne_of_none h na), upd_ne (ne_of_none h na), upd_ne (ne_of_none h nd), upd_ne (ne_of_none h na)]
    exact h
end Kx
namespace Kx
open PySem PySem.Spec PyProof.Rows L2 SX LamX
section
variable {K : PySem.W.Frag} {J : It} {n : Nat} {G : Hp → Prop} {Y : Nat → Hp → V → Hp → Prop} {g : TG} {tt : TT} {te : TE} {vs : List Nat} {σ : L2.St} {H1 : Hp} {D : Addr} {Qd : Hp → Prop}
/-- a comprehension whose items are told ahead -/
theorem lc_out (w : Walk J n G Y) (zs : List V) (hz : zs.length = n) (nD : H1 D = none) (len : n ≤ 100000) (hG : ∀ Hc, Same H1 Hc → G Hc)
    (turn : ∀ (i : Nat) (x z : V) (Hc Hx : Hp) (Q' : VK) (R' : Hp → Prop), i < n → zs[i]? = some z → Same H1 Hc → Y i Hc x Hx → (∀ H4, Same Hc H4 → Q' z H4) → g x (wipe σ vs) Hx fun σ2 H2 => wipe σ2 vs = wipe σ vs ∧ tt σ2 H2 fun b H3 => if b = true then te σ2 H3 Q' else R' H3)
    (fin : ∀ Hc, Same H1 Hc → Hc D = some (.lst zs) → Qd Hc) :
    ∃ W : Nat → Nat → Hp → Prop, (∃ m, W 0 m (upd H1 D (.lst []))) ∧ ∀ i m H, W i m H →
      (J.stop i H ∧ Qd H) ∨ (J.go i H ∧ ∃ Nx : Hp → Prop, (∀ H', Nx H' → ∃ m', m' < m ∧ W (i + 1) m' H') ∧ ∀ x H', J.yld i H x H' → g x (wipe σ vs) H' fun σ2 H2 => wipe σ2 vs = wipe σ vs ∧ tt σ2 H2 fun b H3 =>
        if b = true then te σ2 H3 fun y H4 => ∃ acc, H4 D = some (.lst acc) ∧ acc.length < sizeLine ∧ Nx (upd H4 D (.lst (acc ++ [y]))) else Nx H3) := by
  refine lc_it w (fun i Hc => Same H1 Hc ∧ Hc D = some (.lst (zs.take i))) ⟨same_new nD, upd_same⟩ (fun i H _ p => hG H p.1) (fun i x Hc Hx hi p y => ?_) (fun Hc p => ?_)
  · have hzi : zs[i]? = some (zs[i]'(by omega)) := List.getElem?_eq_getElem (by omega)
    refine turn i x _ Hc Hx _ _ hi hzi p.1 y (fun H4 e4 => ⟨_, e4 _ _ p.2, ?_, ?_⟩)
    · rw [List.length_take]
      exact Nat.lt_of_le_of_lt (Nat.min_le_right _ _) (Nat.lt_of_le_of_lt (by omega) (by decide : 100000 < sizeLine))
    · refine ⟨fun b o z => ?_, ?_⟩
      · rw [upd_ne (ne_of_none z nD)]
        exact e4 _ _ (p.1 b o z)
      · rw [upd_same, List.take_add_one, hzi]
        rfl
  · rw [← hz, List.take_length] at p
    exact fin Hc p.1 p.2
end
section
variable {K : PySem.W.Frag} {a b : Addr} {xs ys : List V} {g : TG} {tt : TT} {te : TE} {vs : List Nat} {σ : L2.St} {H : Hp} {k l : Nat} {Q : VK}
/-- [e for x in NAME], NAME a list: the items told ahead -/
theorem lc_lst (zs : List V) (hz : zs.length = xs.length) (hi : σ[k]? = some (some (.ref a))) (hq : SqL K H a xs) (len : xs.length ≤ 100000)
    (turn : ∀ (i : Nat) (x z : V) (Hc : Hp) (Q' : VK) (R' : Hp → Prop), xs[i]? = some x → zs[i]? = some z → Same H Hc → (∀ H4, Same Hc H4 → Q' z H4) → g x (wipe σ vs) Hc fun σ2 H2 => wipe σ2 vs = wipe σ vs ∧ tt σ2 H2 fun b H3 => if b = true then te σ2 H3 Q' else R' H3)
    (fin : ∀ (D : Addr) (Hc : Hp), Same H Hc → Hc D = some (.lst zs) → Q (.ref D) Hc) :
    tLc (iList K (tVar k)) g tt te vs σ H Q := ⟨_, hi, a, rfl, ⟨_, hq⟩, fun D nD => lc_out walk_list zs hz nD len (fun Hc e => e.seq hq) (fun i x z Hc Hx Q' R' _ hzi e y q => by
      obtain ⟨rfl, hx⟩ := y
      exact turn i x z _ Q' R' hx hzi e q) (fin D)⟩
/-- [e for x, y in zip(NAME, NAME)], both lists -/
theorem lc_zip (zs : List V) (hz : zs.length = min xs.length ys.length) (hi : σ[k]? = some (some (.ref a))) (hj : σ[l]? = some (some (.ref b))) (hq : SqL K H a xs) (hp : SqL K H b ys) (len : xs.length ≤ 100000)
    (turn : ∀ (i : Nat) (x y z : V) (t : Addr) (Hc : Hp) (Q' : VK) (R' : Hp → Prop), xs[i]? = some x → ys[i]? = some y → zs[i]? = some z → Same H Hc → Hc t = some (.tup [x, y]) → (∀ H4, Same Hc H4 → Q' z H4) → g (.ref t) (wipe σ vs) Hc fun σ2 H2 => wipe σ2 vs = wipe σ vs ∧ tt σ2 H2 fun b H3 => if b = true then te σ2 H3 Q' else R' H3)
    (fin : ∀ (D : Addr) (Hc : Hp), Same H Hc → Hc D = some (.lst zs) → Q (.ref D) Hc) :
    tLc (iZip K (tCons (tVar k) (tCons (tVar l) tNil))) g tt te vs σ H Q := ⟨_, hi, _, hj, a, b, xs, ys, rfl, hq, hp, fun D nD => lc_out (walk_zip rfl) zs hz nD (by omega) (fun Hc e => ⟨e.seq hq, e.seq hp⟩) (fun i x z Hc Hx Q' R' _ hzi e y q => by
      obtain ⟨t, x', y', rfl, nt, rfl, hx, hy⟩ := y
      exact turn i x' y' z t _ Q' R' hx hy hzi (e.trans (same_new nt)) upd_same (fun H4 e4 => q H4 ((same_new nt).trans e4))) (fin D)⟩
end
/-- «xs != ys», ints -/
theorem ne_ints {K : PySem.W.Frag} {H : Hp} {a b : Addr} {xs ys : List Int} {Q : VK} (h1 : SqL K H a (xs.map V.int)) (h2 : SqL K H b (ys.map V.int)) (q : Q (.bl (!decide (xs = ys))) H) : rNeD K (.ref a) (.ref b) H Q :=
  ⟨_, _, dp_ints h1, dp_ints h2, (pl_ints xs).shaped (by decide), (pl_ints ys).shaped (by decide), by rw [eqv_ints]; exact q⟩
theorem paired_at {α β : Type} {F : α → β → Prop} {l : List α} {m : List β} (h : Paired F l m) {i : Nat} {a : α} {b : β} (ha : l[i]? = some a) (hb : m[i]? = some b) : F a b := by
  obtain ⟨b', e, f⟩ := paired_get h ha
  rw [hb] at e
  cases e
  exact f
theorem map_at {α β : Type} {f : α → β} {l : List α} {i : Nat} {z : β} (h : (l.map f)[i]? = some z) : ∃ x, l[i]? = some x ∧ z = f x := by
  rw [List.getElem?_map] at h
  cases e : l[i]? with
  | none => rw [e] at h; cases h
  | some x => rw [e] at h; exact ⟨x, rfl, (Option.some.inj h).symm⟩
/-! ### one step into a reading -/
section
variable {D : Ends} {σ : L2.St} {H : Hp}
theorem go_seq {t u : TS} (h : t { D with nx := u D } σ H) : tSeq t u D σ H := h
theorem go_if {c : TT} {t u : TS} (h : c σ H fun b H1 => if b = true then t D σ H1 else u D σ H1) : tIfS c t u D σ H := h
theorem go_test {te : TE} {Q : Bool → Hp → Prop} (h : te σ H fun x H' => ∃ k, x = .bl k ∧ Q k H') : tTest te σ H Q := h
theorem go_op {r : R2} {ta tb : TE} {Q : VK} (h : ta σ H fun x H1 => tb σ H1 fun y H2 => r x y H2 Q) : tOp r ta tb σ H Q := h
theorem go_ret {te : TE} (h : te σ H D.rt) : tRet te D σ H := h
theorem go_asg {te : TE} {g : TG} (h : te σ H fun x H1 => g x σ H1 D.nx) : tAsg te g D σ H := h
theorem go_cb {r : List V → Hp → VK → Prop} {t : TA} {Q : VK} (h : t σ H fun vs H1 => r vs H1 Q) : tCB r t σ H Q := h
theorem go_cons {te : TE} {t : TA} {Q : List V → Hp → Prop} (h : te σ H fun x H1 => t σ H1 fun xs H2 => Q (x :: xs) H2) : tCons te t σ H Q := h
end
theorem cut_toI {xs : List Int} {k : Int} (h : 0 ≤ k) : cutV (xs.map V.int) none (some k) = (xs.take k.toNat).map V.int := by
  obtain ⟨n, rfl⟩ : ∃ n : Nat, k = n := ⟨k.toNat, by omega⟩
  rw [cut_to, List.map_take, Int.toNat_natCast]
theorem cut_fromI {xs : List Int} {k : Int} (h : 0 ≤ k) : cutV (xs.map V.int) (some k) none = (xs.drop k.toNat).map V.int := by
  obtain ⟨n, rfl⟩ : ∃ n : Nat, k = n := ⟨k.toNat, by omega⟩
  rw [cut_from, List.map_drop, Int.toNat_natCast]
theorem ne_of_two {H : Hp} {a b : Addr} {o u : HO} (ha : H a = some o) (hb : H b = some u) (h : o ≠ u) : a ≠ b := fun e => by
  rw [e, hb] at ha
  exact h (Option.some.inj ha).symm
theorem Wh.held {H : Hp} {a c : Addr} {n : Nat} (h : Wh H a c n) : ∃ o, H a = some o := by
  obtain ⟨cs, t, l, h1, _⟩ := h
  exact ⟨_, h1⟩
theorem Wh.ne {H : Hp} {a c p : Addr} {n : Nat} (h : Wh H a c n) (np : H p = none) : p ≠ a := fun e => by
  obtain ⟨o, h⟩ := h.held
  rw [← e, np] at h
  cases h
theorem Wh.new {H : Hp} {a c p : Addr} {n : Nat} {o : HO} (h : Wh H a c n) (np : H p = none) : Wh (upd H p o) a c n := h.same (same_new np)
theorem Mv.new {H H' : Hp} {a p : Addr} {o : HO} (h : Mv a H H') (np : H' p = none) : Mv a H (L2.upd H' p o) := h.trans (Mv.of (same_new np))
theorem Wh.cell {H : Hp} {a c : Addr} {n : Nat} (h : Wh H a c n) : ∃ o, H c = some o := by
  obtain ⟨cs, t, l, _, h2, _⟩ := h
  exact ⟨_, h2⟩
/-- a list of the law's own is written: the wheel stays -/
theorem Wh.set {H : Hp} {a c p : Addr} {n : Nat} {o : HO} (h : Wh H a c n) (h1 : p ≠ a) (h2 : p ≠ c) : Wh (upd H p o) a c n := by
  obtain ⟨cs, t, l, g1, g2, g3⟩ := h
  exact ⟨cs, t, l, by rw [upd_ne h1.symm]; exact g1, by rw [upd_ne h2.symm]; exact g2, g3⟩
theorem Wh.nc {H : Hp} {a c p : Addr} {n : Nat} (h : Wh H a c n) (np : H p = none) : p ≠ c := fun e => by
  obtain ⟨o, h⟩ := h.cell
  rw [← e, np] at h
  cases h
end Kx
namespace Kx
open PySem
/-- other can be cut into pieces, none empty, one for each number of row -/
inductive Th : List Int → List Int → Prop
  | nil : Th [] []
  | more {r o : List Int} (x : Int) (k : Nat) : Th r o → Th (r ++ [x]) (o ++ List.replicate (k + 1) x)
def LeR (p q : Int × Int) : Prop := p.1 = q.1 ∧ p.2 ≤ q.2
theorem snoc_inj {α : Type} {l m : List α} {a b : α} (h : l ++ [a] = m ++ [b]) : l = m ∧ a = b := by
  have h2 := List.append_inj' h rfl
  exact ⟨h2.1, by simpa using h2.2⟩
theorem snoc_ne {α : Type} {l : List α} {a : α} : l ++ [a] ≠ [] := by
  intro h
  have := congrArg List.length h
  simp at this
theorem stepR_le {rs ss : List (Int × Int)} (h : Paired LeR rs ss) (x : Int) : Paired LeR (stepR rs x) (stepR ss x) := by
  rcases nil_or_snoc ss with rfl | ⟨ss', ⟨m, d⟩, rfl⟩
  · cases paired_nil h
    exact .cons ⟨rfl, Int.le_refl _⟩ .nil
  · obtain ⟨rs', ⟨m', c⟩, rfl, h1, h2, h3⟩ := paired_split ss' h
    have e : m' = m := h2
    subst e
    rw [stepR_snoc, stepR_snoc]
    by_cases e : m' = x
    · rw [if_pos e, if_pos e]
      exact Paired.snoc h1 ⟨rfl, by have : c ≤ d := h3; show c + 1 ≤ d + 1; omega⟩
    · rw [if_neg e, if_neg e]
      exact Paired.snoc (Paired.snoc h1 ⟨rfl, h3⟩) ⟨rfl, Int.le_refl _⟩
theorem stepR_up (rs : List (Int × Int)) (x : Int) : ∃ rs' c, stepR rs x = rs' ++ [(x, c)] := by
  rcases nil_or_snoc rs with rfl | ⟨rs', ⟨m, d⟩, rfl⟩
  · exact ⟨[], 1, rfl⟩
  · rw [stepR_snoc]
    by_cases e : m = x
    · exact ⟨rs', d + 1, by rw [if_pos e]⟩
    · exact ⟨rs' ++ [(m, d)], 1, by rw [if_neg e]⟩
theorem more_le {rs ss : List (Int × Int)} {x c : Int} (h : Paired LeR (rs ++ [(x, c)]) ss) : Paired LeR (rs ++ [(x, c)]) (stepR ss x) := by
  rcases nil_or_snoc ss with rfl | ⟨ss', ⟨m, d⟩, rfl⟩
  · exact absurd (paired_nil h) snoc_ne
  · obtain ⟨rs', ⟨m', c'⟩, e, h1, h2, h3⟩ := paired_split ss' h
    obtain ⟨rfl, e2⟩ := snoc_inj e
    cases e2
    have e : x = m := h2
    subst e
    rw [stepR_snoc, if_pos rfl]
    exact Paired.snoc h1 ⟨rfl, by have : c ≤ d := h3; show c ≤ d + 1; omega⟩
theorem runs_rep (o : List Int) (x : Int) : ∀ k : Nat, runs (o ++ List.replicate (k + 1) x) = stepR (runs (o ++ List.replicate k x)) x := fun k => by
  rw [List.replicate_succ', ← List.append_assoc, runs_snoc]
theorem th_le {r o : List Int} (h : Th r o) : Paired LeR (runs r) (runs o) := by
  induction h with
  | nil => exact .nil
  | @more r o x k _ ih =>
    rw [runs_snoc]
    induction k with
    | zero =>
      rw [runs_rep]
      simp only [List.replicate_zero, List.append_nil]
      exact stepR_le ih x
    | succ k ihk =>
      rw [runs_rep]
      obtain ⟨rs', c, e⟩ := stepR_up (runs r) x
      rw [e] at ihk ⊢
      exact more_le ihk
theorem fold_pos : ∀ (o : List Int) (rs : List (Int × Int)), (∀ p ∈ rs, 1 ≤ p.2) → ∀ p ∈ o.foldl stepR rs, 1 ≤ p.2
  | [], _, h => h
  | x :: o, rs, h => by
    refine fold_pos o (stepR rs x) fun p m => ?_
    rcases nil_or_snoc rs with rfl | ⟨rs', ⟨y, d⟩, rfl⟩
    · rcases List.mem_singleton.mp m with rfl
      exact Int.le_refl _
    · have hd : (1 : Int) ≤ d := h (y, d) (by simp)
      rw [stepR_snoc] at m
      by_cases e : y = x
      · rw [if_pos e] at m
        rcases List.mem_append.mp m with m | m
        · exact h p (List.mem_append_left _ m)
        · rcases List.mem_singleton.mp m with rfl
          show (1 : Int) ≤ d + 1
          omega
      · rw [if_neg e] at m
        rcases List.mem_append.mp m with m | m
        · exact h p m
        · rcases List.mem_singleton.mp m with rfl
          exact Int.le_refl _
theorem runs_pos (o : List Int) : ∀ p ∈ runs o, 1 ≤ p.2 := fold_pos o [] (fun _ m => by cases m)
theorem runs_nil {o : List Int} (h : runs o = []) : o = [] := by
  rcases nil_or_snoc o with rfl | ⟨o', x, rfl⟩
  · rfl
  · rw [runs_snoc] at h
    obtain ⟨rs', c, e⟩ := stepR_up (runs o') x
    rw [e] at h
    exact absurd h snoc_ne
theorem runs_last {o : List Int} {ss : List (Int × Int)} {x d : Int} (h : runs o = ss ++ [(x, d)]) : ∃ o', o = o' ++ [x] ∧ ((d = 1 ∧ runs o' = ss) ∨ (2 ≤ d ∧ runs o' = ss ++ [(x, d - 1)])) := by
  rcases nil_or_snoc o with rfl | ⟨o', y, rfl⟩
  · exact absurd h.symm snoc_ne
  · rw [runs_snoc] at h
    rcases nil_or_snoc (runs o') with e | ⟨rs', ⟨m, c⟩, e⟩
    · rw [e] at h
      obtain ⟨h1, h2⟩ := snoc_inj (l := []) h
      cases h2
      exact ⟨o', rfl, .inl ⟨rfl, by rw [e, h1]⟩⟩
    · have hc : (1 : Int) ≤ c := runs_pos o' (m, c) (by rw [e]; simp)
      rw [e, stepR_snoc] at h
      by_cases em : m = y
      · rw [if_pos em] at h
        obtain ⟨h1, h2⟩ := snoc_inj h
        cases h2
        subst em h1
        exact ⟨o', rfl, .inr ⟨by omega, by rw [e, Int.add_sub_cancel]⟩⟩
      · rw [if_neg em] at h
        obtain ⟨h1, h2⟩ := snoc_inj h
        cases h2
        exact ⟨o', rfl, .inl ⟨rfl, by rw [e, h1]⟩⟩
theorem runs_piece {x : Int} {ss : List (Int × Int)} : ∀ (n : Nat) {o : List Int}, runs o = ss ++ [(x, (n : Int) + 1)] → ∃ o', o = o' ++ List.replicate (n + 1) x ∧ runs o' = ss
  | 0, o, h => by
    obtain ⟨o', e, h1 | h1⟩ := runs_last h
    · exact ⟨o', e, h1.2⟩
    · omega
  | n + 1, o, h => by
    obtain ⟨o', rfl, h1 | h1⟩ := runs_last h
    · omega
    · rw [show ((n + 1 : Nat) : Int) + 1 - 1 = (n : Int) + 1 by omega] at h1
      obtain ⟨o2, rfl, e2⟩ := runs_piece n h1.2
      exact ⟨o2, by rw [List.replicate_succ' (n := n + 1), List.append_assoc], e2⟩
theorem le_th : ∀ (n : Nat) {r o : List Int}, r.length = n → Paired LeR (runs r) (runs o) → Th r o
  | 0, r, o, hn, h => by
    cases r with
    | nil =>
      have e : runs o = [] := by
        cases h' : runs o with
        | nil => rfl
        | cons p t => rw [h'] at h; cases h
      rw [runs_nil e]
      exact .nil
    | cons _ _ => simp at hn
  | n + 1, r, o, hn, h => by
    rcases nil_or_snoc r with rfl | ⟨r', x, rfl⟩
    · simp at hn
    · have hn' : r'.length = n := by simpa using hn
      rw [runs_snoc] at h
      obtain ⟨rs', c, e⟩ := stepR_up (runs r') x
      rw [e] at h
      rcases nil_or_snoc (runs o) with eo | ⟨ss, ⟨y, d⟩, eo⟩
      · rw [eo] at h
        exact absurd (paired_nil h) snoc_ne
      · rw [eo] at h
        obtain ⟨q', ⟨x', c'⟩, e1, h1, h2, h3⟩ := paired_split ss h
        obtain ⟨e3, e2⟩ := snoc_inj e1
        cases e2
        subst e3
        have e4 : x = y := h2
        subst e4
        have h3 : c ≤ d := h3
        have hpos : (1 : Int) ≤ d := runs_pos o (x, d) (by rw [eo]; simp)
        rcases nil_or_snoc (runs r') with er | ⟨ts, ⟨m, c2⟩, er⟩
        · rw [er] at e
          obtain ⟨e5, e6⟩ := snoc_inj (l := []) e
          subst e5
          obtain ⟨o', rfl, eo'⟩ := runs_piece (d - 1).toNat (o := o) (ss := ss) (x := x) (by rw [eo]; congr 3; omega)
          exact .more x _ (le_th n hn' (by rw [er, eo']; exact h1))
        · have hc2 : (1 : Int) ≤ c2 := runs_pos r' (m, c2) (by rw [er]; simp)
          rw [er, stepR_snoc] at e
          by_cases em : m = x
          · rw [if_pos em] at e
            obtain ⟨e5, e6⟩ := snoc_inj e
            cases e6
            subst e5 em
            obtain ⟨o', rfl, hh | ⟨_, hh⟩⟩ := runs_last eo
            · omega
            · exact .more m 0 (le_th n hn' (by rw [er, hh]; exact Paired.snoc h1 ⟨rfl, by show c2 ≤ d - 1; omega⟩))
          · rw [if_neg em] at e
            obtain ⟨e5, e6⟩ := snoc_inj e
            cases e6
            subst e5
            obtain ⟨o', rfl, eo'⟩ := runs_piece (d - 1).toNat (o := o) (ss := ss) (x := x) (by rw [eo]; congr 3; omega)
            exact .more x _ (le_th n hn' (by rw [er, eo']; exact h1))
theorem leR_iff : ∀ (rs ss : List (Int × Int)), (decide (rs.map Prod.fst = ss.map Prod.fst) && (rs.zip ss).all fun p => decide (p.1.2 ≤ p.2.2)) = true ↔ Paired LeR rs ss
  | [], [] => ⟨fun _ => .nil, fun _ => rfl⟩
  | [], q :: ss => ⟨fun h => by simp at h, fun h => by cases h⟩
  | p :: rs, [] => ⟨fun h => by simp at h, fun h => by cases h⟩
  | p :: rs, q :: ss => by
    have ih := leR_iff rs ss
    constructor
    · intro h
      simp only [List.map_cons, List.zip_cons_cons, List.all_cons, Bool.and_eq_true, decide_eq_true_eq, List.cons.injEq] at h
      obtain ⟨⟨h1, h2⟩, h3, h4⟩ := h
      refine .cons ⟨h1, h3⟩ (ih.mp ?_)
      simp only [Bool.and_eq_true, decide_eq_true_eq]
      exact ⟨h2, h4⟩
    · intro h
      cases h with
      | cons h1 h2 =>
        have h3 := ih.mpr h2
        simp only [Bool.and_eq_true, decide_eq_true_eq] at h3
        simp only [List.map_cons, List.zip_cons_cons, List.all_cons, Bool.and_eq_true, decide_eq_true_eq, List.cons.injEq]
        exact ⟨⟨h1.1, h3.1⟩, h1.2, h3.2⟩
theorem th_iff (r o : List Int) : (decide ((runs r).map Prod.fst = (runs o).map Prod.fst) && ((runs r).zip (runs o)).all fun p => decide (p.1.2 ≤ p.2.2)) = true ↔ Th r o :=
  (leR_iff _ _).trans ⟨le_th _ rfl, th_le⟩
end Kx
namespace Kx
open PySem PySem.Spec PyProof.Rows L2 SX LamX
/-- a def whose code object is known -/
def FunC (K : PySem.W.Frag) (x qual : Str) (st : Stmt) (f : Addr) (fd : FuncData) (c : Addr) : Prop :=
  ∃ (oc : Value) (od : Option Addr) (kV doc pm : Value) (an : Option Addr) (ct : Value) (osl : Array (Option Value)), fd = PySem.W.fnOf x qual (defArgs st) (defBody st) (defScope st) .none kV doc pm an (.ref c) ct ∧
    K.lookup f = some ⟨oc, od, .func (PySem.W.fnOf x qual (defArgs st) (defBody st) (defScope st) .none kV doc pm an (.ref c) ct), osl⟩ ∧ PySem.W.codeIn K (.ref c) qual = true
section
variable {P : Program} {w : World} {K : PySem.W.Frag} {mg : Str → Option Value} {base : Heap}
/-- the body's rule: guards told, the code object known -/
theorem okC {x qual : Str} {st : Stmt} {f c : Addr} {fd : FuncData} {N ps : List Str} {k : Nat} {sp : Sp} (F : FunC K x qual st f fd c) (S : FnScope N ps (defScope st)) (len : ∀ vs H Q E, sp vs H Q E → vs.length = ps.length)
    (hbody : ∀ (A : Around) (outer : List Env) (s : Shared) (H : Hp) (vs : List V) (Q : VK) (E : XK), A.guards = some [] → Room k (A.deeper (envOfC qual (defScope st) s.heap.objs.size f (.ref c))) → sp vs H Q E →
      ∃ t, PSs (cxOf CX0 P w K mg base N qual (defScope st) f (.ref c) A outer s H E).nox (defBody st) t ∧ t { nx := fun _ H' => Q .non H', rt := Q } (start N vs) H) :
    FnG P w K mg base CX0 (k + 1) f fd ps sp := by
  obtain ⟨oc, od, kV, doc, pm, an, ct, osl, rfl, lk, hcd⟩ := F
  refine ⟨len, fun A outer s H args us vs Q E hg hr e0 hb r hsp => ?_⟩
  refine LamX.run_ofS lk hcd S hr e0 hb r (len _ _ _ _ hsp) fun hr' => ?_
  obtain ⟨t, h, q⟩ := hbody A outer s H vs Q E hg hr' hsp
  exact ⟨t, h.nox, q⟩
theorem funC_mk {x qual : Str} {st : Stmt} {f c : Addr} {oc : Value} {od an : Option Addr} {osl : Array (Option Value)} {kV doc pm ct : Value} (l : K.lookup f = some ⟨oc, od, .func (PySem.W.fnOf x qual (defArgs st) (defBody st) (defScope st) .none kV doc pm an (.ref c) ct), osl⟩)
    (h : PySem.W.codeIn K (.ref c) qual = true) : FunC K x qual st f (PySem.W.fnOf x qual (defArgs st) (defBody st) (defScope st) .none kV doc pm an (.ref c) ct) c := ⟨oc, od, kV, doc, pm, an, ct, osl, rfl, l, h⟩
theorem funC_of {x qual : Str} {st : Stmt} {f c Pt : Addr} {fd : FuncData} (F : Fun K x qual st f fd) (g : PySem.W.nsIn K mainGlobals x = some (some (.ref f))) (t : PySem.W.tabIn K x = some (c, Pt)) : FunC K x qual st f fd c := by
  obtain ⟨oc, od, kV, doc, pm, an, cdv, ct, osl, rfl, lk, hcd⟩ := F.ex
  unfold PySem.W.tabIn at t
  rw [g] at t
  simp only [lk] at t
  have e : (PySem.W.fnOf x qual (defArgs st) (defBody st) (defScope st) .none kV doc pm an cdv ct).code = cdv := rfl
  clear e
  cases cdv with
  | ref c' =>
    simp only at t
    split at t
    · split at t
      · injection t with t
        injection t with t1 t2
        subst t1
        exact ⟨oc, od, kV, doc, pm, an, ct, osl, rfl, lk, hcd⟩
      · cases t
    · cases t
  | _ => simp at t
end
/-- no positional value, two by name: exchanged -/
def swapG {α : Type} (us ws : List α) : List α := match us, ws with | [], [v, u] => [u, v] | _, _ => []
/-- f(b = .., a = ..): two parameters, both by name, the other way round -/
theorem kb_swap {K : PySem.W.Frag} {x qual : Str} {st : Stmt} {f : Addr} {fd : FuncData} {a b : Str} (F : Fun K x qual st f fd)
    (h : ∀ (kV doc pm : Value) (an : Option Addr) (cdv ct : Value) (u v : Value), bindArgs (PySem.W.fnOf x qual (defArgs st) (defBody st) (defScope st) .none kV doc pm an cdv ct) ⟨[], [(b, v), (a, u)]⟩ = pure [(a, u), (b, v)]) :
    KBinds K fd [a, b] [b, a] swapG swapG := by
  obtain ⟨oc, od, kV, doc, pm, an, cdv, ct, osl, rfl, lk, hcd⟩ := F.ex
  refine ⟨fun s us ws X l => ?_, fun {vs us zs ws} r1 r2 => ?_⟩
  · match us, ws, l with
    | [], [v, u], _ => exact .of_eq (h kV doc pm an cdv ct u v)
    | [], [], l => cases l
    | [], [_], l => cases l
    | [], _ :: _ :: _ :: _, l => cases l
    | _ :: _, _, l => cases l
  · cases r1 with
    | cons _ _ => exact .nil
    | nil =>
      cases r2 with
      | nil => exact .nil
      | cons h1 r2 =>
        cases r2 with
        | nil => exact .nil
        | cons h2 r2 =>
          cases r2 with
          | nil => exact .cons h2 (.cons h1 .nil)
          | cons _ _ => exact .nil
/-! ### the scope of a lambda with one default, checked -/
def lamPB (sc scope : Scope) (z : Str) : Bool :=
  decide (scope.kind = .function) && !scope.isCoroutine && !scope.isGenerator && decide (scope.names.lookup z = some .local) && scope.names.all fun y => !decide (y.2 = .cell) && (!decide (y.2 = .local) || decide (y.1 = z)) && (!decide (y.2 = .free) || decide (sc.names.lookup y.1 = some .cell) || decide (sc.names.lookup y.1 = some .free))
theorem lamP_by {sc scope : Scope} {z : Str} (h : lamPB sc scope z = true) : LamP sc scope z := by
  unfold lamPB at h
  simp only [Bool.and_eq_true, Bool.or_eq_true, Bool.not_eq_true', decide_eq_true_eq, decide_eq_false_iff_not, List.all_eq_true] at h
  obtain ⟨⟨⟨⟨h1, h2⟩, h3⟩, h5⟩, h4⟩ := h
  refine { kind := h1, co := h2, gen := h3, own := fun y hy => ⟨(h4 y hy).1.1, fun e => ?_⟩, par := h5, free := fun y hy e => ?_ }
  · rcases (h4 y hy).1.2 with z | z
    · exact absurd e z
    · exact z
  · rcases (h4 y hy).2 with (z | z) | z
    · exact absurd e z
    · exact .inl z
    · exact .inr z
open PySem.W in
/-- the goal that the head leaves, of a law that makes lambdas: x its def's name, P its table -/
theorem walkL {l : OpenLaw} {n k : Nat} {q : Program} {loose : List Str} {XP : (Str → Option Value) → Heap → Prop} {YP : World → Heap → Prop} {d : DefRec} {K : Params → Frag} {x y : Str} (sp : Frag → Addr → Sp)
    (hn : l.most = some n) (hz : n ≤ sizeLine) (h0 : d.params.defaults = []) (hr : Room k callerA) (hY : ∀ (w : World) (h : Heap), YP w h → (K w.params).In h)
    (hc : ∀ p, (∃ r, (recsOf q).find? (fun r => r.name == y) = some r) ∧ ∃ c Pt, tabIn (K p) y = some (c, Pt) ∧ (K p).lookup Pt = none)
    (F : ∀ (w : World) (mg : Str → Option Value) (fa : Addr) (h : Heap), (K w.params).In h → h.Ns mainGlobals mg → mg d.name = some (.ref fa) → ∃ fd : FuncData,
      (∀ (t : Shared) (u : Value), BindsTo t fd ⟨[u], []⟩ [(x, u)]) ∧ ∀ (c Pt : Addr), tabIn (K w.params) y = some (c, Pt) → ∀ base : Heap, (K w.params).In base → base.Ns mainGlobals mg → TabB base mg c Pt → FnG l.prog w (K w.params) mg base CX0 k fa fd [x] (sp (K w.params) Pt))
    (pr : ∀ (K : Frag) (Pt : Addr) (H : Hp) (a : Addr) (ns : List Int), ns.length ≤ n → H Pt = some (.tbl #[]) → SqL K H a (ns.map V.int) → sp K Pt [.ref a] H (fun v _ => v = .bl true) fun _ _ _ => False) :
    WalkO q loose XP YP l.row.toRowW d [] (fun f us => PySem.call f us) := by
  refine walkT (x := x) (K := K) (cs := fun p => [(y, ((tabIn (K p) y).getD (0, 0)))]) (sp := fun K => sp K ((tabIn K y).getD (0, 0)).2) hn hz h0 hr hY (fun p e he => ?_) (fun w mg fa h KX G hmg => ?_) (fun p H a ns hl ht hS _ => pr _ _ H a ns hl (ht _ (List.mem_singleton.mpr rfl)) hS)
  · obtain ⟨h1, c, Pt, h2, h3⟩ := hc p
    cases List.mem_singleton.mp he
    refine ⟨h1, ?_, ?_⟩
    · rw [h2]
      rfl
    · rw [h2]
      exact h3
  · obtain ⟨fd, hb, hF⟩ := F w mg fa h KX G hmg
    obtain ⟨_, c, Pt, h2, _⟩ := hc w.params
    refine ⟨fd, hb, fun base hk hg ht => ?_⟩
    have hT := ht _ (List.mem_singleton.mpr rfl)
    simp only [h2, Option.getD_some] at hT ⊢
    exact hF c Pt h2 base hk hg hT
theorem useIt {α : Type} {P : Prop} (x : α) (h : α → P) : P := h x
theorem binds_one {K : PySem.W.Frag} {x qual a : Str} {st : Stmt} {f : Addr} {fd : FuncData} (F : Fun K x qual st f fd)
    (h : ∀ (kV doc pm : Value) (an : Option Addr) (cdv ct u : Value), bindArgs (PySem.W.fnOf x qual (defArgs st) (defBody st) (defScope st) .none kV doc pm an cdv ct) ⟨[u], []⟩ = pure [(a, u)]) : ∀ (t : Shared) (u : Value), BindsTo t fd ⟨[u], []⟩ [(a, u)] := by
  obtain ⟨oc, od, kV, doc, pm, an, cdv, ct, osl, rfl, lk, hcd⟩ := F.ex
  exact fun t u => .of_eq (h kV doc pm an cdv ct u)
theorem same_ref {mg : Str → Option Value} {x : Str} {a b : Addr} (h : mg x = some (.ref a)) (k : mg x = some (.ref b)) : a = b := by
  rw [h] at k
  injection k with k
  injection k
theorem tabIn_of {K : PySem.W.Frag} {x : Str} {f c Pt : Addr} {oc oc2 : Value} {od od2 : Option Addr} {osl osl2 : Array (Option Value)} {fd : FuncData} {vs : Array Value} (a : PySem.W.nsIn K mainGlobals x = some (some (.ref f)))
    (l : K.lookup f = some ⟨oc, od, .func fd, osl⟩) (e : fd.code = .ref c) (l2 : K.lookup c = some ⟨oc2, od2, .fields vs, osl2⟩) (v : (vs[11]? : Option Value) = some (.ref Pt)) (n : K.lookup Pt = none) :
    ∃ c Pt, PySem.W.tabIn K x = some (c, Pt) ∧ K.lookup Pt = none := by
  refine ⟨c, Pt, ?_, n⟩
  unfold PySem.W.tabIn
  rw [a]
  simp only [l, e, l2, v]
end Kx
namespace Kx
open PySem PySem.Spec PyProof.Rows L2 SX LamX
/-! ### what stays through draws and through the making of lambdas -/
/-- H without what stands at a and without tables -/
def core (a : Addr) (H : Hp) : Hp := fun b => if b = a then none else match H b with | some (.tbl _) => none | o => o
theorem core_at {a b : Addr} {H : Hp} {o : HO} (h : H b = some o) (n : b ≠ a) (t : ∀ ps, o ≠ .tbl ps) : core a H b = some o := by
  unfold core
  rw [if_neg n, h]
  cases o with
  | tbl ps => exact absurd rfl (t ps)
  | _ => rfl
theorem of_core {a b : Addr} {H : Hp} {o : HO} (h : core a H b = some o) : b ≠ a ∧ H b = some o ∧ ∀ ps, o ≠ .tbl ps := by
  unfold core at h
  by_cases e : b = a
  · rw [if_pos e] at h
    cases h
  · rw [if_neg e] at h
    cases q : H b with
    | none => rw [q] at h; cases h
    | some u =>
      rw [q] at h
      cases u with
      | tbl ps => cases h
      | _ =>
        have h' := Option.some.inj h
        subst h'
        exact ⟨e, rfl, fun ps z => by cases z⟩
theorem core_mv {a : Addr} {H H' : Hp} (m : Mv a H H') : Same (core a H) H' := fun b o h => m b o (of_core h).1 (of_core h).2.1
theorem core_ext {a : Addr} {H0 H H' : Hp} (s : Same (core a H0) H) (e : ExtN H H') : Same (core a H0) H' := fun b o h => e b o (s b o h) (of_core h).2.2
theorem Wh.ext {H H' : Hp} {a c : Addr} {n : Nat} (h : Wh H a c n) (e : ExtN H H') : Wh H' a c n := by
  obtain ⟨cs, t, l', h1, h2, h3⟩ := h
  exact ⟨cs, t, l', e _ _ h1 (fun ps z => by cases z), e _ _ h2 (fun ps z => by cases z), h3⟩
theorem Wh.tab {H : Hp} {a c P : Addr} {n : Nat} {ps : Array Value} (h : Wh H a c n) (t : H P = some (.tbl ps)) : P ≠ a := by
  obtain ⟨cs, x, l', h1, _⟩ := h
  exact ne_of_two t h1 (fun z => by cases z)
/-! ### what never is a list or tuple -/
theorem no_list {K : PySem.W.Frag} {n : String} (h1 : kitB n "list" = some false) (h2 : kitB n "tuple" = some false) : PySem.W.kitAny K (.type n) [.type "list", .type "tuple"] = some false := kit_at h1 h2
theorem flat_rep (n : Nat) (xs : List Int) : (List.replicate n (xs.map V.int)).flatten = ((List.replicate n xs).flatten).map V.int := by
  rw [List.map_flatten, List.map_replicate]
theorem rep_one (n : Nat) (x : Int) : (List.replicate n [V.int x]).flatten = (List.replicate n x).map V.int := by
  rw [List.map_replicate]
  induction n with
  | zero => rfl
  | succ j ih => rw [List.replicate_succ, List.flatten_cons, ih, List.replicate_succ]; rfl
theorem flat_length (n : Nat) (xs : List Int) : ((List.replicate n xs).flatten).length = n * xs.length := by
  induction n with
  | zero => simp
  | succ j ih => rw [List.replicate_succ, List.flatten_cons, List.length_append, ih, Nat.succ_mul, Nat.add_comm]
theorem flat_mem {n : Nat} {xs : List Int} {i : Int} (h : i ∈ (List.replicate n xs).flatten) : i ∈ xs := by
  obtain ⟨l, hl, hi⟩ := List.mem_flatten.mp h
  rw [List.eq_of_mem_replicate hl] at hi
  exact hi
/-- one and the same truth, twice -/
theorem dp_bb {K : PySem.W.Frag} {H : Hp} {p : Addr} {b : Bool} (h : H p = some (.lst [.bl b, .bl b])) : Dp K H (.ref p) (.list [.bool b, .bool b]) := .lst (.inl (.inl h)) (.cons (.bl b) (.cons (.bl b) .nil))
/-- [b, b] is shown -/
theorem bb1 (b : Bool) : (PyData.list [.bool b, .bool b]).showable = true := by cases b <;> rfl
theorem bb2 (b : Bool) : (PyData.list [.bool b, .bool b]).hasDict = false := by cases b <;> rfl
theorem bb3 (b : Bool) : (PyData.list [.bool b, .bool b]).depth ≤ 60 := by cases b <;> decide
theorem bb4 (b : Bool) : (PyData.list [.bool b, .bool b]).shown.length ≤ sizeLine := by cases b <;> decide +kernel
theorem bool_of {P : Prop} {a b : Bool} (h1 : a = true ↔ P) (h2 : b = true ↔ P) : a = b := Bool.eq_iff_iff.mpr (h1.trans h2.symm)
theorem ne_self {x : V} : (!decide (x = x)) = false := by simp
theorem th_refl : ∀ (n : Nat) (r : List Int), r.length = n → Th r r
  | 0, r, h => by
    cases r with
    | nil => exact .nil
    | cons _ _ => simp at h
  | n + 1, r, h => by
    rcases nil_or_snoc r with rfl | ⟨r', x, rfl⟩
    · simp at h
    · exact .more x 0 (th_refl n r' (by simpa using h))
end Kx
namespace Kx
open PySem PySem.Spec PyProof.Rows L2 SX LamX
/-! ### a def that calls replace: a token is out when it begins -/
section
variable {X : Cx}
theorem pst_set {i : Nat} {x : Str} {e : Expr} {te : TE} {pos pos' : Pos} (hN : X.N.Nodup) (hi : X.N[i]? = some x) (hx : Loc X.env.scope x) (he : PET X e te) (hs : swapsWith e (some (.Name x pos')) pos.line X.env = pure false := by rfl)
    (hf : X.fn x = true ∨ X.env.scope.names.lookup x = some .local := by first | exact .inl rfl | exact .inr rfl | assumption) : PST X (.Assign [.Name x pos'] e pos) (tAsg te (gName i)) := by
  intro pins s σ H D h0 I h
  refine wpAny_Assign_Name (thn (he pins s σ H _ h0 I h) fun v s1 hh => ?_) hs
  obtain ⟨y, H1, I1, r1, q1⟩ := hh
  exact store_ok I1 hN hi hx r1 (fun s2 I2 => ⟨_, H1, I2, q1⟩) hf
end
theorem okT {P : Program} {w : World} {K : PySem.W.Frag} {mg : Str → Option Value} {base : Heap} {x qual : Str} {st : Stmt} {f : Addr} {fd : FuncData} {N ps : List Str} {k : Nat} {sp : Sp} (F : Fun K x qual st f fd) (S : FnScope N ps (defScope st))
    (hnc : ((defScope st).names.all fun y => !decide (y.2 = .cell)) = true) (hps : 1 ≤ ps.length) (len : ∀ vs H Q E, sp vs H Q E → vs.length = ps.length)
    (hbody : ∀ (cdv : Value) (A : Around) (outer : List Env) (s : Shared) (H : Hp) (vs : List V) (Q : VK) (E : XK), Room k (A.deeper (envOfC qual (defScope st) s.heap.objs.size f cdv)) → sp vs H Q E →
      ∃ t, PSsT (cxOf CX0 P w K mg base N qual (defScope st) f cdv A outer s H E) (defBody st) t ∧ t { nx := fun _ H' => Q .non H', rt := Q } (start N vs) H) :
    FnOk P w K mg base CX0 (k + 1) f fd ps sp := by
  obtain ⟨oc, od, kV, doc, pm, an, cdv, ct, osl, rfl, lk, hcd⟩ := F.ex
  refine fn_ofT lk hcd S (fun y hy e => ?_) hps len fun A outer s H vs Q E hr hsp => hbody cdv A outer s H vs Q E hr hsp
  have h := List.all_eq_true.mp hnc y hy
  rw [e] at h
  exact absurd h (by decide)
/-! ### texts -/
theorem replace_S (l : List Nat) : Txt.replace (S l) ⟨#[32]⟩ ⟨#[]⟩ = S (l.filter (· != 32)) := by
  have h := PyProof.Rows.replace_strikes (S l) 32
  refine TL.ext_tl ?_
  show (Txt.replace (S l) ⟨#[32]⟩ ⟨#[]⟩).cps.toList = (S (l.filter (· != 32))).cps.toList
  rw [h]
theorem S_nil (l : List Nat) : decide (V.str (S l) = V.str "") = l.isEmpty := by
  cases l with
  | nil => rfl
  | cons c t =>
    rw [decide_eq_false]
    · rfl
    · intro e
      injection e with e
      have := congrArg (fun z : Str => z.cps.size) e
      have e0 : (Str.ofString "").cps.size = 0 := rfl
      simp [S] at this
      omega
/-- letters and blanks alone -/
theorem text_filter (l : List Nat) : ((l.filter (· != 32)).isEmpty || lowB (l.filter (· != 32))) = l.all sg := by
  have h : (l.filter (· != 32)).all low = l.all sg := by
    induction l with
    | nil => rfl
    | cons c t ih =>
      by_cases e : c = 32
      · subst e
        rw [List.filter_cons_of_neg (by simp), ih]
        rfl
      · rw [List.filter_cons_of_pos (by simpa using e), List.all_cons, List.all_cons, ih]
        have : sg c = low c := by
          unfold sg
          rw [decide_eq_false e, Bool.false_or]
        rw [this]
  unfold lowB
  rw [h]
  cases hE : (l.filter (· != 32)).isEmpty with
  | true =>
    have : l.filter (· != 32) = [] := List.isEmpty_iff.mp hE
    rw [← h, this]
    rfl
  | false => simp
/-- as an error with its part is raised -/
def RaisedPart (E : XK) (C : Addr) (H : Hp) (part : Str) : Prop := ∀ d H', Same H H' → H' d = some (.xd [("part", .str part)]) → E (.ref C) (some d) H'
/-! ### items between blanks -/
def itemsA (acc : List Nat) : List Nat → List (List Nat)
  | [] => [acc]
  | c :: r => if c = 32 then acc :: itemsA [] r else itemsA (acc ++ [c]) r
theorem pre_blank (c : Nat) (r : List Nat) : TL.pre [32] (c :: r) = decide (c = 32) := by
  by_cases h : c = 32
  · subst h
    simp [TL.pre]
  · have h' : ¬ 32 = c := fun e => h e.symm
    simp [TL.pre, h, h']
theorem spl_items : ∀ (l acc : List Nat), TL.spl [32] 0 acc l = itemsA acc l
  | [], acc => TL.spl_nil _ _ _
  | c :: r, acc => by
    by_cases h : c = 32
    · rw [TL.spl_hit (by rw [pre_blank, decide_eq_true h])]
      show acc :: TL.spl [32] 0 [] r = if c = 32 then acc :: itemsA [] r else itemsA (acc ++ [c]) r
      rw [if_pos h, spl_items r []]
    · rw [TL.spl_miss (by rw [pre_blank, decide_eq_false h])]
      show TL.spl [32] 0 (acc ++ [c]) r = if c = 32 then acc :: itemsA [] r else itemsA (acc ++ [c]) r
      rw [if_neg h, spl_items r (acc ++ [c])]
theorem split_items (l : List Nat) : Txt.split (S l) " " = (itemsA [] l).map S := by
  have h := SX.split_S (a := l) (b := [32]) (by simp) (by decide)
  rw [spl_items] at h
  exact h
def beginsA : Nat → List (List Nat) → List Nat
  | _, [] => []
  | p, x :: xs => p :: beginsA (p + x.length + 1) xs
/-- how far items reach -/
def reachA : Nat → List (List Nat) → Nat
  | p, [] => p
  | p, x :: xs => reachA (p + x.length + 1) xs
theorem beginsA_snoc : ∀ (xs : List (List Nat)) (p : Nat) (x : List Nat), beginsA p (xs ++ [x]) = beginsA p xs ++ [reachA p xs]
  | [], _, _ => rfl
  | y :: ys, p, x => by
    show p :: beginsA (p + y.length + 1) (ys ++ [x]) = p :: (beginsA (p + y.length + 1) ys ++ [reachA (p + y.length + 1) ys])
    rw [beginsA_snoc ys]
theorem reachA_snoc : ∀ (xs : List (List Nat)) (p : Nat) (x : List Nat), reachA p (xs ++ [x]) = reachA p xs + x.length + 1
  | [], _, _ => rfl
  | y :: ys, p, x => reachA_snoc ys _ x
theorem reach_items : ∀ (l acc : List Nat) (p : Nat), reachA p (itemsA acc l) = p + acc.length + l.length + 1
  | [], acc, p => rfl
  | c :: r, acc, p => by
    show reachA p (if c = 32 then acc :: itemsA [] r else itemsA (acc ++ [c]) r) = _
    by_cases h : c = 32
    · rw [if_pos h]
      show reachA (p + acc.length + 1) (itemsA [] r) = _
      rw [reach_items]
      simp
      omega
    · rw [if_neg h, reach_items]
      simp
      omega
theorem items_blank : ∀ (l acc : List Nat), itemsA acc (l ++ [32]) = itemsA acc l ++ [[]]
  | [], acc => rfl
  | c :: r, acc => by
    show (if c = 32 then acc :: itemsA [] (r ++ [32]) else itemsA (acc ++ [c]) (r ++ [32])) = (if c = 32 then acc :: itemsA [] r else itemsA (acc ++ [c]) r) ++ [[]]
    by_cases h : c = 32
    · rw [if_pos h, if_pos h, items_blank]
      rfl
    · rw [if_neg h, if_neg h, items_blank]
theorem items_sign {s : Nat} (hs : s ≠ 32) : ∀ (l acc : List Nat), ∃ xs x, itemsA acc l = xs ++ [x] ∧ itemsA acc (l ++ [s]) = xs ++ [x ++ [s]]
  | [], acc => ⟨[], acc, rfl, by show (if s = 32 then _ else itemsA (acc ++ [s]) []) = _; rw [if_neg hs]; rfl⟩
  | c :: r, acc => by
    by_cases h : c = 32
    · obtain ⟨xs, x, h1, h2⟩ := items_sign hs r []
      refine ⟨acc :: xs, x, ?_, ?_⟩
      · show (if c = 32 then acc :: itemsA [] r else _) = _
        rw [if_pos h, h1]
        rfl
      · show (if c = 32 then acc :: itemsA [] (r ++ [s]) else _) = _
        rw [if_pos h, h2]
        rfl
    · obtain ⟨xs, x, h1, h2⟩ := items_sign hs r (acc ++ [c])
      refine ⟨xs, x, ?_, ?_⟩
      · show (if c = 32 then _ else itemsA (acc ++ [c]) r) = _
        rw [if_neg h, h1]
      · show (if c = 32 then _ else itemsA (acc ++ [c]) (r ++ [s])) = _
        rw [if_neg h, h2]
theorem items_length : ∀ (l acc : List Nat), (itemsA acc l).length = l.count 32 + 1
  | [], acc => rfl
  | c :: r, acc => by
    show (if c = 32 then acc :: itemsA [] r else itemsA (acc ++ [c]) r).length = _
    by_cases h : c = 32
    · subst h
      rw [if_pos rfl, List.length_cons, items_length, List.count_cons_self]
    · rw [if_neg h, items_length, List.count_cons_of_ne h]
theorem join_items : ∀ (l acc : List Nat), TL.joinL [32] (itemsA acc l) = acc ++ l
  | [], acc => by simp [itemsA, TL.joinL]
  | c :: r, acc => by
    show TL.joinL [32] (if c = 32 then acc :: itemsA [] r else itemsA (acc ++ [c]) r) = _
    by_cases h : c = 32
    · subst h
      rw [if_pos rfl]
      have ih := join_items r []
      cases hi : itemsA [] r with
      | nil =>
        have := items_length r []
        rw [hi] at this
        simp at this
      | cons x xs =>
        rw [hi] at ih
        show acc ++ ([32] ++ TL.joinL [32] (x :: xs)) = _
        rw [ih]
        simp
    · rw [if_neg h, join_items]
      simp
theorem beginsA_length : ∀ (xs : List (List Nat)) (p : Nat), (beginsA p xs).length = xs.length
  | [], _ => rfl
  | x :: xs, p => by
    show (beginsA (p + x.length + 1) xs).length + 1 = xs.length + 1
    rw [beginsA_length xs]
theorem item_le : ∀ (l acc it : List Nat), it ∈ itemsA acc l → it.length ≤ acc.length + l.length
  | [], acc, it, h => by
    rw [List.mem_singleton.mp h]
    simp
  | c :: r, acc, it, h => by
    have h : it ∈ (if c = 32 then acc :: itemsA [] r else itemsA (acc ++ [c]) r) := h
    by_cases e : c = 32
    · rw [if_pos e] at h
      rcases List.mem_cons.mp h with rfl | h
      · simp
      · have := item_le r [] it h
        simp at this ⊢
        omega
    · rw [if_neg e] at h
      have := item_le r _ it h
      simp at this ⊢
      omega
end Kx
namespace Kx
open PySem PySem.Spec PyProof.Rows L2 SX LamX
/-! ### an int or a truth is (not) a truth -/
def rNotBI : R2 := fun x y H Q => ∃ b : Bool, y = .bl b ∧ ((∃ i : Int, x = .int i ∧ Q (.bl true) H) ∨ ∃ a : Bool, x = .bl a ∧ Q (.bl (!decide (a = b))) H)
section
variable {X : Cx}
theorem op_notBI : OpR X (compareOp .IsNot) rNotBI := by
  intro pins s σ H x y v u Q I rx ry h
  obtain ⟨b, rfl, h⟩ := h
  rcases h with ⟨i, rfl, q⟩ | ⟨a, rfl, q⟩
  · obtain ⟨t, rfl⟩ := rx
    obtain rfl : u = Value.bool b := ry
    exact wpAny_isNot_other rfl (fun z => nomatch z) ⟨.bl true, H, I, rfl, q⟩
  · exact op_notBl pins s σ H _ _ v u Q I rx ry ⟨a, b, rfl, rfl, q⟩
/-! ### list(text) -/
def signsV (l : List Nat) : List V := l.map fun c => V.str (S [c])
theorem vals_signs : ∀ {l : List Nat} {its : List Value}, l.length = its.length → (∀ (i : Nat) (c : Nat), l[i]? = some c → ∃ u : Tok, its[i]? = some (Value.str (S [c]) u)) → Vals (signsV l) its
  | [], [], _, _ => .nil
  | [], _ :: _, h, _ => by simp at h
  | _ :: _, [], h, _ => by simp at h
  | c :: l, v :: its, hl, h => by
    obtain ⟨u, e⟩ := h 0 c rfl
    have e' : v = .str (S [c]) u := by simpa using e
    exact .cons ⟨u, e'⟩ (vals_signs (by simpa using hl) fun i d hd => by
      have := h (i + 1) d (by simpa using hd)
      simpa using this)
theorem call_list_txt (hc : X.calm = true) : CallR X (.type "list") (fun xs H Q => ∃ l : List Nat, xs = [.str (S l)] ∧ l.length ≤ 1000000 ∧ ∀ p, H p = none → Q (.ref p) (upd H p (.lst (signsV l)))) := by
  intro pins s σ H xs us Q I r h
  obtain ⟨l, rfl, hl, q⟩ := h
  obtain ⟨u, rfl, t, rfl⟩ := vals1 r
  have hz : (S l).cps.size = l.length := by simp [S]
  have hn : (S l).cps.size ≤ sizeLine := by
    rw [hz]
    exact Nat.le_trans hl (by decide)
  refine call_list_str (hn := hn) (I.ok.hd hc) (S l) t fun h' tk acc' c' k e1 e2 => ?_
  obtain ⟨z1, z2⟩ := e2
  rw [hz] at z1
  have rv : Vals (signsV l) acc'.toList := by
    refine vals_signs (l := l) (by have e := Array.length_toList (xs := acc'); omega) fun i c hi => ?_
    have il : i < l.length := by
      rcases Nat.lt_or_ge i l.length with h | h
      · exact h
      · rw [List.getElem?_eq_none h] at hi
        cases hi
    have ia : i < acc'.size := by omega
    obtain ⟨d, u, h3, h4⟩ := z2 i acc'[i] (by simp [ia])
    have h5 : (S l).cps[i]? = l[i]? := by simp [S]
    rw [h5, hi] at h3
    cases h3
    refine ⟨u, ?_⟩
    have h6 : acc'.toList[i]? = some acc'[i] := by simp [ia]
    rw [h6, h4]
  exact ⟨.ref s.heap.objs.size, upd H s.heap.objs.size (.lst (signsV l)), I.laid (t' := tk) k (Nat.le_refl _) (show ObjOk X.prog X.w _ h' _ (.lst (signsV l)) from ⟨by unfold signsV; rw [List.length_map]; exact Nat.le_trans hl (by decide), acc'.toList, c', rv, by simpa using e1⟩), rfl, q _ (I.hok.fresh (Nat.le_refl _))⟩
end
/-! ### enumerate(text) -/
def IteS (x : Str) : It :=
  ⟨fun i _ => i < x.cps.size, fun i H v H' => ∃ T c, v = .ref T ∧ H T = none ∧ H' = upd H T (.tup [.int (i : Nat), .str ⟨#[c]⟩]) ∧ x.cps[i]? = some c, fun i _ => i = x.cps.size⟩
theorem draws_str {prog : Program} {w : World} {A : Around} (hh : A.handled = none) (it : Addr) (x : Str) (t : Tok) :
    Draws prog w A it [it] x.cps.size (fun i v => ∃ c u, x.cps[i]? = some c ∧ v = .str ⟨#[c]⟩ u) (fun i h => h.IsStrIter it (strIterType x) x t i) := by
  unfold strIterType
  cases x.cps.all (· < 128)
  · exact Draws.strWide hh it x t
  · exact Draws.strAscii hh it x t
theorem turn_enumS {P : Program} {w : World} {K : PySem.W.Frag} {elts : List Expr} {kk : Nat} {tpos : Pos} (x : Str) (t : Tok) (e it : Addr) :
    Turn P w K (.Tuple elts kk tpos) (IteS x) [e, it] e (fun i h => (∃ old, IsEnum h e it ((i : Nat) : Int) old) ∧ h.IsStrIter it (strIterType x) x t i ∧ e ≠ it) where
  mem := by simp
  obj := fun i h st b hb => by
    obtain ⟨⟨old, he⟩, ⟨o, ho, hc, hd⟩, _⟩ := st
    rcases (show b = e ∨ b = it by simpa using hb) with z | z
    · rw [z]
      exact ⟨_, he, fun v q => nomatch q⟩
    · rw [z]
      exact ⟨o, ho, fun v q => by rw [hd] at q; cases q⟩
  keep := fun i h h' st k => by
    obtain ⟨⟨old, he⟩, ⟨o, ho, r⟩, hne⟩ := st
    exact ⟨⟨old, k e (by simp) _ he⟩, ⟨o, k it (by simp) _ ho, r⟩, hne⟩
  item := by
    intro X hP hw hK hc i pins s σ H E I hf st hg
    subst hP hw hK
    obtain ⟨⟨old, he⟩, hit, hne⟩ := st
    have el : e < s.heap.objs.size := Heap.lt_size he
    have il : it < s.heap.objs.size := by
      obtain ⟨_, q, _⟩ := hit
      exact Heap.lt_size q
    have D := draws_str (prog := X.prog) (w := X.w) (A := X.A.in1) (I.ok.hd hc) it x t
    refine wpAny_pyNext_enum_itemD D he hit hg hne (by simpa using hne) fun u h' tk hu ho hit' hT hz hk => ?_
    obtain ⟨c, tu, hcx, rfl⟩ := hu
    refine ⟨_, rfl, wpAny_letOwnedTupleGo_enum (s := { s with heap := h', toks := tk + 1 }) ho fun h2 he' sb => ?_⟩
    have T2 := (sb.2 _ (Nat.ne_of_gt el)).trans hT
    have new : ObjOk X.prog X.w (upd H s.heap.objs.size (.tup [.int (i : Nat), .str ⟨#[c]⟩])) h2 s.heap.objs.size (.tup [.int (i : Nat), .str ⟨#[c]⟩]) :=
      ⟨by show 2 ≤ sizeLine; decide, [.int i tk, .str ⟨#[c]⟩ tu], .cons ⟨_, rfl⟩ (.cons ⟨_, rfl⟩ .nil), ⟨_, T2, rfl, _, rfl⟩⟩
    have I1 : Inv X pins σ (upd H s.heap.objs.size (.tup [.int (i : Nat), .str ⟨#[c]⟩])) { s with heap := h2, toks := tk + 1 } :=
      I.turnedNew (ch := [e, it]) (fun b ob hb q => (sb.2 b (fun z => hb (by simp [z]))).trans (hk b ob (fun z => hb (by simp [z])) (fun z => hb (by simp [z])) q)) hf (Nat.le_refl _) new
    refine ⟨.ref s.heap.objs.size, _, I1, rfl, ⟨_, c, rfl, I.hok.fresh (Nat.le_refl _), rfl, hcx⟩, ⟨⟨.str ⟨#[c]⟩ tu, ?_⟩, ?_, hne⟩, fun b hb => ?_⟩
    · rw [show ((i + 1 : Nat) : Int) = (i : Int) + 1 by omega]
      exact he'
    · obtain ⟨o, ho2, r⟩ := hit'
      exact ⟨o, (sb.2 it (Ne.symm hne)).trans ho2, r⟩
    · have hb' : b < s.heap.objs.size := by
        rcases (show b = e ∨ b = it by simpa using hb) with z | z
        · rw [z]
          exact el
        · rw [z]
          exact il
      rw [upd_ne (Nat.ne_of_lt hb')]
      exact (hf b hb).1
  done := by
    intro X hP hw hK hc i pins s σ H E I hf st hg
    subst hP hw hK
    obtain ⟨⟨old, he⟩, hit, hne⟩ := st
    obtain ⟨f0, f1, f2, f3, f4, f5⟩ := hf it (by simp)
    have hg : i = x.cps.size := hg
    subst hg
    have D := draws_str (prog := X.prog) (w := X.w) (A := X.A.in1) (I.ok.hd hc) it x t
    exact wpAny_pyNext_enum_endD D he hit fun h' eb => ⟨rfl, I.turned (t' := s.toks) (fun b o hb q => eb b o hb q) f0 f1 f3 f4 f5⟩
  self := fun A i s Q E st h => by
    obtain ⟨⟨_, he⟩, _⟩ := st
    exact wpAny_pyIter_enum he h
def iEnumS (ta : TA) : TI := fun σ H R => ta σ H fun vs H1 => ∃ x : Str, vs = [.str x] ∧ R (IteS x) H1
theorem pi_enumS {X : Cx} {e : Expr} {ta : TA} {p pos tpos : Pos} {elts : List Expr} {kk : Nat} (hg : Gl X "enumerate") (hm : X.mg "enumerate" = none) (ha : PA X [e] ta) (hs : starEach [e] X.env = [(false, eval e X.env)] := by rfl) :
    PI X (.Tuple elts kk tpos) (.Call (.Name "enumerate" p) [e] [] pos) (iEnumS ta) := by
  refine ⟨fun pins s σ H R I h => ?_⟩
  refine Call_ (ld_blt I hg hm boot_enumerate (PyProof.Rows.callWith_type1 (thn (ha.run pos pins s σ H _ I h) fun us s1 hh => ?_) hs rfl))
  obtain ⟨vs, H1, I1, r1, x, rfl, q⟩ := hh
  obtain ⟨u, rfl, t, rfl⟩ := vals1 r1
  refine call_enumerate_str fun h' he hit hz hk => wpAny_pyIter_enum he ?_
  have I2 : Inv X pins σ H1 { s1 with heap := h' } := I1.kept (t' := s1.toks) hk
  refine ⟨s1.heap.objs.size + 1, [s1.heap.objs.size + 1, s1.heap.objs.size], _, _, H1, rfl, I2, turn_enumS x t (s1.heap.objs.size + 1) s1.heap.objs.size, ⟨⟨.none, he⟩, hit, Nat.succ_ne_self _⟩, fun b hb => ?_, q⟩
  have hle : s1.heap.objs.size ≤ b := by
    rcases (show b = s1.heap.objs.size + 1 ∨ b = s1.heap.objs.size by simpa using hb) with z | z
    · rw [z]
      exact Nat.le_add_right _ _
    · rw [z]
      exact Nat.le_refl _
  exact I1.fpOk hle (I1.hok.fresh hle)
theorem walk_enumS {x : Str} : Walk (IteS x) x.cps.size (fun _ => True) (fun i H v H' => ∃ T c, v = .ref T ∧ H T = none ∧ H' = upd H T (.tup [.int (i : Nat), .str ⟨#[c]⟩]) ∧ x.cps[i]? = some c) :=
  ⟨fun _ _ h _ => h, fun _ _ => rfl, fun _ _ _ _ _ _ y => y⟩
end Kx
namespace Kx
open PySem PySem.Spec PyProof.Rows L2 SX LamX
/-! ### values of all kinds -/
def KindIs (K : PySem.W.Frag) (H : Hp) (x : V) : Prop := (∃ i, x = .int i) ∨ (∃ b, x = .bl b) ∨ (isIntV x = false ∧ ∃ n, TyX K H x (.type n) ∧ kitB n "int" = some false)
section
variable {K : PySem.W.Frag} {H H' : Hp}
theorem KindIs.same {x : V} (e : Same H H') (h : KindIs K H x) : KindIs K H' x := by
  rcases h with h | h | ⟨h, n, h1, h2⟩
  · exact .inl h
  · exact .inr (.inl h)
  · exact .inr (.inr ⟨h, n, tyx_same e h1, h2⟩)
theorem kind_non : KindIs K H .non := .inr (.inr ⟨rfl, "NoneType", .base .non, by decide +kernel⟩)
theorem kind_str (x : Str) : KindIs K H (.str x) := .inr (.inr ⟨rfl, "str", .base (.str x), by decide +kernel⟩)
theorem kind_lst {a : Addr} {ws : List V} (h : SqL K H a ws) : KindIs K H (.ref a) := .inr (.inr ⟨rfl, "list", tyL h, by decide +kernel⟩)
theorem kind_tup {a : Addr} {ws : List V} (h : SqT K H a ws) : KindIs K H (.ref a) := .inr (.inr ⟨rfl, "tuple", tyT h, by decide +kernel⟩)
theorem kind_dk {a : Addr} {kvs : List (Key × V)} (h : H a = some (.dK kvs)) : KindIs K H (.ref a) := .inr (.inr ⟨rfl, "dict", .base (.dK h), by decide +kernel⟩)
theorem hasInt_dk {a : Addr} {kvs : List (Key × V)} (h : H a = some (.dK kvs)) : HasInt K H (.ref a) := ⟨"dict", false, false, .base (.dK h), by decide +kernel, by decide +kernel, rfl⟩
end
/-- an item: of what kind it is -/
def Itm (K : PySem.W.Frag) (H : Hp) (v : V) : Prop := HasInt K H v ∧ KindIs K H v
theorem Itm.same {K : PySem.W.Frag} {H H' : Hp} {x : V} (e : Same H H') (h : Itm K H x) : Itm K H' x := ⟨h.1.same e, h.2.same e⟩
/-- codes of signs -/
def cdC (l : List Nat) : Prop := l.all (fun c => decide (c < 1114112)) = true
theorem cdC.app {l m : List Nat} (h : cdC l) (k : cdC m) : cdC (l ++ m) := by
  unfold cdC at h k ⊢
  rw [List.all_append, h, k]
  rfl
theorem cdC.sub {l m : List Nat} (h : cdC l) (k : ∀ c ∈ m, c ∈ l) : cdC m := by
  unfold cdC at h ⊢
  exact List.all_eq_true.mpr fun c hc => List.all_eq_true.mp h c (k c hc)
theorem ok_ofString (s : String) : cdC (Str.ofString s).cps.toList := by
  rw [Str.ofString_eq_toList]
  unfold cdC
  refine List.all_eq_true.mpr fun n hn => ?_
  obtain ⟨c, _, rfl⟩ := List.mem_map.mp (by simpa using hn)
  refine decide_eq_true ?_
  have hv := c.valid
  show c.val.toNat < 1114112
  rcases hv with h | ⟨_, h⟩
  · have h' : c.val.toNat < 55296 := h
    omega
  · exact h
inductive AnyV (K : PySem.W.Frag) (H : Hp) : V → Prop where
  | non : AnyV K H .non
  | bl (b : Bool) : AnyV K H (.bl b)
  | int (i : Int) : AnyV K H (.int i)
  | str (l : List Nat) (h : l.length ≤ 5000) (v : cdC l) : AnyV K H (.str (S l))
  | lst {a : Addr} {ws : List V} (h : SqL K H a ws) (n : ws.length ≤ 1000) (t : ∀ v ∈ ws, Itm K H v) : AnyV K H (.ref a)
  | tup {a : Addr} {ws : List V} (h : SqT K H a ws) (n : ws.length ≤ 1000) (t : ∀ v ∈ ws, Itm K H v) : AnyV K H (.ref a)
  | dk {a : Addr} {kvs : List (Key × V)} (h : H a = some (.dK kvs)) : AnyV K H (.ref a)
section
variable {K : PySem.W.Frag} {H H' : Hp} {x : V}
theorem AnyV.same (e : Same H H') (h : AnyV K H x) : AnyV K H' x := by
  cases h with
  | non => exact .non
  | bl b => exact .bl b
  | int i => exact .int i
  | str l h v => exact .str l h v
  | lst h n t => exact .lst (e.seq h) n fun v m => (t v m).same e
  | tup h n t => exact .tup (Same.t e h) n fun v m => (t v m).same e
  | dk h => exact .dk (e _ _ h)
theorem AnyV.itm (h : AnyV K H x) : Itm K H x := by
  cases h with
  | non => exact ⟨hasInt_non, kind_non⟩
  | bl b => exact ⟨hasInt_bl b, .inr (.inl ⟨b, rfl⟩)⟩
  | int i => exact ⟨hasInt_int i, .inl ⟨i, rfl⟩⟩
  | str l h v => exact ⟨hasInt_str _, kind_str _⟩
  | lst h n t => exact ⟨hasInt_lst h, kind_lst h⟩
  | tup h n t => exact ⟨hasInt_tup h, kind_tup h⟩
  | dk h => exact ⟨hasInt_dk h, kind_dk h⟩
/-- is it a list or a tuple -/
theorem AnyV.seq (h : AnyV K H x) : (∃ n, TyX K H x (.type n) ∧ PySem.W.kitAny K (.type n) [.type "list", .type "tuple"] = some false) ∨
    ∃ (a : Addr) (ws : List V), x = .ref a ∧ SqQ K H a ws ∧ ws.length ≤ 1000 ∧ ∀ v ∈ ws, Itm K H v := by
  cases h with
  | non => exact .inl ⟨"NoneType", .base .non, no_list (by decide +kernel) (by decide +kernel)⟩
  | bl b => exact .inl ⟨"bool", .base (.bl b), no_list (by decide +kernel) (by decide +kernel)⟩
  | int i => exact .inl ⟨"int", .base (.int i), no_list (by decide +kernel) (by decide +kernel)⟩
  | str l h v => exact .inl ⟨"str", .base (.str _), no_list (by decide +kernel) (by decide +kernel)⟩
  | lst h n t => exact .inr ⟨_, _, rfl, .inl h, n, t⟩
  | tup h n t => exact .inr ⟨_, _, rfl, .inr h, n, t⟩
  | dk h => exact .inl ⟨"dict", .base (.dK h), no_list (by decide +kernel) (by decide +kernel)⟩
/-- is it a text -/
theorem AnyV.str? (h : AnyV K H x) : (∃ l : List Nat, x = .str (S l) ∧ l.length ≤ 5000 ∧ cdC l) ∨ ∃ n, TyX K H x (.type n) ∧ kitB n "str" = some false := by
  cases h with
  | non => exact .inr ⟨"NoneType", .base .non, by decide +kernel⟩
  | bl b => exact .inr ⟨"bool", .base (.bl b), by decide +kernel⟩
  | int i => exact .inr ⟨"int", .base (.int i), by decide +kernel⟩
  | str l h v => exact .inl ⟨l, rfl, h, v⟩
  | lst h n t => exact .inr ⟨"list", tyL h, by decide +kernel⟩
  | tup h n t => exact .inr ⟨"tuple", tyT h, by decide +kernel⟩
  | dk h => exact .inr ⟨"dict", .base (.dK h), by decide +kernel⟩
end
theorem S_of (x : Str) : S x.cps.toList = x := by
  cases x
  simp [S]
theorem any_text {K : PySem.W.Frag} {H : Hp} (x : Str) (h : x.length ≤ 5000) (v : cdC x.cps.toList) : AnyV K H (.str x) := by
  have e := AnyV.str (K := K) (H := H) x.cps.toList (by simpa [Str.length] using h) v
  rw [S_of] at e
  exact e
theorem itms_nil {K : PySem.W.Frag} {H : Hp} : ∀ v ∈ ([] : List V), Itm K H v := fun _ m => by cases m
theorem itms_cons {K : PySem.W.Frag} {H : Hp} {x : V} {xs : List V} (h : Itm K H x) (t : ∀ v ∈ xs, Itm K H v) : ∀ v ∈ x :: xs, Itm K H v := fun v m => by
  rcases List.mem_cons.mp m with rfl | m
  · exact h
  · exact t v m
theorem itm_int {K : PySem.W.Frag} {H : Hp} (i : Int) : Itm K H (.int i) := ⟨hasInt_int i, .inl ⟨i, rfl⟩⟩
theorem itm_bl {K : PySem.W.Frag} {H : Hp} (b : Bool) : Itm K H (.bl b) := ⟨hasInt_bl b, .inr (.inl ⟨b, rfl⟩)⟩
theorem joinL_nil : ∀ (l : List Nat), TL.joinL [] (l.map fun c => [c]) = l
  | [] => rfl
  | [c] => rfl
  | c :: d :: r => by
    have ih := joinL_nil (d :: r)
    show [c] ++ ([] ++ TL.joinL [] ((d :: r).map fun c => [c])) = c :: d :: r
    rw [ih]
    rfl
theorem join_signs (l : List Nat) : Txt.join "" (l.map fun c => S [c]) = S l := by
  have h := SX.join_S [] (l.map fun c => [c])
  rw [joinL_nil, List.map_map] at h
  exact h
theorem sum_signs : ∀ (l : List Nat), ((l.map fun c => S [c]).map (·.length)).sum = l.length
  | [] => rfl
  | c :: r => by
    show (S [c]).length + ((r.map fun c => S [c]).map (·.length)).sum = r.length + 1
    rw [sum_signs r, S_len]
    show 1 + r.length = _
    omega
theorem signs_map (l : List Nat) : signsV l = (l.map fun c => S [c]).map V.str := by
  unfold signsV
  rw [List.map_map]
  rfl
theorem in_signs {l : List Nat} {v : V} (h : v ∈ signsV l) : ∃ c, c ∈ l ∧ v = .str (S [c]) := by
  obtain ⟨c, hc, e⟩ := List.mem_map.mp h
  exact ⟨c, hc, e.symm⟩
end Kx
namespace Kx
open PySem PySem.Spec PyProof.Rows L2 SX LamX
section
variable {K : PySem.W.Frag} {J : It} {n : Nat} {G : Hp → Prop} {Y : Nat → Hp → V → Hp → Prop} {g : TG} {tt : TT} {te : TE} {vs : List Nat} {σ : L2.St} {H1 : Hp} {D : Addr} {Qd : Hp → Prop}
theorem keep_some {zs : List (Option V)} {i : Nat} {v : V} (h : zs[i]? = some (some v)) : (zs.take (i + 1)).filterMap id = (zs.take i).filterMap id ++ [v] := by
  rw [List.take_add_one, h, List.filterMap_append]
  rfl
theorem keep_none {zs : List (Option V)} {i : Nat} (h : zs[i]? = some none) : (zs.take (i + 1)).filterMap id = (zs.take i).filterMap id := by
  rw [List.take_add_one, h, List.filterMap_append]
  simp
/-- a comprehension with a test, its items told ahead: none where the test fails -/
theorem lc_keep (w : Walk J n G Y) (zs : List (Option V)) (hz : zs.length = n) (nD : H1 D = none) (len : n ≤ 1000000) (hG : ∀ Hc, Same H1 Hc → G Hc)
    (turn : ∀ (i : Nat) (x : V) (z : Option V) (Hc Hx : Hp) (Q' : VK) (R' : Hp → Prop), i < n → zs[i]? = some z → Same H1 Hc → Y i Hc x Hx → (∀ v H4, z = some v → Same Hc H4 → Q' v H4) → (∀ H4, z = none → Same Hc H4 → R' H4) → g x (wipe σ vs) Hx fun σ2 H2 => wipe σ2 vs = wipe σ vs ∧ tt σ2 H2 fun b H3 => if b = true then te σ2 H3 Q' else R' H3)
    (fin : ∀ Hc, Same H1 Hc → Hc D = some (.lst (zs.filterMap id)) → Qd Hc) :
    ∃ W : Nat → Nat → Hp → Prop, (∃ m, W 0 m (upd H1 D (.lst []))) ∧ ∀ i m H, W i m H →
      (J.stop i H ∧ Qd H) ∨ (J.go i H ∧ ∃ Nx : Hp → Prop, (∀ H', Nx H' → ∃ m', m' < m ∧ W (i + 1) m' H') ∧ ∀ x H', J.yld i H x H' → g x (wipe σ vs) H' fun σ2 H2 => wipe σ2 vs = wipe σ vs ∧ tt σ2 H2 fun b H3 =>
        if b = true then te σ2 H3 fun y H4 => ∃ acc, H4 D = some (.lst acc) ∧ acc.length < sizeLine ∧ Nx (upd H4 D (.lst (acc ++ [y]))) else Nx H3) := by
  refine lc_it w (fun i Hc => Same H1 Hc ∧ Hc D = some (.lst ((zs.take i).filterMap id))) ⟨same_new nD, upd_same⟩ (fun i H _ p => hG H p.1) (fun i x Hc Hx hi p y => ?_) (fun Hc p => ?_)
  · have hzi : zs[i]? = some (zs[i]'(by omega)) := List.getElem?_eq_getElem (by omega)
    refine turn i x _ Hc Hx _ _ hi hzi p.1 y (fun v H4 ev e4 => ⟨_, e4 _ _ p.2, ?_, ?_⟩) (fun H4 ev e4 => ⟨p.1.trans e4, ?_⟩)
    · have h1 : ((zs.take i).filterMap id).length ≤ (zs.take i).length := List.length_filterMap_le ..
      rw [List.length_take] at h1
      exact Nat.lt_of_le_of_lt (show _ ≤ 1000000 by omega) (by decide)
    · refine ⟨fun b o z => ?_, ?_⟩
      · rw [upd_ne (ne_of_none z nD)]
        exact e4 _ _ (p.1 b o z)
      · rw [upd_same, keep_some (by rw [hzi, ev])]
    · rw [keep_none (by rw [hzi, ev])]
      exact e4 _ _ p.2
  · rw [← hz, List.take_length] at p
    exact fin Hc p.1 p.2
end
section
variable {K : PySem.W.Frag} {a : Addr} {xs : List V} {g : TG} {tt : TT} {te : TE} {vs : List Nat} {σ : L2.St} {H : Hp} {k : Nat} {Q : VK} {l : List Nat}
/-- [e for c in NAME if t], NAME a text -/
theorem lc_txt (zs : List (Option V)) (hz : zs.length = l.length) (hi : σ[k]? = some (some (.str (S l)))) (len : l.length ≤ 1000000)
    (turn : ∀ (i : Nat) (c : Nat) (z : Option V) (Hc : Hp) (Q' : VK) (R' : Hp → Prop), l[i]? = some c → zs[i]? = some z → Same H Hc → (∀ v H4, z = some v → Same Hc H4 → Q' v H4) → (∀ H4, z = none → Same Hc H4 → R' H4) → g (.str (S [c])) (wipe σ vs) Hc fun σ2 H2 => wipe σ2 vs = wipe σ vs ∧ tt σ2 H2 fun b H3 => if b = true then te σ2 H3 Q' else R' H3)
    (fin : ∀ (D : Addr) (Hc : Hp), Same H Hc → Hc D = some (.lst (zs.filterMap id)) → Q (.ref D) Hc) :
    tLc (iStr (tVar k)) g tt te vs σ H Q := by
  have e : (S l).cps.size = l.length := by simp [S]
  refine ⟨_, hi, S l, rfl, fun D nD => lc_keep walk_str zs (by rw [hz, e]) nD (by rw [e]; exact len) (fun _ _ => trivial) (fun i x z Hc Hx Q' R' _ hzi e1 y q r => ?_) (fin D)⟩
  obtain ⟨rfl, c, hc, rfl⟩ := y
  have hc' : l[i]? = some c := by
    have : (S l).cps[i]? = l[i]? := by simp [S]
    rw [← this]
    exact hc
  exact turn i c z _ Q' R' hc' hzi e1 q r
/-- [e for x in NAME if t], NAME a list -/
theorem lc_lstk (zs : List (Option V)) (hz : zs.length = xs.length) (hi : σ[k]? = some (some (.ref a))) (hq : SqL K H a xs) (len : xs.length ≤ 1000000)
    (turn : ∀ (i : Nat) (x : V) (z : Option V) (Hc : Hp) (Q' : VK) (R' : Hp → Prop), xs[i]? = some x → zs[i]? = some z → Same H Hc → (∀ v H4, z = some v → Same Hc H4 → Q' v H4) → (∀ H4, z = none → Same Hc H4 → R' H4) → g x (wipe σ vs) Hc fun σ2 H2 => wipe σ2 vs = wipe σ vs ∧ tt σ2 H2 fun b H3 => if b = true then te σ2 H3 Q' else R' H3)
    (fin : ∀ (D : Addr) (Hc : Hp), Same H Hc → Hc D = some (.lst (zs.filterMap id)) → Q (.ref D) Hc) :
    tLc (iList K (tVar k)) g tt te vs σ H Q := ⟨_, hi, a, rfl, ⟨_, hq⟩, fun D nD => lc_keep walk_list zs hz nD len (fun Hc e => e.seq hq) (fun i x z Hc Hx Q' R' _ hzi e y q r => by
      obtain ⟨rfl, hx⟩ := y
      exact turn i x z _ Q' R' hx hzi e q r) (fin D)⟩
end
/-- texts of one sign each, laid -/
theorem pl_signs {l : List Nat} (h : cdC l) : ∀ d ∈ l.map (fun c => PyData.str (S [c])), Pl 0 d := fun d m => by
  obtain ⟨c, hc, rfl⟩ := List.mem_map.mp m
  refine ⟨?_, Nat.le_refl _⟩
  have h2 := List.all_eq_true.mp h c hc
  show (S [c]).cps.all (· < 0x110000) = true
  simpa [S] using of_decide_eq_true h2
theorem dp_signs {K : PySem.W.Frag} {H : Hp} (l : List Nat) : Paired (fun v d => Dp K H v d) (signsV l) (l.map fun c => PyData.str (S [c])) := paired_of_map _ _ fun c _ => .str (S [c])
/-- «xs == []», any laid items -/
theorem eq_nilD {K : PySem.W.Frag} {H : Hp} {a p : Addr} {vs : List V} {ds : List PyData} {k : Nat} {Q : VK} (h1 : SqL K H a vs) (hd : Paired (fun v d => Dp K H v d) vs ds) (hp : ∀ d ∈ ds, Pl k d) (hk : k ≤ 60) (h2 : H p = some (.lst [])) (q : Q (.bl (decide (ds = []))) H) : rEqD K (.ref a) (.ref p) H Q :=
  ⟨_, _, .lst h1 (dpAll_of hd), dp_ints (xs := []) (.inl (.inl h2)), (Pl.lst hp).shaped (by omega), (pl_ints []).shaped (by decide), by
    have e : PyData.eqv (.list ds) (.list (([] : List Int).map PyData.int)) = decide (ds = []) := by
      cases ds with
      | nil => rfl
      | cons d t => rfl
    rw [e]
    exact q⟩
theorem filt_map {α β : Type} (p : α → Bool) (f : α → β) : ∀ (l : List α), (l.map fun c => if p c = true then some (f c) else none).filterMap id = (l.filter p).map f
  | [] => rfl
  | c :: l => by
    rw [List.map_cons, List.filterMap_cons]
    cases h : p c with
    | true =>
      rw [List.filter_cons_of_pos h]
      show f c :: _ = f c :: _
      rw [filt_map p f l]
    | false =>
      rw [List.filter_cons_of_neg (by rw [h]; decide)]
      exact filt_map p f l
end Kx
namespace Kx
open PySem PySem.Spec PyProof.Rows L2 SX LamX
section
variable {D : Ends} {σ : L2.St} {H : Hp}
theorem go_and {ta tb : TE} {Q : VK} (h : ta σ H fun x H1 => ∃ c, x = .bl c ∧ if c = true then tb σ H1 Q else Q (.bl false) H1) : tAndV ta tb σ H Q := h
theorem go_chain {r r' : R2} {ta tb tc : TE} {Q : VK} (h : ta σ H fun x H1 => tb σ H1 fun y H2 => r x y H2 fun z H3 => ∃ k, z = .bl k ∧ if k = true then tc σ H3 fun w' H4 => r' y w' H4 Q else Q (.bl false) H3) : tChain r r' ta tb tc σ H Q := h
theorem go_or {ta tb : TE} {Q : VK} (h : ta σ H fun x H1 => ∃ c, x = .bl c ∧ if c = true then Q (.bl true) H1 else tb σ H1 Q) : tOrV ta tb σ H Q := h
theorem go_lst {t : TA} {Q : VK} (h : t σ H fun xs H1 => xs.length ≤ sizeLine ∧ ∀ p, H1 p = none → Q (.ref p) (upd H1 p (.lst xs))) : tLst t σ H Q := h
end
/-- both, told as one truth -/
theorem and_join {c : Bool} {tb : TE} {Q : VK} {σ : L2.St} {H : Hp} (d : Bool) (h : c = true → ∀ Q' : VK, Q' (.bl d) H → tb σ H Q') (q : Q (.bl (c && d)) H) : ∃ c', V.bl c = .bl c' ∧ if c' = true then tb σ H Q else Q (.bl false) H := by
  refine ⟨c, rfl, ?_⟩
  cases c with
  | true => exact h rfl _ q
  | false => exact q
theorem and_b {c : Bool} {A B : Prop} (h1 : c = true → A) (h2 : c = false → B) : if c = true then A else B := by
  cases c with
  | true => rw [if_pos rfl]; exact h1 rfl
  | false => rw [if_neg (by decide)]; exact h2 rfl
theorem map_nil_dec {α β : Type} (f : α → β) (l : List α) [Decidable (l.map f = [])] : decide (l.map f = []) = l.isEmpty := by
  cases l with
  | nil => exact decide_eq_true rfl
  | cons a t => exact decide_eq_false (fun e => nomatch e)
theorem filt_empty (p : Nat → Bool) (l : List Nat) : (l.filter fun c => !p c).isEmpty = l.all p := by
  induction l with
  | nil => rfl
  | cons c t ih =>
    cases h : p c with
    | true =>
      rw [List.filter_cons_of_neg (by rw [h]; decide), List.all_cons, h, ih]
      rfl
    | false =>
      rw [List.filter_cons_of_pos (by rw [h]; rfl), List.all_cons, h]
      rfl
/-- one sign is the blank -/
theorem is_blank (c : Nat) : decide (V.str (S [c]) = V.str (Str.ofString " ")) = decide (c = 32) := by
  by_cases hc : c = 32
  · subst hc
    rfl
  · rw [decide_eq_false hc, decide_eq_false]
    intro e
    injection e with e
    have := congrArg (fun z : Str => z.cps.toList) e
    simp [S] at this
    exact hc (by have h2 : (Str.ofString " ").cps.toList = [32] := rfl; rw [h2] at this; simpa using this)
theorem take_succ {α : Type} {l : List α} {i : Nat} {c : α} (h : l[i]? = some c) : l.take (i + 1) = l.take i ++ [c] := by
  rw [List.take_add_one, h]
  rfl
theorem ixN_last (n : Nat) : ixN (n + 1) (-1) = some n := by
  unfold ixN
  rw [if_neg (by decide), if_pos (by omega)]
  congr 1
  omega
end Kx
namespace Kx
open PySem PySem.Spec PyProof.Rows L2 SX LamX
section
variable {X : Cx} {k : Nat} {f : Addr} {fd : FuncData} {ps : List Str} {sp : Sp} {x : Str} {p pos : Pos} {e1 : Expr} {more : List Expr} {t : TA}
/-! ### a call of a def that is promised only where no repr runs around it; it raises nothing -/
theorem pe_callG (F : FnG X.prog X.w X.K X.mg X.base CX0 k f fd ps sp) (nog : X.A.guards = some []) (room : Room k X.A) (here : Gl X x) (at_f : X.mg x = some (.ref f)) (keeps : PySem.W.keepIn X.K (.ref f) = true) (bd : Binds X.K fd ps [])
    (args : PA X (e1 :: more) t) (nd : (x == ("__debug__" : Str)) = false := by decide) (h1 : starEach (e1 :: more) X.env = (false, eval e1 X.env) :: starEach more X.env := by rfl) (h2 : (backTo pos (starEach more X.env)).any (·.1) = false := by rfl) :
    PE X (.Call (.Name x p) (e1 :: more) [] pos) (tCall sp [] C8.E0 t) := by
  constructor
  intro pins s σ H Q I want
  apply wpAny_Call_Name_kw
  refine ld_glob I here at_f ?_ nd
  refine PySem.W.callWith_K (h₀ := X.base) I.ok.mod.kin keeps (thn (args.run pos pins s σ H _ I want) fun us st hh => ?_) h1 h2
  obtain ⟨vs, Hm, J, rv, promise⟩ := hh
  rw [List.append_nil] at promise
  have size : (us ++ []).length = ps.length := by
    rw [List.append_nil, ← rv.length]
    exact F.len _ _ _ _ promise
  have bound := bd st us J.kIn size
  rw [List.append_nil] at bound
  refine ⟨J.kIn, wpAny_call (codeAny_mono (F.go X.A X.stack st Hm ⟨us, []⟩ us vs Q C8.E0 nog room J.env0 bound rv promise) fun r st2 done => ?_)⟩
  match r, done with
  | .ok (.ret u), done => exact J.after done
  | .error e, done => exact (show False from done).elim
  | .ok .next, done => exact done.elim
  | .ok .brk, done => exact done.elim
  | .ok .cont, done => exact done.elim
end
/-! ### tables stay through draws -/
theorem Tabs.mv {T : List (Addr × Str)} {a c : Addr} {n : Nat} {H H' : Hp} (t : Tabs T H) (w : Wh H a c n) (m : Mv a H H') : Tabs T H' := fun p hp => by
  obtain ⟨ps, h1, h2, h3⟩ := t p hp
  obtain ⟨cs, x, l', g1, _⟩ := w
  refine ⟨ps, m _ _ (ne_of_two h1 g1 (fun z => by cases z)) h1, h2, fun pos cv hc => ?_⟩
  obtain ⟨c', e1, e2⟩ := h3 pos cv hc
  exact ⟨c', e1, m _ _ (ne_of_two e2 g1 (fun z => by cases z)) e2⟩
theorem Tabs.same {T : List (Addr × Str)} {H H' : Hp} (t : Tabs T H) (m : Same H H') : Tabs T H' := fun p hp => (t p hp).ext m
end Kx
namespace Kx
open PySem PySem.Spec PyProof.Rows L2 SX LamX
/-! ### data that repr shows -/
structure Sh (k m : Nat) (d : PyData) : Prop where
  sh : d.showable = true
  nd : d.hasDict = false
  dp : d.depth ≤ k
  lv : d.leavesShort 13 = true
  bk : d.bulk ≤ m
theorem Sh.len {k m : Nat} {d : PyData} (h : Sh k m d) (hm : m ≤ 1048576) : d.shown.length ≤ sizeLine :=
  PyData.shown_fits_bulk (B := 13) (by decide) (by decide) h.lv (Nat.le_trans h.bk hm)
theorem Sh.up {k l m n : Nat} {d : PyData} (h : Sh k m d) (hk : k ≤ l) (hm : m ≤ n) : Sh l n d := ⟨h.sh, h.nd, Nat.le_trans h.dp hk, h.lv, Nat.le_trans h.bk hm⟩
theorem sh_bool (b : Bool) : Sh 0 0 (.bool b) := ⟨rfl, rfl, Nat.le_refl _, rfl, Nat.le_refl _⟩
theorem sh_none : Sh 0 0 .none := ⟨rfl, rfl, Nat.le_refl _, rfl, Nat.le_refl _⟩
theorem sh_int {i : Int} (h : i.natAbs < 1000000000000) : Sh 0 0 (.int i) :=
  ⟨by
    simp only [PyData.showable, decide_eq_true_eq]
    by_cases z : i.natAbs = 0
    · rw [z]; decide
    · exact Nat.lt_of_lt_of_le ((Nat.log2_lt z).mpr (Nat.lt_of_lt_of_le h (by decide : 1000000000000 ≤ 2 ^ 40))) (by decide), rfl, Nat.le_refl _, by simp only [PyData.leavesShort, decide_eq_true_eq]; exact PyData.shown_int_le (by exact h), Nat.le_refl _⟩
theorem sh_str {x : Str} {l : List Nat} (e : x = S l) (h : cdC l) : Sh 0 l.length (.str x) :=
  ⟨rfl, rfl, Nat.le_refl _, by
    subst e
    simp only [PyData.leavesShort, List.all_eq_true, decide_eq_true_eq]
    intro c hc
    have h2 := List.all_eq_true.mp h c (by simpa [S] using hc)
    have h3 := of_decide_eq_true h2
    exact Nat.lt_of_lt_of_le h3 (by decide), by
    subst e
    simp [PyData.bulk, S]⟩
/-- items that are shown, m: their signs and one each -/
inductive ShA (k : Nat) : Nat → List PyData → Prop
  | nil : ShA k 0 []
  | cons {m n : Nat} {d : PyData} {ds : List PyData} : Sh k m d → ShA k n ds → ShA k (m + 1 + n) (d :: ds)
theorem ShA.all {k m : Nat} {ds : List PyData} (h : ShA k m ds) : PyData.showableAll ds = true ∧ PyData.hasDictAll ds = false ∧ PyData.depthAll ds ≤ k ∧ PyData.leavesShortAll 13 ds = true ∧ PyData.bulkAll ds ≤ m := by
  induction h with
  | nil => exact ⟨rfl, rfl, Nat.zero_le _, rfl, Nat.le_refl _⟩
  | cons h1 _ ih =>
    obtain ⟨a, b, c, d, e⟩ := ih
    refine ⟨?_, ?_, ?_, ?_, ?_⟩
    · simp only [PyData.showableAll, h1.sh, a, Bool.and_self]
    · simp only [PyData.hasDictAll, h1.nd, b, Bool.or_self]
    · simp only [PyData.depthAll]
      exact Nat.max_le.mpr ⟨h1.dp, c⟩
    · simp only [PyData.leavesShortAll, h1.lv, d, Bool.and_self]
    · simp only [PyData.bulkAll]
      have := h1.bk
      omega
theorem ShA.lst {k m : Nat} {ds : List PyData} (h : ShA k m ds) : Sh (k + 1) m (.list ds) := by
  obtain ⟨a, b, c, d, e⟩ := h.all
  exact ⟨by simp only [PyData.showable, a], by simp only [PyData.hasDict, b], by simp only [PyData.depth]; omega, by simp only [PyData.leavesShort, d], by simp only [PyData.bulk]; exact e⟩
theorem ShA.tup {k m : Nat} {ds : List PyData} (h : ShA k m ds) : Sh (k + 1) m (.tuple ds) := by
  obtain ⟨a, b, c, d, e⟩ := h.all
  exact ⟨by simp only [PyData.showable, a], by simp only [PyData.hasDict, b], by simp only [PyData.depth]; omega, by simp only [PyData.leavesShort, d], by simp only [PyData.bulk]; exact e⟩
theorem shA_ints {k : Nat} : ∀ (l : List Int), (∀ i ∈ l, i.natAbs < 1000000000000) → ShA k l.length (l.map PyData.int)
  | [], _ => .nil
  | i :: r, h => by
    have := ShA.cons ((sh_int (h i List.mem_cons_self)).up (Nat.zero_le k) (Nat.le_refl _)) (shA_ints r fun j m => h j (List.mem_cons_of_mem _ m))
    have e : 0 + 1 + r.length = (i :: r).length := by rw [List.length_cons]; omega
    rw [e] at this
    exact this
theorem shA_texts {k : Nat} : ∀ (xs : List (List Nat)), (∀ x ∈ xs, cdC x) → ShA k (reachA 0 xs) (xs.map fun x => PyData.str (S x))
  | [], _ => .nil
  | x :: r, h => by
    have := ShA.cons ((sh_str rfl (h x List.mem_cons_self)).up (Nat.zero_le k) (Nat.le_refl _)) (shA_texts r fun y m => h y (List.mem_cons_of_mem _ m))
    have e : ∀ (r : List (List Nat)) (p : Nat), reachA p r = p + reachA 0 r := fun r => by
      induction r with
      | nil => intro p; rfl
      | cons y r ih =>
        intro p
        show reachA (p + y.length + 1) r = p + reachA (0 + y.length + 1) r
        rw [ih, ih (0 + y.length + 1)]
        omega
    have e2 : x.length + 1 + reachA 0 r = reachA 0 (x :: r) := by
      show _ = reachA (0 + x.length + 1) r
      rw [e r (0 + x.length + 1)]
      omega
    rw [e2] at this
    exact this
theorem item_cd : ∀ (l acc it : List Nat), it ∈ itemsA acc l → ∀ c ∈ it, c ∈ acc ∨ c ∈ l
  | [], acc, it, h, c, hc => by
    rw [List.mem_singleton.mp h] at hc
    exact .inl hc
  | d :: r, acc, it, h, c, hc => by
    have h : it ∈ (if d = 32 then acc :: itemsA [] r else itemsA (acc ++ [d]) r) := h
    by_cases e : d = 32
    · rw [if_pos e] at h
      rcases List.mem_cons.mp h with rfl | h
      · exact .inl hc
      · rcases item_cd r [] it h c hc with z | z
        · cases z
        · exact .inr (List.mem_cons_of_mem _ z)
    · rw [if_neg e] at h
      rcases item_cd r _ it h c hc with z | z
      · rcases List.mem_append.mp z with z | z
        · exact .inl z
        · rw [List.mem_singleton.mp z]
          exact .inr List.mem_cons_self
      · exact .inr (List.mem_cons_of_mem _ z)
theorem begins_le : ∀ (xs : List (List Nat)) (p : Nat), ∀ b ∈ beginsA p xs, b ≤ reachA p xs
  | [], p, b, h => by cases h
  | x :: xs, p, b, h => by
    have r : ∀ (xs : List (List Nat)) (p : Nat), p ≤ reachA p xs := fun xs => by
      induction xs with
      | nil => exact fun p => Nat.le_refl _
      | cons y ys ih =>
        intro p
        show p ≤ reachA (p + y.length + 1) ys
        exact Nat.le_trans (by omega) (ih _)
    show b ≤ reachA (p + x.length + 1) xs
    rcases List.mem_cons.mp h with rfl | h
    · exact Nat.le_trans (by omega) (r xs _)
    · exact begins_le xs _ b h
/-- repr of data -/
theorem go_repr {K : PySem.W.Frag} {a : Addr} {d : PyData} {k m : Nat} {H : Hp} {Q : VK} (hd : Dp K H (.ref a) d) (h : Sh k m d) (hk : k ≤ 60) (hm : m ≤ 1048576) (q : Q (.str d.shown) H) : rRepr K [.ref a] H Q :=
  ⟨a, d, rfl, hd, h.sh, h.nd, Nat.le_trans h.dp hk, h.len hm, q⟩
/-- one and the same text is no other -/
theorem rne_self {x : Str} {H : Hp} {Q : Bool → Hp → Prop} (q : Q false H) : ∃ k, V.bl (!decide (V.str x = V.str x)) = .bl k ∧ Q k H := ⟨false, by simp, q⟩
theorem bools_dp {K : PySem.W.Frag} {H : Hp} {p : Addr} {bs : List Bool} (h : H p = some (.lst (bs.map V.bl))) : Dp K H (.ref p) (.list (bs.map PyData.bool)) := .lst (.inl (.inl h)) (by
  clear h
  induction bs with
  | nil => exact .nil
  | cons b t ih => exact .cons (.bl b) ih)
theorem shA_bools {k : Nat} : ∀ (l : List Bool), ShA k l.length (l.map PyData.bool)
  | [] => .nil
  | i :: r => by
    have := ShA.cons ((sh_bool i).up (Nat.zero_le k) (Nat.le_refl _)) (shA_bools r)
    have e : 0 + 1 + r.length = (i :: r).length := by rw [List.length_cons]; omega
    rw [e] at this
    exact this
theorem cnt_count : ∀ (l : List Nat), cnt 32 l = (l.count 32 : Nat)
  | [] => rfl
  | c :: r => by
    rw [cnt_cons, cnt_count r]
    by_cases h : c = 32
    · subst h
      rw [List.count_cons_self]
      simp
      omega
    · rw [List.count_cons_of_ne h]
      simp [h]
theorem count_blank (l : List Nat) : Txt.count (S l) " " = (l.count 32 : Nat) := by
  have h := count_cnt (S l) 32
  have e : (" " : Str) = ⟨#[32]⟩ := rfl
  rw [e, h]
  have e2 : (S l).cps.toList = l := by simp [S]
  rw [e2, cnt_count]
end Kx
namespace Kx
open PySem PySem.Spec PyProof.Rows L2 SX LamX
/-- no positional value, one by name -/
def oneG {α : Type} (us ws : List α) : List α := match us, ws with | [], [u] => [u] | _, _ => []
theorem kb_one {K : PySem.W.Frag} {x qual : Str} {st : Stmt} {f : Addr} {fd : FuncData} {a : Str} (F : Fun K x qual st f fd)
    (h : ∀ (kV doc pm : Value) (an : Option Addr) (cdv ct : Value) (u : Value), bindArgs (PySem.W.fnOf x qual (defArgs st) (defBody st) (defScope st) .none kV doc pm an cdv ct) ⟨[], [(a, u)]⟩ = pure [(a, u)]) :
    KBinds K fd [a] [a] oneG oneG := by
  obtain ⟨oc, od, kV, doc, pm, an, cdv, ct, osl, rfl, lk, hcd⟩ := F.ex
  refine ⟨fun s us ws X l => ?_, fun {vs us zs ws} r1 r2 => ?_⟩
  · match us, ws, l with
    | [], [u], _ => exact .of_eq (h kV doc pm an cdv ct u)
    | [], [], l => cases l
    | [], _ :: _ :: _, l => cases l
    | _ :: _, _, l => cases l
  · cases r1 with
    | cons _ _ => exact .nil
    | nil =>
      cases r2 with
      | nil => exact .nil
      | cons h1 r2 =>
        cases r2 with
        | nil => exact .cons h1 .nil
        | cons _ _ => exact .nil
/-- no positional value, three by name: c, a, b for a, b, c -/
def turnG {α : Type} (us ws : List α) : List α := match us, ws with | [], [c, a, b] => [a, b, c] | _, _ => []
theorem kb_turn {K : PySem.W.Frag} {x qual : Str} {st : Stmt} {f : Addr} {fd : FuncData} {a b c : Str} (F : Fun K x qual st f fd)
    (h : ∀ (kV doc pm : Value) (an : Option Addr) (cdv ct : Value) (u v w : Value), bindArgs (PySem.W.fnOf x qual (defArgs st) (defBody st) (defScope st) .none kV doc pm an cdv ct) ⟨[], [(c, w), (a, u), (b, v)]⟩ = pure [(a, u), (b, v), (c, w)]) :
    KBinds K fd [a, b, c] [c, a, b] turnG turnG := by
  obtain ⟨oc, od, kV, doc, pm, an, cdv, ct, osl, rfl, lk, hcd⟩ := F.ex
  refine ⟨fun s us ws X l => ?_, fun {vs us zs ws} r1 r2 => ?_⟩
  · match us, ws, l with
    | [], [w, u, v], _ => exact .of_eq (h kV doc pm an cdv ct u v w)
    | [], [], l => cases l
    | [], [_], l => cases l
    | [], [_, _], l => cases l
    | [], _ :: _ :: _ :: _ :: _, l => cases l
    | _ :: _, _, l => cases l
  · cases r1 with
    | cons _ _ => exact .nil
    | nil =>
      cases r2 with
      | nil => exact .nil
      | cons h1 r2 =>
        cases r2 with
        | nil => exact .nil
        | cons h2 r2 =>
          cases r2 with
          | nil => exact .nil
          | cons h3 r2 =>
            cases r2 with
            | nil => exact .cons h2 (.cons h3 (.cons h1 .nil))
            | cons _ _ => exact .nil
end Kx
namespace Kx
open PySem PySem.Spec PyProof.Rows L2 SX LamX
theorem go_nil {σ : L2.St} {H : Hp} {Q : List V → Hp → Prop} (h : Q [] H) : tNil σ H Q := h
theorem go_var {σ : L2.St} {H : Hp} {i : Nat} {v : V} {Q : VK} (e : σ[i]? = some (some v)) (h : Q v H) : tVar i σ H Q := ⟨v, e, h⟩
theorem go_or2 {ta tb : TT} {σ : L2.St} {H : Hp} {Q : Bool → Hp → Prop} (h : ta σ H fun b H1 => if b = true then Q true H1 else tb σ H1 Q) : tOr ta tb σ H Q := h
theorem go_not {ta : TT} {σ : L2.St} {H : Hp} {Q : Bool → Hp → Prop} (h : ta σ H fun b H1 => Q (!b) H1) : tNot ta σ H Q := h
theorem go_b {te : TE} {σ : L2.St} {H : Hp} {Q : Bool → Hp → Prop} (h : te σ H fun x H1 => ∃ c, x = .bl c ∧ Q c H1) : tB te σ H Q := h
end Kx
namespace Kx
open PySem PySem.Spec PyProof.Rows L2 SX LamX
theorem ext_at {H H' : Hp} {b : Addr} {o : HO} (e : ExtN H H') (h : H b = some o) (n : ∀ ps, o ≠ .tbl ps := by intro ps z; cases z) : H' b = some o := e b o h n
theorem tyx_ext {K : PySem.W.Frag} {H H' : Hp} {x : V} {n : String} (e : ExtN H H') (h : TyX K H x (.type n)) : TyX K H' x (.type n) := by
  cases h with
  | base b =>
    cases b with
    | non => exact .base .non
    | bl y => exact .base (.bl y)
    | int i => exact .base (.int i)
    | str z => exact .base (.str z)
    | flt z => exact .base (.flt z)
    | lst h => exact .base (.lst (ext_at e h))
    | frz h => exact .base (.frz (ext_at e h))
    | tup h => exact .base (.tup (ext_at e h))
    | dK h => exact .base (.dK (ext_at e h))
    | dT h => exact .base (.dT (ext_at e h))
  | byt b => exact .byt b
  | set h => exact .set (ext_at e h)
  | kList h c => exact .kList h c
  | kTuple h c => exact .kTuple h c
  | kDict h c => exact .kDict h c
  | fTuple h => exact .fTuple (ext_at e h)
  | fDict h => exact .fDict (ext_at e h)
theorem sqL_ext {K : PySem.W.Frag} {H H' : Hp} {a : Addr} {xs : List V} (e : ExtN H H') (h : SqL K H a xs) : SqL K H' a xs := by
  rcases h with (h | ⟨o, h⟩) | h
  · exact .inl (.inl (ext_at e h))
  · exact .inl (.inr ⟨o, ext_at e h⟩)
  · exact .inr h
theorem sqT_ext {K : PySem.W.Frag} {H H' : Hp} {a : Addr} {xs : List V} (e : ExtN H H') (h : SqT K H a xs) : SqT K H' a xs := by
  rcases h with (h | ⟨o, h⟩) | h
  · exact .inl (.inl (ext_at e h))
  · exact .inl (.inr ⟨o, ext_at e h⟩)
  · exact .inr h
/-- ["text", "text"] == ["text", "text"] -/
theorem eq_data {K : PySem.W.Frag} {H : Hp} {a b : Addr} {d e : PyData} {Q : VK} (h1 : Dp K H (.ref a) d) (h2 : Dp K H (.ref b) e) (s1 : SeqAt.shaped d = true) (s2 : SeqAt.shaped e = true) (q : Q (.bl (PyData.eqv d e)) H) : rEqD K (.ref a) (.ref b) H Q :=
  ⟨d, e, h1, h2, s1, s2, q⟩
end Kx
namespace Kx
open PySem PySem.Spec PyProof.Rows L2 SX LamX
theorem reachA_add : ∀ (r : List (List Nat)) (p : Nat), reachA p r = p + reachA 0 r
  | [], p => rfl
  | y :: r, p => by
    show reachA (p + y.length + 1) r = p + reachA (0 + y.length + 1) r
    rw [reachA_add r, reachA_add r (0 + y.length + 1)]
    omega
theorem sum_texts : ∀ xs : List (List Nat), ((xs.map S).map (·.length)).sum + xs.length = reachA 0 xs
  | [] => rfl
  | x :: r => by
    have e : reachA 0 (x :: r) = x.length + 1 + reachA 0 r := by
      show reachA (0 + x.length + 1) r = _
      rw [reachA_add]
      omega
    rw [e, ← sum_texts r]
    simp only [List.map_cons, List.sum_cons, List.length_cons, S_len]
    omega
end Kx
namespace Kx
open PySem PySem.Spec PyProof.Rows L2 SX LamX
theorem S_inj {a b : Str} (h : a.cps.toList = b.cps.toList) : a = b := by
  cases a with
  | mk a =>
    cases b with
    | mk b =>
      have : a = b := Array.toList_inj.mp h
      rw [this]
theorem fold_arr (a : Array Nat) : ∀ (n : Nat) (acc : Array Nat), ((List.replicate n a).foldl (· ++ ·) acc).toList = acc.toList ++ (List.replicate n a.toList).flatten
  | 0, acc => by simp
  | n + 1, acc => by
    rw [List.replicate_succ, List.foldl_cons, fold_arr a n, List.replicate_succ, List.flatten_cons, Array.toList_append, List.append_assoc]
theorem mul_S (l : List Nat) (n : Nat) : Txt.mul (S l) n = S ((List.replicate n l).flatten) := by
  refine S_inj ?_
  have e0 : ∀ m : List Nat, (S m).cps.toList = m := fun m => by simp [S]
  rw [e0]
  unfold Txt.mul
  by_cases h1 : (n : Int) < 1
  · rw [if_pos h1]
    have : n = 0 := by omega
    subst this
    rfl
  · rw [if_neg h1]
    by_cases h2 : ((n : Int) == 1 || (S l).length == 0) = true
    · rw [if_pos h2, e0]
      simp only [Bool.or_eq_true, beq_iff_eq] at h2
      rcases h2 with h2 | h2
      · have : n = 1 := by omega
        subst this
        simp
      · rw [S_len] at h2
        cases l with
        | nil => simp
        | cons _ _ => simp at h2
    · rw [if_neg h2]
      show ((List.replicate (n : Int).toNat (S l).cps).foldl (· ++ ·) #[]).toList = _
      rw [fold_arr, Int.toNat_natCast, e0]
      simp
section
variable {X : Cx}
/-- a text times an int -/
def rRepS : R2 := fun x y H Q => ∃ (l : List Nat) (n : Nat), x = .str (S l) ∧ y = .int n ∧ l.length ≤ 16 ∧ n ≤ 1048576 ∧ Q (.str (S ((List.replicate n l).flatten))) H
theorem op_repS : OpR X (binaryOp .Mult) rRepS := by
  intro pins s σ H x y v u Q I rx ry h
  obtain ⟨l, n, rfl, rfl, h1, h2, q⟩ := h
  obtain ⟨t, rfl⟩ := rx
  obtain ⟨t', rfl⟩ := ry
  refine PySem.W.KXi.mul (n := l.length) (S_len l) h1 (by omega) (by omega) (fun t2 tk _ _ => ⟨.str _, H, I.tok _, ⟨_, rfl⟩, ?_⟩)
  rw [mul_S]
  exact q
end
end Kx
namespace Kx
open PySem PySem.Spec PyProof.Rows L2 SX LamX
section
variable {X : Cx}
/-- a list of whatever values == [] -/
def rEqE : R2 := fun x y H Q => ∃ (a b : Addr) (xs : List V), x = .ref a ∧ y = .ref b ∧ H a = some (.lst xs) ∧ H b = some (.lst []) ∧ Q (.bl xs.isEmpty) H
theorem op_eqE (hu : X.A.units + 64 < cLine) : OpR X (compareOp .Eq) rEqE := by
  intro pins s σ H x y v u Q I rx ry h
  obtain ⟨a, b, xs, rfl, rfl, ha, hb, q⟩ := h
  cases rx
  cases ry
  obtain ⟨z, its, n, r, hl, e⟩ := I.lstM ha
  obtain ⟨z2, its2, n2, r2, hl2, e2⟩ := I.lstM hb
  have l2 : its2 = [] := by
    cases its2 with
    | nil => rfl
    | cons _ _ => simp at hl2
  subst l2
  cases xs with
  | nil =>
    have l1 : its = [] := by
      cases its with
      | nil => rfl
      | cons _ _ => simp at hl
    subst l1
    exact P.eq_list (e := fun _ => true) e e2 rfl (fun j h1 _ => absurd h1 (Nat.not_lt_zero j)) (by omega) ⟨.bl true, H, I, rfl, q⟩
  | cons x r' =>
    exact P.eq_list_lengths e e2 (by
      simp only [List.size_toArray, List.length_nil]
      rw [← hl]
      simp) (by omega) ⟨.bl false, H, I, rfl, q⟩
end
end Kx
namespace Kx
open PySem PySem.Spec PyProof.Rows L2 SX LamX
section
variable {K : PySem.W.Frag} {a : Addr} {xs : List V} {g : TG} {tt : TT} {te : TE} {vs : List Nat} {σ : L2.St} {H : Hp} {k : Nat} {Q : VK}
/-- [e for x in NAME if t], NAME a tuple -/
theorem lc_tupk (zs : List (Option V)) (hz : zs.length = xs.length) (hi : σ[k]? = some (some (.ref a))) (hq : SqT K H a xs) (len : xs.length ≤ 1000000)
    (turn : ∀ (i : Nat) (x : V) (z : Option V) (Hc : Hp) (Q' : VK) (R' : Hp → Prop), xs[i]? = some x → zs[i]? = some z → Same H Hc → (∀ v H4, z = some v → Same Hc H4 → Q' v H4) → (∀ H4, z = none → Same Hc H4 → R' H4) → g x (wipe σ vs) Hc fun σ2 H2 => wipe σ2 vs = wipe σ vs ∧ tt σ2 H2 fun b H3 => if b = true then te σ2 H3 Q' else R' H3)
    (fin : ∀ (D : Addr) (Hc : Hp), Same H Hc → Hc D = some (.lst (zs.filterMap id)) → Q (.ref D) Hc) :
    tLc (iTup K (tVar k)) g tt te vs σ H Q := ⟨_, hi, a, rfl, ⟨_, hq⟩, fun D nD => lc_keep walk_tup zs hz nD len (fun Hc e => Same.t e hq) (fun i x z Hc Hx Q' R' _ hzi e y q r => by
      obtain ⟨rfl, hx⟩ := y
      exact turn i x z _ Q' R' hx hzi e q r) (fin D)⟩
theorem lc_or {I J : TI} (h : tLc I g tt te vs σ H Q ∨ tLc J g tt te vs σ H Q) : tLc (fun σ H R => I σ H R ∨ J σ H R) g tt te vs σ H Q := h
/-- .. a list or a tuple -/
theorem lc_seqk (zs : List (Option V)) (hz : zs.length = xs.length) (hi : σ[k]? = some (some (.ref a))) (hq : SqQ K H a xs) (len : xs.length ≤ 1000000)
    (turn : ∀ (i : Nat) (x : V) (z : Option V) (Hc : Hp) (Q' : VK) (R' : Hp → Prop), xs[i]? = some x → zs[i]? = some z → Same H Hc → (∀ v H4, z = some v → Same Hc H4 → Q' v H4) → (∀ H4, z = none → Same Hc H4 → R' H4) → g x (wipe σ vs) Hc fun σ2 H2 => wipe σ2 vs = wipe σ vs ∧ tt σ2 H2 fun b H3 => if b = true then te σ2 H3 Q' else R' H3)
    (fin : ∀ (D : Addr) (Hc : Hp), Same H Hc → Hc D = some (.lst (zs.filterMap id)) → Q (.ref D) Hc) :
    tLc (fun σ H R => iList K (tVar k) σ H R ∨ iTup K (tVar k) σ H R) g tt te vs σ H Q :=
  lc_or (hq.imp (fun h => lc_lstk zs hz hi h len turn fin) (fun h => lc_tupk zs hz hi h len turn fin))
end
theorem filt_none {α : Type} (p : α → Bool) : ∀ (l : List α), ((l.map fun x => if p x = true then some x else none).filterMap id).isEmpty = l.all fun x => !p x
  | [] => rfl
  | x :: r => by
    cases h : p x with
    | true =>
      simp only [List.map_cons, h, if_true, List.filterMap_cons, id, List.all_cons, Bool.not_true, Bool.false_and]
      rfl
    | false =>
      have := filt_none p r
      simp only [List.map_cons, h, Bool.false_eq_true, if_false, List.filterMap_cons, id, List.all_cons, Bool.not_false, Bool.true_and]
      exact this
theorem core_same {a : Addr} {H H' : Hp} (e : Same (core a H) H') (h : ∀ b o, core a H b = some o → b ≠ a) : Same (core a H) (core a H') := fun b o k => core_at (e b o k) (h b o k) (of_core k).2.2
theorem core_core {a : Addr} {H0 H : Hp} (e : Same (core a H0) H) : Same (core a H0) (core a H) := fun b o k => core_at (e b o k) (of_core k).1 (of_core k).2.2
theorem go_par {i j : Nat} {t : TA} {D : Ends} {σ : L2.St} {H : Hp} (h : tPar i j t D σ H) : tPar i j t D σ H := h
end Kx
namespace Kx
open PySem PySem.Spec PyProof.Rows L2 SX LamX
section
variable {K : PySem.W.Frag} {σ : L2.St} {H : Hp} {ta tb : TE} {k m : Nat}
/-- repr(x) != repr(y), of one and the same data -/
theorem nerepr_t (d : PyData) (hd : Sh k m d) (hk : k ≤ 60) (hm : m ≤ 1048576) {Q : Bool → Hp → Prop}
    (ha : ∀ Q : VK, (∀ a H', Same H H' → Dp K H' (.ref a) d → Q (.ref a) H') → ta σ H Q)
    (hb : ∀ H0, Same H H0 → ∀ Q : VK, (∀ b H', Same H0 H' → Dp K H' (.ref b) d → Q (.ref b) H') → tb σ H0 Q)
    (h : ∀ H', Same H H' → Q false H') : tTest (tOp rNe (tCB (rRepr K) (tCons ta tNil)) (tCB (rRepr K) (tCons tb tNil))) σ H Q := by
  refine go_test (go_op (go_cb (go_cons (ha _ fun a H1 e1 h1 => go_nil (go_repr h1 hd hk hm (go_cb (go_cons (hb H1 e1 _ fun b H2 e2 h2 => go_nil (go_repr h2 hd hk hm ⟨rfl, false, ?_, h H2 (e1.trans e2)⟩)))))))))
  rw [ne_self]
theorem nerepr_if (d : PyData) (hd : Sh k m d) (hk : k ≤ 60) (hm : m ≤ 1048576) {D : Ends} {t u : TS}
    (ha : ∀ Q : VK, (∀ a H', Same H H' → Dp K H' (.ref a) d → Q (.ref a) H') → ta σ H Q)
    (hb : ∀ H0, Same H H0 → ∀ Q : VK, (∀ b H', Same H0 H' → Dp K H' (.ref b) d → Q (.ref b) H') → tb σ H0 Q)
    (h : ∀ H', Same H H' → u D σ H') : tIfS (tTest (tOp rNe (tCB (rRepr K) (tCons ta tNil)) (tCB (rRepr K) (tCons tb tNil)))) t u D σ H :=
  go_if (nerepr_t d hd hk hm ha hb fun H' e => iteF (A := _) (h H' e))
end
theorem sh_bb (b c : Bool) : Sh 1 2 (.list [.bool b, .bool c]) := (shA_bools (k := 0) [b, c]).lst
theorem dp_bc {K : PySem.W.Frag} {H : Hp} {p : Addr} {b c : Bool} (h : H p = some (.lst [.bl b, .bl c])) : Dp K H (.ref p) (.list [.bool b, .bool c]) := .lst (.inl (.inl h)) (.cons (.bl b) (.cons (.bl c) .nil))
end Kx
namespace Kx
open PySem PySem.Spec PyProof.Rows L2 SX LamX
theorem go_c {v : V} {σ : L2.St} {H : Hp} {Q : VK} (h : Q v H) : tC v σ H Q := h
theorem core_sub {a : Addr} {H : Hp} : Same (core a H) H := fun b o h => (of_core h).2.1
theorem core_mvO {a : Addr} {H0 H H' : Hp} (e : Same (core a H0) H) (m : Mv a H H') : Same (core a H0) H' := fun b o h => m b o (of_core h).1 (e b o h)
theorem sz5 : 5 ≤ sizeLine := by decide
theorem rep_flat (n x : Nat) : (List.replicate n [x]).flatten = List.replicate n x := by
  induction n with
  | zero => rfl
  | succ j ih => rw [List.replicate_succ, List.flatten_cons, ih, List.replicate_succ]; rfl
theorem rep_len (n : Nat) (l : List Nat) : ((List.replicate n l).flatten).length = n * l.length := by
  induction n with
  | zero => simp
  | succ j ih => rw [List.replicate_succ, List.flatten_cons, List.length_append, ih, Nat.succ_mul, Nat.add_comm]
theorem rep_mem {n : Nat} {l : List Nat} {i : Nat} (h : i ∈ (List.replicate n l).flatten) : i ∈ l := by
  obtain ⟨m, hm, hi⟩ := List.mem_flatten.mp h
  rw [List.eq_of_mem_replicate hm] at hi
  exact hi
end Kx
namespace Kx
open PySem PySem.Spec PyProof.Rows L2 SX LamX
section
variable {M : Model} {prog : Program} {w : World} {A : Around} {E : Value → Shared → Prop} {s : Shared} {K : PySem.W.Frag} {x C f : Addr} {ox : Obj} {od : Option Obj} {y : Value}
theorem objNe (X : K.In s.heap) (I : PySem.W.InstAt s.heap x ox C od) (hu : A.units < cLine) (hs : PySem.W.findIn K (.ref C) "__eq__" = some (some (.ref f))) (hf : PySem.W.isFn K (.ref f) = true) {Q : Fin → Shared → Prop}
    (hcall : wpAny (model prog w) A (call (.ref f) [.ref x, y]) (fun v s' => ∃ b, v = .bool b ∧ Q (.done (.ret (.bool (!b)))) s') E s) : wpAny (model prog w) A (Builtin.«object.__ne__» ⟨[.ref x, y], []⟩) Q E s := by
  unfold Builtin.«object.__ne__»
  repeat (first
    | with_reducible refine wpAny_cRoomFor hu ?_
    | (refine wpAny_bind (m := callSpecialIfBound? (.ref x) (Str.ofString "__eq__") [y])
        (PySem.W.ifBound_K X I hs hf (wpAny_mono hcall (fun r s' hr => by
          obtain ⟨b, rfl, hq⟩ := hr
          repeat (first | exact hq | exact wpAny_pure hq | exact wpAny_truthy_bool hq | (refine wpAny_bind (m := truthy (.bool _)) (wpAny_truthy_bool ?_)) | wp_step)) fun _ _ e => e)))
    | wp_step)
theorem call_ne {Q : Value → Shared → Prop} (X : K.In s.heap) (I : PySem.W.InstAt s.heap x ox C od) (hu : A.in1.units < cLine) (hm : PySem.W.mroIn K C (.type "object") = some true) (hs : PySem.W.findIn K (.ref C) "__eq__" = some (some (.ref f))) (hf : PySem.W.isFn K (.ref f) = true)
    (hcall : wpAny (model prog w) A.in1 (call (.ref f) [.ref x, y]) (fun v s' => ∃ b, v = .bool b ∧ Q (.bool (!b)) s') E s) : wpAny (model prog w) A (call (.builtin "object.__ne__") [.ref x, y]) Q E s :=
  wpAny_call (codeAny_call_builtin F.cmp_object.ne.plain F.cmpEntry_ne (PySem.W.check_slot F.cmpKind_ne F.cmpSplit_ne (I.type.andThen (PySem.W.looks_mroIn X hm)) (F.cmpArgs_ne _ _) (objNe X I hu hs hf hcall)))
theorem ifBound_objNe {args : List Value} {Q : Option Value → Shared → Prop} (X : K.In s.heap) (I : PySem.W.InstAt s.heap x ox C od) (hs : PySem.W.findIn K (.ref C) "__ne__" = some (some (.builtin "object.__ne__")))
    (h : wpAny M A (call (.builtin "object.__ne__") (.ref x :: args)) (fun v => Q (some v)) E s) : wpAny M A (callSpecialIfBound? (.ref x) "__ne__" args) Q E s := by
  simp only [callSpecialIfBound?, bindSpecialIfBound?]
  refine wpAny_holding (wpAny_bind (wpAny_bind (wpAny_bind (I.type.here ((PySem.W.looks_findIn X hs).here ?_)))))
  refine wpAny_bind (wpAny_askSetting (wpAny_ite ?_))
  have fin : wpAny M A (call (.builtin "object.__ne__") ([.ref x] ++ args) >>= fun v => pure (some v)) Q E s := wpAny_bind (wpAny_mono h (fun v s' h' => wpAny_pure h') fun _ _ h' => h')
  split
  · exact wpAny_bind (wpAny_of_eq (F.cmp_object.ne.bind _) (wpAny_pure (by exact fin)))
  · exact wpAny_tryCatch (wpAny_bind (wpAny_of_eq (F.cmp_object.ne.bind _) (wpAny_pure (by exact fin))))
/-- x != y, x an instance with an == of its own, no != -/
theorem rich_ne {Q : Value → Shared → Prop} {tb : Value} (hu : A.in1.units < cLine) (X : K.In s.heap) (I : PySem.W.InstAt s.heap x ox C od) (hb : PySem.W.Looks (model prog w) s.heap (typeOf y) tb) (hn : PySem.W.notFirst K C tb = true) (hm : PySem.W.mroIn K C (.type "object") = some true)
    (hs : PySem.W.findIn K (.ref C) "__eq__" = some (some (.ref f))) (hf : PySem.W.isFn K (.ref f) = true) (hne : PySem.W.findIn K (.ref C) "__ne__" = some (some (.builtin "object.__ne__")))
    (h : wpAny (model prog w) A.in1 (call (.ref f) [.ref x, y]) (fun v s' => ∃ b, v = .bool b ∧ Q (.bool (!b)) s') E s) : wpAny (model prog w) A (richCompare .NotEq (.ref x) y) Q E s := by
  have one : wpAny (model prog w) A (tryCompare (.ref x) "__ne__" y) (fun r s' => ∃ v, r = some v ∧ Q v s') E s := by
    unfold tryCompare
    refine wpAny_bind (ifBound_objNe X I hne (call_ne X I hu hm hs hf (wpAny_mono h (fun v s' hv => ?_) fun _ _ e => e)))
    obtain ⟨b, rfl, hq⟩ := hv
    exact ⟨b, rfl, wpAny_pure ⟨_, rfl, hq⟩⟩
  have hu0 : A.units < cLine := Nat.lt_of_succ_lt (show A.units + 1 < cLine from hu)
  unfold richCompare
  simp only [oneThing_ref]
  refine wpAny_holding (wpAny_bind (wpAny_cRoomFor hu0 ?_))
  rw [cmpInfo_NotEq]
  dsimp only
  refine wpAny_bind (I.type.here (wpAny_bind (hb.here ?_)))
  split
  · rename_i q
    have e : PySem.W.subIn K tb (.ref C) = some false := by
      rcases Bool.or_eq_true_iff.mp hn with e | e
      · rw [beq_iff_eq.mp e] at q; simp at q
      · exact beq_iff_eq.mp e
    refine wpAny_bind ((PySem.W.looks_subIn X e).here ?_)
    simp only [Bool.false_eq_true, if_false]
    refine wpAny_bind (wpAny_mono one (fun r s' z => ?_) fun _ _ e => e)
    obtain ⟨v, rfl, hq⟩ := z
    exact wpAny_pure hq
  · refine wpAny_bind (wpAny_pure ?_)
    simp only [Bool.false_eq_true, if_false]
    refine wpAny_bind (wpAny_mono one (fun r s' z => ?_) fun _ _ e => e)
    obtain ⟨v, rfl, hq⟩ := z
    exact wpAny_pure hq
theorem sub_list : PySem.W.subIn K (.type "list") (.ref C) = some false := by
  have e : fastBuiltinMro "list" = some [.type "list", .type "object"] := by decide +kernel
  show (fastBuiltinMro "list").map (·.contains (.ref C)) = some false
  rw [e]
  first
    | rfl
    | simp
theorem sub_tuple : PySem.W.subIn K (.type "tuple") (.ref C) = some false := by
  have e : fastBuiltinMro "tuple" = some [.type "tuple", .type "object"] := by decide +kernel
  show (fastBuiltinMro "tuple").map (·.contains (.ref C)) = some false
  rw [e]
  first
    | rfl
    | simp
end
end Kx
namespace Kx
open PySem PySem.Spec PyProof.Rows L2 SX LamX
section
variable {X : Cx} {pins : List (Addr × Obj)} {σ : L2.St} {H : Hp} {s : Shared}
/-- what stands at the other side of an own ==: an instance of the class, a list, a tuple -/
def OthV (K : PySem.W.Frag) (C : Addr) (H : Hp) (y : V) : Prop := ∃ b, y = .ref b ∧ ((∃ dx fs, H b = some (.ins C dx fs)) ∨ ∃ xs, SqQ K H b xs)
theorem oth_looks {C : Addr} {y : V} {u : Value} (I : Inv X pins σ H s) (ry : RelV y u) (h : OthV X.K C H y) : ∃ b tb, y = .ref b ∧ u = .ref b ∧ (∀ M, PySem.W.Looks M s.heap (typeOf u) tb) ∧ PySem.W.notFirst X.K C tb = true := by
  obtain ⟨b, rfl, h⟩ := h
  obtain rfl : u = Value.ref b := ry
  rcases h with ⟨dx, fs, h⟩ | ⟨xs, h | h⟩
  · obtain ⟨mA, J, _⟩ := ins_get I.hok h
    obtain ⟨od, J, _⟩ := J.look
    exact ⟨b, _, rfl, rfl, fun M => J.type, by simp [PySem.W.notFirst]⟩
  · obtain ⟨us, r1, p1, _⟩ := I.list h
    obtain ⟨o, n, e, c1, c2, d⟩ := p1
    have c : o.cls = .type "list" := by first | exact c1 | exact c2
    refine ⟨b, .type "list", rfl, rfl, fun M => c ▸ (PySem.W.Looks.ld e).andThen .now, ?_⟩
    unfold PySem.W.notFirst
    rw [sub_list]
    rfl
  · obtain ⟨us, r1, ⟨o, e, c, _⟩, _⟩ := I.tuple h
    refine ⟨b, .type "tuple", rfl, rfl, fun M => c ▸ (PySem.W.Looks.ld e).andThen .now, ?_⟩
    unfold PySem.W.notFirst
    rw [sub_tuple]
    rfl
end
end Kx
namespace Kx
open PySem PySem.Spec PyProof.Rows L2 SX LamX
section
variable {X : Cx}
/-- x == y by the class's own ==: what it promises, a truth -/
def rEqI (K : PySem.W.Frag) (C : Addr) (sp : Sp) : R2 := fun x y H Q => ∃ a dx fs, x = .ref a ∧ H a = some (.ins C dx fs) ∧ OthV K C H y ∧ sp [x, y] H (fun v H' => ∃ b, v = .bl b ∧ Q (.bl b) H') C8.E0
def rNeI (K : PySem.W.Frag) (C : Addr) (sp : Sp) : R2 := fun x y H Q => ∃ a dx fs, x = .ref a ∧ H a = some (.ins C dx fs) ∧ OthV K C H y ∧ sp [x, y] H (fun v H' => ∃ b, v = .bl b ∧ Q (.bl (!b)) H') C8.E0
theorem own_run {f : Addr} {fd : FuncData} {ps : List Str} {n : Nat} {sp : Sp} {A : Around} {pins : List (Addr × Obj)} {σ : L2.St} {H : Hp} {s : Shared} {a b : Addr} {Q : VK} {R : Value → Shared → Prop} {xe : Value → Shared → Prop}
    (F : FnOk X.prog X.w X.K X.mg X.base C8.CX0 n f fd ps sp) (hb : Binds X.K fd ps []) (hr : Room n A) (hf : A.frames = X.A.frames) (I : Inv X pins σ H s) (h : sp [.ref a, .ref b] H Q C8.E0)
    (back : ∀ u s', EP X pins σ Q u s' → R u s') : wpAny (model X.prog X.w) A (call (.ref f) [.ref a, .ref b]) R xe s := by
  have e0 : Env0 X.prog X.w X.K X.mg X.base A X.stack s H := by
    have e := I.env0
    exact ⟨by rw [hf]; exact e.frames, e.mod, e.bs, e.bsz, e.funs, e.frf, e.hok, e.bare⟩
  have hl := F.len _ _ _ _ h
  have r2 : Vals [V.ref a, V.ref b] [Value.ref a, Value.ref b] := .cons rfl (.cons rfl .nil)
  refine wpAny_call (codeAny_mono (F.run A X.stack s H ⟨[.ref a, .ref b], []⟩ [.ref a, .ref b] [.ref a, .ref b] _ C8.E0 hr e0 (by
    have := hb s [.ref a, .ref b] I.kIn (by simpa using hl)
    simpa using this) r2 h) fun r s' hq => ?_)
  match r, hq with
  | .error e, hq => exact (show False from hq).elim
  | .ok (.ret w), hq => exact back w s' (I.after hq)
  | .ok .next, hq => exact False.elim hq
  | .ok .brk, hq => exact False.elim hq
  | .ok .cont, hq => exact False.elim hq
theorem op_eqI {C f : Addr} {fd : FuncData} {ps : List Str} {n : Nat} {sp : Sp} (F : FnOk X.prog X.w X.K X.mg X.base C8.CX0 n f fd ps sp) (hb : Binds X.K fd ps []) (hr : Room n X.A)
    (hs : PySem.W.findIn X.K (.ref C) "__eq__" = some (some (.ref f))) (hf : PySem.W.isFn X.K (.ref f) = true) : OpR X (compareOp .Eq) (rEqI X.K C sp) := by
  intro pins s σ H x y v u Q I rx ry hq
  obtain ⟨a, dx, fs, rfl, ha, oth, h⟩ := hq
  cases rx
  obtain ⟨mA, J, _⟩ := ins_get I.hok ha
  obtain ⟨od, J, _⟩ := J.look
  obtain ⟨b, tb, rfl, rfl, lk, nf⟩ := oth_looks I ry oth
  obtain ⟨m, hF⟩ := I.fr
  show wpAny (model X.prog X.w) X.A (richCompare .Eq (.ref a) (.ref b)) _ _ s
  refine PySem.W.cmp_K (op := .Eq) (tb := tb) hr.units0 hF I.ok.mod.kin J (lk _) nf hs hf (own_run F hb hr rfl I h fun u s' ep => ?_)
  obtain ⟨z, H', I', rz, c, rfl, q⟩ := ep
  cases rz
  exact ⟨.bl c, H', I', rfl, q⟩
theorem op_neI {C f : Addr} {fd : FuncData} {ps : List Str} {n : Nat} {sp : Sp} (F : FnOk X.prog X.w X.K X.mg X.base C8.CX0 n f fd ps sp) (hb : Binds X.K fd ps []) (hr : Room (n + 1) X.A)
    (hs : PySem.W.findIn X.K (.ref C) "__eq__" = some (some (.ref f))) (hf : PySem.W.isFn X.K (.ref f) = true) (hm : PySem.W.mroIn X.K C (.type "object") = some true) (hne : PySem.W.findIn X.K (.ref C) "__ne__" = some (some (.builtin "object.__ne__"))) :
    OpR X (compareOp .NotEq) (rNeI X.K C sp) := by
  intro pins s σ H x y v u Q I rx ry hq
  obtain ⟨a, dx, fs, rfl, ha, oth, h⟩ := hq
  cases rx
  obtain ⟨mA, J, _⟩ := ins_get I.hok ha
  obtain ⟨od, J, _⟩ := J.look
  obtain ⟨b, tb, rfl, rfl, lk, nf⟩ := oth_looks I ry oth
  show wpAny (model X.prog X.w) X.A (richCompare .NotEq (.ref a) (.ref b)) _ _ s
  refine rich_ne hr.in1.units0 I.kIn J (lk _) nf hm hs hf hne (own_run F hb hr.in1 rfl I h fun u s' ep => ?_)
  obtain ⟨z, H', I', rz, c, rfl, q⟩ := ep
  cases rz
  exact ⟨c, rfl, .bl (!c), H', I', rfl, q⟩
end
end Kx
namespace Kx
open PySem PySem.Spec PyProof.Rows L2 SX LamX
/-! ### texts, each once -/
def onceStep (σ : List Str) (x : Str) : List Str := if σ.any (· == x) = true then σ else σ ++ [x]
def onceS (xs : List Str) : List Str := xs.foldl onceStep []
theorem once_any (σ : List Str) (v k : Str) : (onceStep σ v).any (· == k) = (σ.any (· == k) || decide (k = v)) := by
  unfold onceStep
  by_cases h : σ.any (· == v) = true
  · rw [if_pos h]
    by_cases e : k = v
    · rw [e, h]; simp
    · simp [e]
  · rw [if_neg h, List.any_append]
    by_cases e : k = v
    · rw [e]; simp
    · have hb : (v == k) = false := by simpa [beq_iff_eq] using (fun h' : v = k => e h'.symm)
      simp [hb, e]
theorem once_len (σ : List Str) (v : Str) : (onceStep σ v).length = if σ.any (· == v) = true then σ.length else σ.length + 1 := by
  unfold onceStep
  split <;> simp
theorem once_fold : ∀ (xs σ : List Str), (xs.foldl onceStep σ).length ≤ σ.length + xs.length
  | [], σ => Nat.le_refl _
  | x :: r, σ => by
    have h := once_fold r (onceStep σ x)
    have h2 := once_len σ x
    rw [List.foldl_cons, List.length_cons]
    split at h2 <;> omega
theorem onceS_le (xs : List Str) : (onceS xs).length ≤ xs.length := by
  have h := once_fold xs []
  simpa [onceS] using h
theorem onceS_take {xs : List Str} {i : Nat} {x : Str} (h : xs[i]? = some x) : onceS (xs.take (i + 1)) = onceStep (onceS (xs.take i)) x := by
  unfold onceS
  rw [List.take_add_one, h, List.foldl_append]
  rfl
section
variable {prog : Program} {w : World} {A : Around} {R : Result → Shared → Prop} {I : Addr} {fp wr : List Addr} {G : Array GenState → Array GenState → Prop} {n : Nat} {P : Nat → Value → Prop} {St : Nat → Shared → Prop}
def txSet (prog : Program) (w : World) (h : Heap) (S : Addr) (l : List Str) : Prop := h.SetOf (PySem.strKind prog w) S (fun k => l.any (· == k)) l.length
theorem txSet_at {h h' : Heap} {S : Addr} {l : List Str} (t : txSet prog w h S l) (k : ∀ o, h.get? S = some o → h'.get? S = some o) : txSet prog w h' S l := by
  obtain ⟨o, es, ep, tb, ho, rest⟩ := t
  exact ⟨o, es, ep, tb, k o ho, rest⟩
/-- set.update over texts, whatever walks over them -/
theorem upd_texts (W : WalksS prog w A.in1 I fp wr G n P St) (S : Addr) (hSf : S ∉ fp) (xs : List Str) (hn : n = xs.length) (hval : ∀ i v, P i v → ∃ x t, xs[i]? = some x ∧ v = .str x t) (hb : n + 1 < scanBound) :
    ∀ (k i : Nat) (s : Shared), n - i = k → i ≤ n → St i s → txSet prog w s.heap S (onceS (xs.take i)) →
      (∀ s', Moved (S :: wr) G s s' → txSet prog w s'.heap S (onceS xs) → R (.ok (.ret .none)) s') → codeAny (model prog w) A (.builtin "set.update.loop" ⟨[.ref S, .ref I], []⟩) R s := by
  have out : S ∉ wr := fun h => hSf (W.sub _ h)
  have more : ∀ b ∈ wr, b ∈ S :: wr := fun b hb => List.mem_cons_of_mem _ hb
  intro k
  induction k with
  | zero =>
    intro i s hk hi hst hS hR
    obtain rfl : i = n := by omega
    refine codeAny_builtin PyProof.Rows.F.entry_set_update_loop ?_
    rw [Around.under_plainId PyProof.Rows.F.plain_set_update_loop _]
    show wpAny _ A.in1 (pyNext (.ref I) >>= _) _ _ s
    refine wpAny_bind (W.done s _ _ hst fun s' hm => ?_)
    show wpAny _ A.in1 (ret Value.none) _ _ s'
    rw [hn, List.take_length] at hS
    exact wpAny_pure (hR s' (hm.mono more) (txSet_at hS fun o e => hm.heap S o out e))
  | succ k ih =>
    intro i s hk hi hst hS hR
    have hlt : i < n := by omega
    refine codeAny_builtin PyProof.Rows.F.entry_set_update_loop ?_
    rw [Around.under_plainId PyProof.Rows.F.plain_set_update_loop _]
    show wpAny _ A.in1 (pyNext (.ref I) >>= _) _ _ s
    refine wpAny_bind (W.item i s _ _ hlt hst fun v s' hP hst' hm => ?_)
    obtain ⟨x, t, hx, rfl⟩ := hval i v hP
    have hS' := txSet_at hS fun o e => hm.heap S o out e
    show wpAny _ A.in1 (holding [Value.str x t] (setAdd S (.str x t)) >>= _) _ _ s'
    refine wpAny_bind (wpAny_holding ?_)
    unfold setAdd
    refine wpAny_holding (wpAny_bind ((PySem.strKind prog w).pyHash (k := x) (strKind_is _ _ _ _) ?_))
    have room : (onceS (xs.take i)).length + 1 < scanBound := by
      have h1 := onceS_le (xs.take i)
      rw [List.length_take] at h1
      omega
    refine wpAny_setAddHashed_of (knd := PySem.strKind prog w) (s := { s' with toks := s'.toks + 1 }) (strKind_is _ _ _ _) rfl hS' room fun h' same hS2 => ?_
    have hS3 : txSet prog w h' S (onceS (xs.take (i + 1))) := PyProof.Rows.SetOf_congr hS2 (fun k' => by rw [onceS_take hx, once_any]) (by rw [onceS_take hx, once_len])
    refine wpAny_pure ⟨plainId_quiet PyProof.Rows.F.plain_set_update_loop _, ih (i + 1) _ (by omega) hlt (W.frame _ s' _ _ hst' (Nat.le_succ _) fun b hb o e => ?_) hS3 fun s2 hm2 hS4 => ?_⟩
    · rw [same.2 b (fun h : b = S => hSf (by rw [← h]; exact hb))]
      exact e
    · refine hR s2 (Moved.trans W.gtrans ((hm.mono more).then_heap (Nat.le_succ _) fun b o hb e => ?_) hm2) hS4
      rw [same.2 b (fun h : b = S => hb (by rw [h]; exact List.mem_cons_self))]
      exact e
end
section
variable {prog : Program} {w : World} {A : Around} {E : Value → Shared → Prop} {s : Shared}
abbrev freshSet (led : Bool) : Obj := { cls := .type "set", dict := none, data := .set #[] 0 (.fresh 0 0 led) }
/-- what a set of these texts leaves -/
def MadeTx (prog : Program) (w : World) (s : Shared) (xs : List Str) (h' : Heap) : Prop := txSet prog w h' s.heap.objs.size (onceS xs) ∧ ∀ b o, s.heap.get? b = some o → h'.get? b = some o
/-- set(x): what its __init__ has to do -/
theorem set_made {x : Value} {xs : List Str} {Q : Value → Shared → Prop}
    (hin : ∀ (led : Bool) (A' : Around) (E' : Value → Shared → Prop) (Q' : Fin → Shared → Prop), A'.handled = A.handled → (∀ h' tk, MadeTx prog w s xs h' → Q' (.done (.ret .none)) { s with heap := h', toks := tk }) →
      wpAny (model prog w) A' (Builtin.«set.__init__» ⟨[.ref s.heap.objs.size, x], []⟩) Q' E' { s with heap := s.heap.push (freshSet led) })
    (h : ∀ (h' : Heap) (tk : Nat), MadeTx prog w s xs h' → Q (.ref s.heap.objs.size) { s with heap := h', toks := tk }) : wpAny (model prog w) A (call (.type "set") [x]) Q E s := by
  obtain ⟨c, tl, hmro⟩ := PySem.F.called_set.mro
  have hmade := PySem.F.called_set.made
  have hsub := PySem.F.called_set.sub
  refine wpAny_call (codeAny_of_tree ?_)
  show wpAny _ _ (callAny (.type "set") _) _ _ _
  refine wpAny_pure ⟨Code.quiet_builtin _ (by decide +kernel), codeAny_builtin PySem.F.entry_type_call ?_⟩
  rw [Around.under_plain (weight_type_call_type "set" [x] []) rfl]
  have h1 := PySem.F.called_set.notType
  have h2 := PySem.F.called_set.canCreate
  have hct := PySem.F.typeCall_set_1 x
  repeat (any_goals (first | assumption | wp_step))
  refine codeAny_mono (code_set_new_1 x (E := E) (Q₁ := fun obj s₁ => ∃ led : Bool, obj = .ref s.heap.objs.size ∧ s₁ = { s with heap := s.heap.push (freshSet led) }) fun led => ⟨led, rfl, rfl⟩) fun r s₁ hr => ?_
  match r, hr with
  | .error e, hr => exact hr
  | .ok .next, hr => exact hr.elim
  | .ok .brk, hr => exact hr.elim
  | .ok .cont, hr => exact hr.elim
  | .ok (.ret obj), hr =>
    obtain ⟨led, rfl, rfl⟩ := hr
    have hS : (s.heap.push (freshSet led)).get? s.heap.objs.size = some (freshSet led) := Heap.get?_push_size _ rfl
    have hT : Shared.TypeIs { s with heap := s.heap.push (freshSet led) } (.ref s.heap.objs.size) "set" := ⟨_, hS, rfl⟩
    have hli := PySem.F.called_set.init.lookup
    have hbi := PySem.F.called_set.init.bind (.ref s.heap.objs.size)
    repeat (any_goals (first | assumption | wp_step))
    refine codeAny_mono (codeAny_call_builtin (R := wants (fun r s₂ => r = .none ∧ ∃ h' tk, s₂ = { s with heap := h', toks := tk } ∧ MadeTx prog w s xs h') E) PySem.F.called_set.init.plain PySem.F.entry_set_init (check_set_init_1 hT ?_)) fun r₂ s₂ hr₂ => ?_
    · exact hin led _ _ _ rfl fun h' tk m => ⟨rfl, h', tk, rfl, m⟩
    · match r₂, hr₂ with
      | .error e, hr₂ => exact hr₂
      | .ok .next, hr₂ => exact hr₂.elim
      | .ok .brk, hr₂ => exact hr₂.elim
      | .ok .cont, hr₂ => exact hr₂.elim
      | .ok (.ret r), hr₂ =>
        obtain ⟨rfl, h', tk, rfl, m⟩ := hr₂
        repeat (any_goals (first | assumption | wp_step))
        exact h _ _ m
end
end Kx
namespace Kx
open PySem PySem.Spec PyProof.Rows L2 SX LamX
section
variable {prog : Program} {w : World} {A : Around} {E : Value → Shared → Prop} {s : Shared}
theorem strs_get : ∀ {us : List Value} {xs : List Str}, StrsAre us xs → ∀ (i : Nat) (v : Value), us[i]? = some v → ∃ x t, xs[i]? = some x ∧ v = .str x t
  | _, _, .nil, i, v, h => by simp at h
  | _, _, .cons y t hr, 0, v, h => by
    simp at h
    exact ⟨y, t, rfl, h.symm⟩
  | _, _, .cons y t hr, i + 1, v, h => by
    simp only [List.getElem?_cons_succ] at h
    exact strs_get hr i v h
theorem strs_len : ∀ {us : List Value} {xs : List Str}, StrsAre us xs → us.length = xs.length
  | _, _, .nil => rfl
  | _, _, .cons _ _ r => by rw [List.length_cons, List.length_cons, strs_len r]
/-- set(x), a list or a tuple of texts -/
theorem call_set_texts {l : Addr} {items : Array Value} {xs : List Str} {Q : Value → Shared → Prop} (hh : A.handled = none) (hl : s.heap.IsList l items ∨ s.heap.IsTuple l items) (hi : StrsAre items.toList xs) (hb : xs.length + 1 < scanBound)
    (h : ∀ (h' : Heap) (tk : Nat), MadeTx prog w s xs h' → Q (.ref s.heap.objs.size) { s with heap := h', toks := tk }) : wpAny (model prog w) A (call (.type "set") [.ref l]) Q E s := by
  refine set_made (xs := xs) (fun led A' E' Q' hA q => ?_) h
  have isz : items.size = xs.length := by rw [← strs_len hi, Array.length_toList]
  have hS : (s.heap.push (freshSet led)).get? s.heap.objs.size = some (freshSet led) := Heap.get?_push_size _ rfl
  have hlS : l < s.heap.objs.size := by
    rcases hl with ⟨o, ho, _⟩ | ⟨o, ho, _⟩ <;> exact Heap.lt_size ho
  have hneI : l ≠ (s.heap.push (freshSet led)).objs.size := by
    rw [Heap.size_push]
    exact Nat.ne_of_lt (Nat.lt_succ_of_lt hlS)
  have hSf : s.heap.objs.size ∉ [(s.heap.push (freshSet led)).objs.size, l] := by
    rw [Heap.size_push]
    simp only [List.mem_cons, List.not_mem_nil, or_false, not_or]
    exact ⟨Nat.ne_of_lt (Nat.lt_succ_self _), Nat.ne_of_gt hlS⟩
  have hval : ∀ (i : Nat) (v : Value), items[i]? = some v → ∃ x t, xs[i]? = some x ∧ v = .str x t := fun i v hv => strs_get hi i v (by rw [Array.getElem?_toList]; exact hv)
  have hh3 : A'.in1.handled = none := by simp [hA, hh]
  have done : ∀ (it : Obj) (s' : Shared), Moved (s.heap.objs.size :: [(s.heap.push (freshSet led)).objs.size]) (fun a b => b = a) { s with heap := (s.heap.push (freshSet led)).push it } s' → txSet prog w s'.heap s.heap.objs.size (onceS xs) →
      wpAny (model prog w) A' (ret Value.none) Q' E' s' := fun it s' hm hS' => by
    obtain ⟨h', g', d', tk', os'⟩ := s'
    have eg : g' = s.gens := hm.gens
    have ed : d' = s.drawn := hm.drawn
    have eo : os' = s.os := hm.os
    subst eg
    subst ed
    subst eo
    refine wpAny_pure (q h' tk' ⟨hS', fun b o e => ?_⟩)
    have hb0 : b < s.heap.objs.size := Heap.lt_size e
    have hb1 : b ≠ s.heap.objs.size := Nat.ne_of_lt hb0
    have hb2 : b ≠ (s.heap.push (freshSet led)).objs.size := by
      rw [Heap.size_push]
      exact Nat.ne_of_lt (Nat.lt_succ_of_lt hb0)
    exact hm.heap b o (by simp only [List.mem_cons, List.not_mem_nil, or_false, not_or]; exact ⟨hb1, hb2⟩) (Heap.get?_push_of_some _ (Heap.get?_push_of_some _ e))
  unfold Builtin.«set.__init__» noKeywords Builtin.Frozenset.updateFrom
  rcases hl with hl | hl
  · obtain ⟨ol, hol, hcl, nl, hdl⟩ := hl
    obtain ⟨ocls, odict, odata, oslots⟩ := ol
    simp only at hcl hdl
    subst hcl
    subst hdl
    have hol' : (s.heap.push (freshSet led)).get? l = some { cls := .type "list", dict := odict, data := .seq items nl, slots := oslots } := Heap.get?_push_of_some _ hol
    have hsls := PySem.F.sub_list_set
    have hslf := PySem.F.sub_list_frozenset
    have hne : (Value.type "list" == Value.type "dict") = false := by decide
    have hl1 : (s.heap.push (freshSet led)).IsList l items := ⟨_, hol', rfl, nl, rfl⟩
    generalize hPI : pyIter = PI
    wp_walk
    subst hPI
    refine wpAny_pyIter_list hl1 ?_
    refine wpAny_bind (wpAny_runValue ?_)
    refine upd_texts ((Walks.list hh3 _ l hneI items).toS) s.heap.objs.size hSf xs isz hval (by omega) (items.size - 0) 0 _ (by omega) (Nat.zero_le _) ⟨⟨_, Heap.get?_push_size _ rfl, rfl, rfl⟩, (hl1.push _)⟩ ?_ (fun s' hm hS' => ?_)
    · have hget : ((s.heap.push (freshSet led)).push { cls := .type "list_iterator", data := .fields #[.ref l, .int 0 0] }).get? s.heap.objs.size = some (freshSet led) := Heap.get?_push_of_some _ hS
      exact PyProof.Rows.SetOf_congr ((PyProof.Rows.setObjOf_fresh (knd := PySem.strKind prog w) led).setOf hget (by unfold scanBound; omega)) (fun _ => rfl) rfl
    · exact wpAny_pure (done _ s' hm hS')
  · obtain ⟨ol, hol, hcl, nl, hdl⟩ := hl
    obtain ⟨ocls, odict, odata, oslots⟩ := ol
    simp only at hcl hdl
    subst hcl
    subst hdl
    have hol' : (s.heap.push (freshSet led)).get? l = some { cls := .type "tuple", dict := odict, data := .seq items nl, slots := oslots } := Heap.get?_push_of_some _ hol
    have hsls := PySem.F.sub_tuple_set
    have hslf := PySem.F.sub_tuple_frozenset
    have hne : (Value.type "tuple" == Value.type "dict") = false := by decide
    have hl1 : (s.heap.push (freshSet led)).IsTuple l items := ⟨_, hol', rfl, nl, rfl⟩
    generalize hPI : pyIter = PI
    wp_walk
    subst hPI
    refine wpAny_pyIter_tuple hl1 ?_
    refine wpAny_bind (wpAny_runValue ?_)
    refine upd_texts ((Walks.tuple hh3 _ l hneI items).toS) s.heap.objs.size hSf xs isz hval (by omega) (items.size - 0) 0 _ (by omega) (Nat.zero_le _) ⟨⟨_, Heap.get?_push_size _ rfl, rfl, rfl⟩, (hl1.push _)⟩ ?_ (fun s' hm hS' => ?_)
    · have hget : ((s.heap.push (freshSet led)).push { cls := .type "tuple_iterator", data := .fields #[.ref l, .int 0 0] }).get? s.heap.objs.size = some (freshSet led) := Heap.get?_push_of_some _ hS
      exact PyProof.Rows.SetOf_congr ((PyProof.Rows.setObjOf_fresh (knd := PySem.strKind prog w) led).setOf hget (by unfold scanBound; omega)) (fun _ => rfl) rfl
    · exact wpAny_pure (done _ s' hm hS')
end
end Kx
namespace Kx
open PySem PySem.Spec PyProof.Rows L2 SX LamX
section
variable {X : Cx}
/-- len(set(e)), e a list or a tuple of texts -/
def tLenSetN (K : PySem.W.Frag) (ta : TE) : TE := fun σ H Q => ta σ H fun x H1 => ∃ (l : Addr) (xs : List Str), x = .ref l ∧ SqQ K H1 l (xs.map V.str) ∧ xs.length ≤ 4000 ∧ Q (.int ((onceS xs).length : Nat)) H1
theorem pe_lenSetN {a : Expr} {ta : TE} {p p2 q pos : Pos} (hg : Gl X "len") (hm : X.mg "len" = none) (hg2 : Gl X "set") (hm2 : X.mg "set" = none) (ha : PE X a ta) (hc : X.calm = true := by rfl)
    (na : starEach [a] X.env = (false, eval a X.env) :: starEach [] X.env := by rfl) : PE X (.Call (.Name "len" p) [.Call (.Name "set" p2) [a] [] q] [] pos) (tLenSetN X.K ta) := by
  refine ⟨fun pins s σ H Q I h => ?_⟩
  refine Call_ (ld_blt I hg hm boot_len ?_)
  refine PyProof.Rows.callWith_builtin1 (PyProof.Rows.args_cons ?_ rfl) rfl rfl
  refine Call_ (ld_blt I hg2 hm2 boot_set ?_)
  refine PyProof.Rows.callWith_type1 (PyProof.Rows.args_cons (thn (ha.run pins s σ H _ I h) fun v s1 ⟨x, H1, I1, r1, q1⟩ => PyProof.Rows.args_nil ?_) na) na rfl
  obtain ⟨l, xs, rfl, hq, h1, q1⟩ := q1
  cases r1
  have fin : ∀ (h' : Heap) (tk : Nat), MadeTx X.prog X.w s1 xs h' →
      wpAny (model X.prog X.w) X.A (spliced (backTo pos (starEach [] X.env))) (fun vs s₂ => wpAny (model X.prog X.w) X.A (call (.builtin "len") (Value.ref s1.heap.objs.size :: vs)) (EP X pins σ Q) X.xe s₂) X.xe { s1 with heap := h', toks := tk } := fun h' tk m => by
    refine PyProof.Rows.args_nil ?_
    obtain ⟨⟨o, es, ep, t, ho, hex, hd, _, _, _, hf, hn⟩, hk⟩ := m
    have I2 : Inv X pins σ H1 { s1 with heap := h', toks := tk } := I1.kept fun b o e => hk b o e
    have h2 := onceS_le xs
    exact call_len_set ho hex hd hf (by rw [hn] <;> omega) ⟨.int ((onceS xs).length : Nat), H1, I2.tok _, ⟨_, by rw [hn]⟩, q1⟩
  rcases hq with hq | hq
  · obtain ⟨its, r, pl, hz⟩ := I1.list hq
    exact call_set_texts (I1.ok.hd hc) (.inl pl.isList) (by simpa using strsAre_of r) (by unfold scanBound; omega) fin
  · obtain ⟨its, r, pl, hz⟩ := I1.tuple hq
    exact call_set_texts (I1.ok.hd hc) (.inr pl) (by simpa using strsAre_of r) (by unfold scanBound; omega) fin
end
theorem onceS_nodup : ∀ (xs : List Str), (onceS xs).length = xs.length ↔ xs.Nodup := by
  have key : ∀ (xs σ : List Str), σ.Nodup → ((xs.foldl onceStep σ).length = σ.length + xs.length ↔ (xs.Nodup ∧ ∀ x ∈ xs, x ∉ σ)) := by
    intro xs
    induction xs with
    | nil => intro σ _; simp
    | cons x r ih =>
      intro σ hσ
      rw [List.foldl_cons, List.length_cons]
      by_cases hx : σ.any (· == x) = true
      · have e : onceStep σ x = σ := by unfold onceStep; rw [if_pos hx]
        have hm : x ∈ σ := by
          obtain ⟨y, hy, e⟩ := List.any_eq_true.mp hx
          rw [← beq_iff_eq.mp e]
          exact hy
        rw [e]
        have := once_fold r σ
        constructor
        · intro h; omega
        · intro ⟨_, h⟩
          exact absurd hm (h x List.mem_cons_self)
      · have e : onceStep σ x = σ ++ [x] := by unfold onceStep; rw [if_neg hx]
        have hm : x ∉ σ := fun hm => hx (List.any_eq_true.mpr ⟨x, hm, by simp⟩)
        rw [e]
        have hn : (σ ++ [x]).Nodup := List.nodup_append.mpr ⟨hσ, by simp, fun a ha b hb => by
          rw [List.mem_singleton.mp hb]
          exact fun e => hm (e ▸ ha)⟩
        have h := ih (σ ++ [x]) hn
        rw [List.length_append, List.length_singleton] at h
        have e2 : σ.length + 1 + r.length = σ.length + (r.length + 1) := by omega
        rw [e2] at h
        rw [h, List.nodup_cons]
        constructor
        · rintro ⟨h1, h2⟩
          refine ⟨⟨fun hr => h2 x hr (List.mem_append_right _ (List.mem_singleton.mpr rfl)), h1⟩, fun y hy => ?_⟩
          rcases List.mem_cons.mp hy with rfl | hy
          · exact hm
          · exact fun z => h2 y hy (List.mem_append_left _ z)
        · rintro ⟨⟨h1, h2⟩, h3⟩
          refine ⟨h2, fun y hy z => ?_⟩
          rcases List.mem_append.mp z with z | z
          · exact h3 y (List.mem_cons_of_mem _ hy) z
          · rw [List.mem_singleton.mp z] at hy
            exact h1 hy
  intro xs
  have h := key xs [] List.nodup_nil
  simpa [onceS] using h
end Kx
namespace Kx
open PySem PySem.Spec PyProof.Rows L2 SX LamX
section
variable {X : Cx}
/-- tuple(list): the tuple is known to the object -/
theorem call_tuple_frz : CallR X (.type "tuple") (fun xs H Q => ∃ p ys, xs = [.ref p] ∧ ((SqL X.K H p ys ∧ ∀ l o, H l = none → o.dict = none → Q (.ref l) (upd H l (.frz o (.tup ys)))) ∨ (SqT X.K H p ys ∧ Q (.ref p) H))) := by
  intro pins s σ H xs us Q I r h
  obtain ⟨p, ys, rfl, h⟩ := h
  obtain ⟨u, rfl, rx⟩ := vals1 r
  cases rx
  rcases h with ⟨hq, q⟩ | ⟨hq, q⟩
  · obtain ⟨its, r', pl, hz⟩ := I.list hq
    have hlen := r'.length
    refine call_tuple_list pl.isList (fun h' kp => ?_) (by simp only [List.size_toArray] <;> omega)
    have I1 : Inv X pins σ H { s with heap := h' } := I.kept (t' := s.toks) kp
    have I2 : Inv X pins σ (upd H h'.objs.size (.frz { cls := .type "tuple", data := .seq its.toArray } (.tup ys))) { s with heap := h'.push { cls := .type "tuple", data := .seq its.toArray } } :=
      I1.laid (t' := s.toks) (fun b o e => Heap.get?_push_of_some _ e) (Nat.le_refl _) (show ObjOk X.prog X.w _ _ _ (.frz _ (.tup ys)) from ⟨Heap.get?_push_size _ rfl, hz, its, r', IsTup.new _ _⟩)
    exact ⟨.ref h'.objs.size, _, I2, rfl, q _ _ (I1.hok.fresh (Nat.le_refl _)) rfl⟩
  · obtain ⟨its, r', pl, hz⟩ := I.tuple hq
    exact call_tuple_same pl ⟨.ref p, H, I, rfl, q⟩
/-- a tuple that has no dict -/
def TupN (K : PySem.W.Frag) (H : Hp) (p : Addr) : Prop := (∃ o xs, H p = some (.frz o (.tup xs)) ∧ o.dict = none) ∨ ∃ o, K.lookup p = some o ∧ o.cls = .type "tuple" ∧ o.dict = none
theorem TupN.same {K : PySem.W.Frag} {H H' : Hp} {p : Addr} (e : Same H H') (h : TupN K H p) : TupN K H' p := by
  rcases h with ⟨o, xs, h1, h2⟩ | h
  · exact .inl ⟨o, xs, e _ _ h1, h2⟩
  · exact .inr h
theorem TupN.ext {K : PySem.W.Frag} {H H' : Hp} {p : Addr} (e : ExtN H H') (h : TupN K H p) : TupN K H' p := by
  rcases h with ⟨o, xs, h1, h2⟩ | h
  · exact .inl ⟨o, xs, ext_at e h1, h2⟩
  · exact .inr h
theorem tupN_ty {pins : List (Addr × Obj)} {σ : L2.St} {H : Hp} {s : Shared} {y : V} {v : Value} (I : Inv X pins σ H s) (r : RelV y v) (ty : ∃ p, y = .ref p ∧ TupN X.K H p) :
    s.TypeIs v "tuple" ∧ ∀ a, v = .ref a → ∃ ob, s.heap.get? a = some ob ∧ ob.dict = none := by
  obtain ⟨p, rfl, h⟩ := ty
  cases r
  have key : ∃ ob, s.heap.get? p = some ob ∧ ob.cls = .type "tuple" ∧ ob.dict = none := by
    rcases h with ⟨o, xs, e, d⟩ | ⟨o, e, c, d⟩
    · have h1 : ObjOk X.prog X.w H s.heap p (.frz o (.tup xs)) := I.hok p _ e
      obtain ⟨g, _, its, _, ⟨o2, g2, c2, _⟩⟩ := h1
      rw [g] at g2
      cases g2
      exact ⟨o, g, c2, d⟩
    · exact ⟨o, I.kIn _ _ e, c, d⟩
  obtain ⟨ob, g, c, d⟩ := key
  refine ⟨⟨ob, g, c⟩, fun b hb => ?_⟩
  cases hb
  exact ⟨ob, g, d⟩
def tTM (K : PySem.W.Frag) (r : V → List V → Hp → VK → Prop) (to : TE) (t : TA) : TE := fun σ H Q => to σ H fun x H1 => (∃ p, x = .ref p ∧ TupN K H1 p) ∧ t σ H1 fun xs H2 => r x xs H2 Q
variable {o e : Expr} {es : List Expr} {to : TE} {t : TA} {name : Str} {apos cpos : Pos} {id : String} {r : V → List V → Hp → VK → Prop}
/-- o.m(e, ..), o a tuple -/
theorem pe_tm (slot : Slot "tuple" name id) (hty : typeOf (.builtin id) = pure (.type "method_descriptor")) (hm : MtR X id r) (ho : PE X o to) (ha : PA X (e :: es) t)
    (hbase : attributeBase o name X.env (eval o X.env) = eval o X.env := by rfl)
    (hfew : ((backTo cpos (starEach (e :: es) X.env)).all (fun x => !x.1) && (backToKw cpos (keywordEach [] X.env)).all (fun x => x.1.isSome)
      && decide ((e :: es).length + ([] : List Keyword).length + (if ([] : List Keyword).isEmpty then 0 else 1) < 30)) = true := by rfl)
    (hline : (apos.endLine == cpos.line) = true := by rfl) (hs : starEach (e :: es) X.env = (false, eval e X.env) :: starEach es X.env := by rfl) (hplain : (backTo cpos (starEach es X.env)).any (·.1) = false := by rfl) :
    PE X (.Call (.Attribute o name apos) (e :: es) [] cpos) (tTM X.K r to t) := by
  refine ⟨fun pins s σ H Q I h => ?_⟩
  refine wpAny_Call_method_late hbase hfew hline rfl (thn (ho.run pins s σ H _ I h) fun v s1 ⟨x, H1, I1, r1, ty, q1⟩ => ?_)
  obtain ⟨h1, h2⟩ := tupN_ty I1 r1 ty
  refine ⟨"tuple", id, PySem.F.plainAttrs_tuple, slot, hty, h1, h2, ?_⟩
  have hA := ha.run cpos pins s1 σ H1 _ I1 q1
  rw [hs] at hA ⊢
  refine Calls.callWith_builtin (by show (false || (backTo cpos (starEach es X.env)).any (·.1)) = false; rw [hplain] <;> rfl) (Calls.evalArgs_plain ?_)
  exact thn hA fun us s2 ⟨vs, H2, I2, r2, q2⟩ => hm pins s2 σ H2 x vs v us Q I2 r1 r2 q2
end
section
variable {X : Cx} {CX : CXT} {k : Nat} {f C : Addr} {fd : FuncData} {ps ks : List Str} {sp : Sp} {E : XK} {o : Expr} {m : Str} {apos pos : Pos} {kws : List Keyword} {ta : TE} {tk : TA} {g : List Value → List Value → List Value} {gV : List V → List V → List V}
def tMethK (C : Addr) (m : Str) (sp : Sp) (gV : List V → List V → List V) (E : XK) (ta : TE) (tk : TA) : TE := fun σ H Q => ta σ H fun x H1 => ∃ a dx fs, x = .ref a ∧ H1 a = some (.ins C dx fs) ∧ fs.lookup m = none ∧ tk σ H1 fun zs H2 => sp (gV [x] zs) H2 Q E
/-- o.m(k = v) -/
theorem pe_methK0 {pl : Sem Bool} (he : PE X o ta) (c : Cls X.K C) (hm : Meth X.K C m f) (F : FnOk X.prog X.w X.K X.mg X.base CX k f fd ps sp) (hr : Room k X.A) (hb : KBinds X.K fd ps ks g gV) (hx : Passes CX X E) (hkw : PK X kws tk)
    (hall : (backToKw pos (keywordEach kws X.env)).all (·.1.isSome) = true := by rfl) (hks : (backToKw pos (keywordEach kws X.env)).filterMap (·.1) = ks := by rfl)
    (hpl : ((backTo pos (starEach [] X.env)).any (·.1) || (backToKw pos (keywordEach kws X.env)).any (·.1.isNone)) = false := by rfl)
    (ht : eval (.Call (.Attribute o m apos) [] kws pos) X.env = (do
      let ov ← eval o X.env
      standAt apos.atName
      let (f, first) ← holding [ov] (getMethod ov m pl)
      callWith pos f first (backTo pos (starEach [] X.env)) (backToKw pos (keywordEach kws X.env))) := by rfl) :
    PE X (.Call (.Attribute o m apos) [] kws pos) (tMethK C m sp gV E ta tk) := by
  refine ⟨fun pins s σ H Q I h => ?_⟩
  refine PySem.W.methodCall_KW (pl := pl) (thn (he.run pins s σ H _ I h) fun u s1 ⟨x, H1, I1, rx, a, dx, fs, ex, ea, l, q⟩ => ?_) ht
  subst ex
  obtain rfl : u = Value.ref a := rx
  refine getmeth_ok I1 ea c hm l ?_
  show wpAny _ _ (callWith pos (.ref f) [.ref a] (backTo pos (starEach [] X.env)) (backToKw pos (keywordEach kws X.env))) _ _ _
  refine PySem.W.callWith_KW0 (first := [.ref a]) (h₀ := X.base) I.ok.mod.kin hm.kp hall (thn (hkw.run pos pins s1 σ H1 _ I1 q) fun ws s2 ⟨zs, H2, I2, rz, q2⟩ => ⟨I2.kIn, ?_⟩) hpl
  rw [hks]
  exact run_fnk (us := [.ref a]) (vs := [.ref a]) F hr hb hx I2 (.cons rfl .nil) rz q2
end
/-- self, and one by name -/
def selfG {α : Type} (us ws : List α) : List α := match us, ws with | [s], [u] => [s, u] | _, _ => []
theorem kb_self {K : PySem.W.Frag} {x qual : Str} {st : Stmt} {f : Addr} {fd : FuncData} {a b : Str} (F : Fun K x qual st f fd)
    (h : ∀ (kV doc pm : Value) (an : Option Addr) (cdv ct : Value) (s u : Value), bindArgs (PySem.W.fnOf x qual (defArgs st) (defBody st) (defScope st) .none kV doc pm an cdv ct) ⟨[s], [(b, u)]⟩ = pure [(a, s), (b, u)]) :
    KBinds K fd [a, b] [b] selfG selfG := by
  obtain ⟨oc, od, kV, doc, pm, an, cdv, ct, osl, rfl, lk, hcd⟩ := F.ex
  refine ⟨fun s us ws X l => ?_, fun {vs us zs ws} r1 r2 => ?_⟩
  · match us, ws, l with
    | [s], [u], _ => exact .of_eq (h kV doc pm an cdv ct s u)
    | [], _, l => cases l
    | [_], [], l => cases l
    | [_], _ :: _ :: _, l => cases l
    | _ :: _ :: _, _, l => cases l
  · cases r1 with
    | nil => exact .nil
    | cons h1 r1 =>
      cases r1 with
      | cons _ _ => exact .nil
      | nil =>
        cases r2 with
        | nil => exact .nil
        | cons h2 r2 =>
          cases r2 with
          | nil => exact .cons h1 (.cons h2 .nil)
          | cons _ _ => exact .nil
/-- .. the same for the making of an instance -/
theorem kbn_self {K : PySem.W.Frag} {x qual : Str} {st : Stmt} {f : Addr} {fd : FuncData} {a b : Str} (F : Fun K x qual st f fd)
    (h : ∀ (kV doc pm : Value) (an : Option Addr) (cdv ct : Value) (s u : Value), bindArgs (PySem.W.fnOf x qual (defArgs st) (defBody st) (defScope st) .none kV doc pm an cdv ct) ⟨[s], [(b, u)]⟩ = pure [(a, s), (b, u)]) :
    KBn K fd [a, b] 1 [b] selfG selfG := by
  have kb := kb_self F h
  refine ⟨fun s us ws X l1 l2 => kb.to s us ws X ?_, kb.rel⟩
  match us, ws, l1, l2 with
  | [_], [_], _, _ => rfl
end Kx
namespace Kx
open PySem PySem.Spec PyProof.Rows L2 SX LamX
theorem sqT_put {K : PySem.W.Frag} {H : Hp} {p a C dx : Addr} {fs : List (Str × V)} {o : HO} {xs : List V} (hp : H p = some (.ins C dx fs)) (h : SqT K H a xs) : SqT K (upd H p o) a xs := by
  rcases h with (h | ⟨ob, h⟩) | h
  · exact .inl (.inl (by rw [upd_ne (ne_of_two h hp (fun z => by cases z))]; exact h))
  · exact .inl (.inr ⟨ob, by rw [upd_ne (ne_of_two h hp (fun z => by cases z))]; exact h⟩)
  · exact .inr h
theorem tupN_put {K : PySem.W.Frag} {H : Hp} {p a C dx : Addr} {fs : List (Str × V)} {o : HO} (hp : H p = some (.ins C dx fs)) (h : TupN K H a) : TupN K (upd H p o) a := by
  rcases h with ⟨ob, xs, h, d⟩ | h
  · exact .inl ⟨ob, xs, by rw [upd_ne (ne_of_two h hp (fun z => by cases z))]; exact h, d⟩
  · exact .inr h
theorem kitOne_no {K : PySem.W.Frag} {C : Addr} {n : String} (h1 : PySem.W.isClsIn K C = true) (h2 : PySem.W.typeIn K (.ref C) = some (.type "type")) (h3 : PySem.W.subIn K (.type n) (.ref C) = some false) : PySem.W.kitOne K (.type n) (.ref C) = some false := by
  unfold PySem.W.kitOne
  rw [if_neg (by simp)]
  unfold PySem.W.kitCls
  have h1' : (PySem.W.clsIn K C).isSome = true := h1
  dsimp only
  rw [h1', h2]
  exact h3
theorem kitOne_self {K : PySem.W.Frag} {C : Addr} : PySem.W.kitOne K (.ref C) (.ref C) = some true := by
  unfold PySem.W.kitOne
  simp
theorem kitOne_other {K : PySem.W.Frag} {C D : Addr} (h1 : PySem.W.isClsIn K C = true) (h2 : PySem.W.typeIn K (.ref C) = some (.type "type")) (h3 : PySem.W.subIn K (.ref D) (.ref C) = some false) (h4 : PySem.W.subIn K (.ref D) (.ref D) = some true) : PySem.W.kitOne K (.ref D) (.ref C) = some false := by
  have ne : D ≠ C := fun e => by
    rw [e] at h3 h4
    rw [h3] at h4
    cases h4
  unfold PySem.W.kitOne
  rw [if_neg (by simpa using ne)]
  unfold PySem.W.kitCls
  have h1' : (PySem.W.clsIn K C).isSome = true := h1
  dsimp only
  rw [h1', h2]
  exact h3
theorem sub_non {K : PySem.W.Frag} {C : Addr} : PySem.W.subIn K (.type "NoneType") (.ref C) = some false := HN.sub_none
theorem eqv_text (a b : List Nat) : PyData.eqv (.str (S a)) (.str (S b)) = decide (a = b) := by
  show (S a == S b) = _
  by_cases h : a = b
  · rw [h, decide_eq_true rfl]
    simp
  · rw [decide_eq_false h, beq_eq_false_iff_ne]
    intro e
    have := congrArg (fun z : Str => z.cps.toList) e
    exact h (by simpa [S] using this)
theorem eqv_texts (xs ys : List (List Nat)) : PyData.eqv (.tuple (xs.map fun l => PyData.str (S l))) (.tuple (ys.map fun l => PyData.str (S l))) = decide (xs = ys) := eqvAll_map eqv_text xs ys
theorem pl_text {l : List Nat} (h : cdC l) : Pl 0 (.str (S l)) := ⟨by
  show (S l).cps.all (· < 0x110000) = true
  have e : (S l).cps.all (· < 0x110000) = l.all (fun c => decide (c < 1114112)) := by simp [S]
  rw [e]
  exact h, Nat.le_refl _⟩
theorem low_cd {l : List Nat} (h : l.all low = true) : cdC l := by
  unfold cdC
  rw [List.all_eq_true] at h ⊢
  intro c hc
  have := low_lt (h c hc)
  exact decide_eq_true (by omega)
theorem inV_texts {v : V} (ws : List (List Nat)) : inV v (ws.map fun l => V.str (S l)) = true ↔ ∃ w ∈ ws, v = .str (S w) := by
  unfold inV
  rw [List.any_map, List.any_eq_true]
  constructor
  · rintro ⟨w, hw, h⟩
    refine ⟨w, hw, ?_⟩
    cases v with
    | str x =>
      have h' : (S w == x) = true := h
      rw [beq_iff_eq.mp h']
    | _ => cases h
  · rintro ⟨w, hw, rfl⟩
    exact ⟨w, hw, by show (S w == S w) = true; simp⟩
end Kx
namespace Kx
open PySem PySem.Spec PyProof.Rows L2 SX LamX
section
variable {X : Cx}
theorem rev_pick (z : Str) : ((Builtin.Str.strSliceIndices none none (-1) z.length).filterMap (z.cps[·]?)).toArray = z.cps.toList.reverse.toArray := by
  have e : Builtin.Str.strSliceIndices none none (-1) z.length = sliceRange ((z.cps.size : Int) - 1) (-1) (-1) := rfl
  rw [e, PySem.W.krv_sliceRange, PySem.W.krv_range, List.filterMap_reverse, PySem.W.krv_all]
/-- x[::-1], a text -/
def tRevS (te : TE) : TE := fun σ H Q => te σ H fun x H1 => ∃ l : List Nat, x = .str (S l) ∧ l.length ≤ 1000000 ∧ Q (.str (S l.reverse)) H1
theorem pe_revS {e : Expr} {te : TE} {k : Nat} {p1 p2 p3 pos : Pos} (he : PE X e te) : PE X (.Subscript e (.Slice none none (some (.UnaryOp .USub (.Constant (.int 1) k p1) p2)) p3) pos) (tRevS te) := by
  refine ⟨fun pins s σ H Q I h => ?_⟩
  refine Subscript_ (thn (he.run pins s σ H _ I h) fun v s1 ⟨x, H1, I1, r1, q1⟩ => ?_)
  obtain ⟨z, ex, hz, q⟩ := q1
  subst ex
  obtain ⟨t, rfl⟩ := r1
  have hst : PO X (some (.UnaryOp .USub (.Constant (.int 1) k p1) p2)) (tPart (tUn (rU fun i => .int (-i)) (tC (.int 1)))) := po_some (pe_un un_neg pe_int)
  refine wpAny_Slice (thn (po_none.run pins s1 σ H1 (fun o H2 => o = none ∧ H2 = H1) I1 ⟨rfl, rfl⟩) fun vl s2 ⟨l, H2, I2, pl, el, e2⟩ => ?_)
  subst el e2
  refine thn (po_none.run pins s2 σ H2 (fun o H3 => o = none ∧ H3 = H2) I2 ⟨rfl, rfl⟩) fun vu s3 ⟨u, H3, I3, pu, eu, e3⟩ => ?_
  subst eu e3
  refine thn (hst.run pins s3 σ H3 (fun o H4 => o = some (-1) ∧ H4 = H3) I3 ⟨1, rfl, -1, rfl, rfl, rfl⟩) fun vs s4 ⟨o, H4, I4, ps, eo, e4⟩ => ?_
  subst eo e4
  have I5 : Inv X pins σ H4 { s4 with heap := s4.heap.push { cls := .type "slice", data := .fields #[vl, vu, vs] } } := I4.kept (t' := s4.toks) fun b ob q => Heap.get?_push_of_some _ q
  obtain ⟨l', rfl, e1⟩ := IsPart.raw pl
  obtain ⟨u', rfl, e2⟩ := IsPart.raw pu
  obtain ⟨w', rfl, e3⟩ := IsPart.raw ps
  show wpAny (model X.prog X.w) X.A (subscriptTail e (.Slice none none (some (.UnaryOp .USub (.Constant (.int 1) k p1) p2)) p3) (.str (S z) t) (.ref s4.heap.objs.size)) (EP X pins σ Q) X.xe _
  refine tail_any (ops := [.str (S z) t, .ref s4.heap.objs.size]) (typeIs_str _ _ _) (PySem.F.slot_str_getitem.lookup) ?_ (by with_unfolding_all rfl)
  refine wpAny_getItem_str_slice (l := l') (u := u') (st := w') ⟨_, Heap.get?_push_size _ rfl, rfl, rfl⟩ (by rw [e3]; decide) ?_
  have hm : l'.map (·.1) = none := e1
  have hu : u'.map (·.1) = none := e2
  have made : sliceMade (S z) t l' u' w' = Made.str (S z.reverse) := by
    unfold sliceMade slicePicked
    rw [hm, hu, e3]
    show (if ((-1 : Int) == 1 && _) = true then _ else _) = _
    rw [if_neg (by simp)]
    have e0 : (S z).cps.toList = z := by simp [S]
    have e5 := rev_pick (S z)
    rw [e0] at e5
    exact congrArg (fun a => Made.str ⟨a⟩) e5
  rw [made]
  exact ⟨by rw [S_len, List.length_reverse]; exact Nat.le_trans hz (by decide), .str _, _, I5.tok _, ⟨_, rfl⟩, q⟩
end
end Kx
namespace Kx
open PySem PySem.Spec PyProof.Rows L2 SX LamX
theorem go_set {te : TE} {u : TS} {D : Ends} {σ : L2.St} {H : Hp} {i : Nat} (h : te σ H fun x H1 => u D (σ.set i (some x)) H1) : tSeq (tAsg te (gName i)) u D σ H := h
theorem go_next {D : Ends} {σ : L2.St} {H : Hp} (h : D.nx σ H) : tNext D σ H := h
theorem go_and2 {ta tb : TT} {σ : L2.St} {H : Hp} {Q : Bool → Hp → Prop} (h : ta σ H fun b H1 => if b = true then tb σ H1 Q else Q false H1) : tAnd ta tb σ H Q := h
end Kx
namespace Kx
open PySem PySem.Spec PyProof.Rows L2 SX LamX
/-- a test that fails -/
theorem if_same {c : TT} {t u : TS} {D : Ends} {σ : L2.St} {H : Hp} (hc : ∀ Q : Bool → Hp → Prop, (∀ H', Same H H' → Q false H') → c σ H Q) (h : ∀ H', Same H H' → u D σ H') : tIfS c t u D σ H := go_if (hc _ fun H' e => iteF (A := _) (h H' e))
theorem nodup_rev {α : Type} {l : List α} (h : l.Nodup) : l.reverse.Nodup := by
  unfold List.Nodup at h ⊢
  rw [List.pairwise_reverse]
  exact h.imp fun h e => h e.symm
end Kx
namespace Kx
open PySem PySem.Spec PyProof.Rows L2 SX LamX
open PySem.W in
/-- the goal that the head leaves, of a law in which two defs make lambdas -/
theorem walkL2 {l : OpenLaw} {n k : Nat} {q : Program} {loose : List Str} {XP : (Str → Option Value) → Heap → Prop} {YP : World → Heap → Prop} {d : DefRec} {K : Params → Frag} {x y z : Str} (sp : Frag → Addr → Addr → Sp)
    (hn : l.most = some n) (hz : n ≤ sizeLine) (h0 : d.params.defaults = []) (hr : Room k callerA) (hY : ∀ (w : World) (h : Heap), YP w h → (K w.params).In h)
    (hc : ∀ p, ((∃ r, (recsOf q).find? (fun r => r.name == y) = some r) ∧ ∃ r, (recsOf q).find? (fun r => r.name == z) = some r) ∧ ∃ c Pt c2 Pu, (tabIn (K p) y = some (c, Pt) ∧ (K p).lookup Pt = none) ∧ (tabIn (K p) z = some (c2, Pu) ∧ (K p).lookup Pu = none) ∧ Pt ≠ Pu)
    (F : ∀ (w : World) (mg : Str → Option Value) (fa : Addr) (h : Heap), (K w.params).In h → h.Ns mainGlobals mg → mg d.name = some (.ref fa) → ∃ fd : FuncData,
      (∀ (t : Shared) (u : Value), BindsTo t fd ⟨[u], []⟩ [(x, u)]) ∧ ∀ (c Pt c2 Pu : Addr), tabIn (K w.params) y = some (c, Pt) → tabIn (K w.params) z = some (c2, Pu) → Pt ≠ Pu → ∀ base : Heap, (K w.params).In base → base.Ns mainGlobals mg → TabB base mg c Pt → TabB base mg c2 Pu → FnG l.prog w (K w.params) mg base CX0 k fa fd [x] (sp (K w.params) Pt Pu))
    (pr : ∀ (K : Frag) (Pt Pu : Addr) (H : Hp) (a : Addr) (ns : List Int), ns.length ≤ n → H Pt = some (.tbl #[]) → H Pu = some (.tbl #[]) → SqL K H a (ns.map V.int) → sp K Pt Pu [.ref a] H (fun v _ => v = .bl true) fun _ _ _ => False) :
    WalkO q loose XP YP l.row.toRowW d [] (fun f us => PySem.call f us) := by
  refine walkT (x := x) (K := K) (cs := fun p => [(y, ((tabIn (K p) y).getD (0, 0))), (z, ((tabIn (K p) z).getD (0, 0)))]) (sp := fun K => sp K ((tabIn K y).getD (0, 0)).2 ((tabIn K z).getD (0, 0)).2) hn hz h0 hr hY (fun p e he => ?_) (fun w mg fa h KX G hmg => ?_) (fun p H a ns hl ht hS _ => pr _ _ _ H a ns hl (ht _ List.mem_cons_self) (ht _ (List.mem_cons_of_mem _ List.mem_cons_self)) hS)
  · obtain ⟨⟨r1, r2⟩, c, Pt, c2, Pu, ⟨h2, h3⟩, ⟨h4, h5⟩, _⟩ := hc p
    rcases List.mem_cons.mp he with rfl | he
    · refine ⟨r1, ?_, ?_⟩
      · rw [h2]
        rfl
      · rw [h2]
        exact h3
    · cases List.mem_singleton.mp he
      refine ⟨r2, ?_, ?_⟩
      · rw [h4]
        rfl
      · rw [h4]
        exact h5
  · obtain ⟨fd, hb, hF⟩ := F w mg fa h KX G hmg
    obtain ⟨_, c, Pt, c2, Pu, ⟨h2, _⟩, ⟨h4, _⟩, hne⟩ := hc w.params
    refine ⟨fd, hb, fun base hk hg ht => ?_⟩
    have hT := ht _ List.mem_cons_self
    have hU := ht _ (List.mem_cons_of_mem _ List.mem_cons_self)
    simp only [h2, h4, Option.getD_some] at hT hU ⊢
    exact hF c Pt c2 Pu h2 h4 hne base hk hg hT hU
theorem tab_at {K : PySem.W.Frag} {x : Str} {f c Pt : Addr} {oc oc2 : Value} {od od2 : Option Addr} {osl osl2 : Array (Option Value)} {fd : FuncData} {vs : Array Value} (a : PySem.W.nsIn K mainGlobals x = some (some (.ref f)))
    (l : K.lookup f = some ⟨oc, od, .func fd, osl⟩) (e : fd.code = .ref c) (l2 : K.lookup c = some ⟨oc2, od2, .fields vs, osl2⟩) (v : (vs[11]? : Option Value) = some (.ref Pt)) (n : K.lookup Pt = none) :
    PySem.W.tabIn K x = some (c, Pt) ∧ K.lookup Pt = none := by
  refine ⟨?_, n⟩
  unfold PySem.W.tabIn
  rw [a]
  simp only [l, e, l2, v]
end Kx
namespace Kx
open PySem PySem.Spec PyProof.Rows L2 SX LamX
section
variable {X : Cx} {K : PySem.W.Frag}
theorem inK_op_in_seq (e : X.K = K) : OpR X (compareOp .In) (rIn K false) := e ▸ op_in_seq
theorem inK_op_notIn_seq (e : X.K = K) : OpR X (compareOp .NotIn) (rIn K true) := e ▸ op_notIn_seq
theorem inK_call_tuple_frz (e : X.K = K) : CallR X (.type "tuple") (fun xs H Q => ∃ p ys, xs = [.ref p] ∧ ((SqL K H p ys ∧ ∀ l o, H l = none → o.dict = none → Q (.ref l) (upd H l (.frz o (.tup ys)))) ∨ (SqT K H p ys ∧ Q (.ref p) H))) := e ▸ call_tuple_frz
end
theorem sub_int {K : PySem.W.Frag} {C : Addr} : PySem.W.subIn K (.type "int") (.ref C) = some false := by
  have e : fastBuiltinMro "int" = some [.type "int", .type "object"] := by decide +kernel
  show (fastBuiltinMro "int").map (·.contains (.ref C)) = some false
  rw [e]
  first
    | rfl
    | simp
end Kx
namespace PySem
open Sem (wp)
open AutoSeq1 (wpAny_loadPart')
theorem meets_enumerate_newT (l : Addr) (items : Array Value) (n : Nat) (dct : Option Addr) (sl : Array (Option Value)) :
    Meets (Builtin.«enumerate.__new__» ⟨[.type "enumerate", .ref l], []⟩) (fun _ R s => s.heap.get? l = some { cls := .type "tuple", dict := dct, data := .seq items n, slots := sl } ∧
      R (.ok (.ret (.ref (s.heap.push { cls := .type "tuple_iterator", data := .fields #[.ref l, .int 0 0] }).objs.size)))
        { s with heap := (s.heap.push { cls := .type "tuple_iterator", data := .fields #[.ref l, .int 0 0] }).push { cls := .type "enumerate", data := .fields #[.none, .bool false, .ref s.heap.objs.size, rawInt 0, .none, .none] } }) :=
  .of_wp fun prog w A R s h => by
    obtain ⟨hp, g, d, tk, os⟩ := s
    obtain ⟨hl, h⟩ := h
    have hsub := sub_enumerate
    have hL : Heap.IsTuple (Shared.heap ⟨hp, g, d, tk, os⟩) l items := ⟨_, hl, rfl, n, rfl⟩
    wp_walk using wpAny_loadPart' hl
    refine wpAny_stack_any fun st => wpAny_pure ?_
    split
    · rename_i c _ _ _ _ _
      cases (c == Value.type "enumerate")
      · wp_walk using wpAny_loadPart' hl, wpAny_pyIter_tuple hL
        exact ⟨_, rfl, h⟩
      · wp_walk using wpAny_loadPart' hl, wpAny_pyIter_tuple hL
        exact ⟨_, rfl, h⟩
    · wp_walk using wpAny_loadPart' hl, wpAny_pyIter_tuple hL
      exact ⟨_, rfl, h⟩
section
variable {prog : Program} {w : World} {A : Around} {E : Value → Shared → Prop} {s : Shared}
theorem call_enumerate_tuple {l : Addr} {items : Array Value} {Q : Value → Shared → Prop} (hL : s.heap.IsTuple l items)
    (h : ∀ h', IsEnum h' (s.heap.objs.size + 1) s.heap.objs.size 0 .none → h'.IsTupleIter s.heap.objs.size l 0 → h'.objs.size = s.heap.objs.size + 2 →
      (∀ b o, s.heap.get? b = some o → h'.get? b = some o) → Q (.ref (s.heap.objs.size + 1)) { s with heap := h' }) :
    wpAny (model prog w) A (call (.type "enumerate") [.ref l]) Q E s := by
  obtain ⟨⟨c, dct, dt, sl⟩, hl, hc, n, hd⟩ := hL
  replace hc : c = .type "tuple" := hc
  replace hd : dt = .seq items n := hd
  subst hc hd
  refine callType_new F.called_enumerate (by decide) (F.typeCall_enumerate_1 _) (F.newCall_enumerate_1 _) (fun obj => F.args_object_init_2 obj _) F.entry_enumerate_new
    (meets_enumerate_newT l items n dct sl) ⟨hl, ?_⟩
  have hz : (s.heap.push { cls := .type "tuple_iterator", data := .fields #[.ref l, .int 0 0] }).objs.size = s.heap.objs.size + 1 := Heap.size_push ..
  show _ ∧ _
  rw [hz]
  have he : IsEnum ((s.heap.push { cls := .type "tuple_iterator", data := .fields #[.ref l, .int 0 0] }).push
      { cls := .type "enumerate", data := .fields #[.none, .bool false, .ref s.heap.objs.size, rawInt 0, .none, .none] }) (s.heap.objs.size + 1) s.heap.objs.size 0 .none := by
    have := Heap.get?_push_size (s.heap.push { cls := .type "tuple_iterator", data := .fields #[.ref l, .int 0 0] })
      (o := { cls := .type "enumerate", data := .fields #[.none, .bool false, .ref s.heap.objs.size, rawInt 0, .none, .none] }) rfl
    rw [hz] at this; exact this
  refine ⟨⟨_, he, rfl⟩, h _ he ⟨_, Heap.get?_push_of_some _ (Heap.get?_push_size _ rfl), rfl, rfl⟩ (by rw [Heap.size_push, hz]) fun b o x => Heap.get?_push_of_some _ (Heap.get?_push_of_some _ x)⟩
end
end PySem
namespace Kx
open PySem PySem.Spec PyProof.Rows L2 SX LamX
/-! ### enumerate(tuple) -/
def IteT (K : PySem.W.Frag) (a : Addr) : It :=
  ⟨fun i H => ∃ (xs : List V) (x : V), SqT K H a xs ∧ xs[i]? = some x, fun i H v H' => ∃ T x, v = .ref T ∧ H T = none ∧ H' = upd H T (.tup [.int (i : Nat), x]) ∧ ∀ xs, SqT K H a xs → xs[i]? = some x, fun i H => ∃ xs : List V, SqT K H a xs ∧ i = xs.length⟩
theorem turn_enumT {P : Program} {w : World} {K : PySem.W.Frag} {elts : List Expr} {kk : Nat} {tpos : Pos} (a e it : Addr) :
    Turn P w K (.Tuple elts kk tpos) (IteT K a) [e, it] e (fun i h => (∃ old, IsEnum h e it ((i : Nat) : Int) old) ∧ h.IsTupleIter it a i ∧ e ≠ it ∧ a ≠ it ∧ a ≠ e) where
  mem := by simp
  obj := fun i h st b hb => by
    obtain ⟨⟨old, he⟩, ⟨o, ho, hc, hd⟩, _⟩ := st
    rcases (show b = e ∨ b = it by simpa using hb) with z | z
    · rw [z]
      exact ⟨_, he, fun v q => nomatch q⟩
    · rw [z]
      exact ⟨o, ho, fun v q => by rw [hd] at q; cases q⟩
  keep := fun i h h' st k => by
    obtain ⟨⟨old, he⟩, ⟨o, ho, r⟩, hne⟩ := st
    exact ⟨⟨old, k e (by simp) _ he⟩, ⟨o, k it (by simp) _ ho, r⟩, hne⟩
  item := by
    intro X hP hw hK hc i pins s σ H E I hf st hg
    subst hP hw hK
    obtain ⟨⟨old, he⟩, hit, hne, n1, n2⟩ := st
    obtain ⟨xs, x, hq, hx⟩ := hg
    obtain ⟨its, rv, p, hz⟩ := I.tuple hq
    obtain ⟨u, hu, ru⟩ := rv.get hx
    have el : e < s.heap.objs.size := Heap.lt_size he
    have il : it < s.heap.objs.size := by
      obtain ⟨_, q, _⟩ := hit
      exact Heap.lt_size q
    have D := Draws.tuple (prog := X.prog) (w := X.w) (A := X.A.in1) (I.ok.hd hc) it a n1 its.toArray
    have hlt : i < its.toArray.size := by
      have := (List.getElem?_eq_some_iff.mp hu).1
      simpa using this
    refine wpAny_pyNext_enum_itemD D he ⟨hit, p⟩ hlt hne (by simp [hne, Ne.symm n2]) fun u' h' tk hu' ho hit' hT hz' hk => ?_
    obtain rfl : u = u' := by
      have h1 : its.toArray[i]? = some u := by simpa using hu
      rw [h1] at hu'
      exact Option.some.inj hu'
    refine ⟨_, rfl, wpAny_letOwnedTupleGo_enum (s := { s with heap := h', toks := tk + 1 }) ho fun h2 he' sb => ?_⟩
    have T2 := (sb.2 _ (Nat.ne_of_gt el)).trans hT
    have new : ObjOk X.prog X.w (upd H s.heap.objs.size (.tup [.int (i : Nat), x])) h2 s.heap.objs.size (.tup [.int (i : Nat), x]) :=
      ⟨by show 2 ≤ sizeLine; decide, [.int i tk, u], .cons ⟨_, rfl⟩ (.cons ru .nil), ⟨_, T2, rfl, _, rfl⟩⟩
    have I1 : Inv X pins σ (upd H s.heap.objs.size (.tup [.int (i : Nat), x])) { s with heap := h2, toks := tk + 1 } :=
      I.turnedNew (ch := [e, it]) (fun b ob hb q => (sb.2 b (fun z => hb (by simp [z]))).trans (hk b ob (fun z => hb (by simp [z])) (fun z => hb (by simp [z])) q)) hf (Nat.le_refl _) new
    refine ⟨.ref s.heap.objs.size, _, I1, rfl, ⟨_, x, rfl, I.hok.fresh (Nat.le_refl _), rfl, fun ys hy => by rw [I.tuple_inj hy hq]; exact hx⟩, ⟨⟨u, ?_⟩, ?_, hne, n1, n2⟩, fun b hb => ?_⟩
    · rw [show ((i + 1 : Nat) : Int) = (i : Int) + 1 by omega]
      exact he'
    · obtain ⟨⟨o, ho2, r⟩, _⟩ := hit'
      exact ⟨o, (sb.2 it (Ne.symm hne)).trans ho2, r⟩
    · have hb' : b < s.heap.objs.size := by
        rcases (show b = e ∨ b = it by simpa using hb) with z | z
        · rw [z]
          exact el
        · rw [z]
          exact il
      rw [upd_ne (Nat.ne_of_lt hb')]
      exact (hf b hb).1
  done := by
    intro X hP hw hK hc i pins s σ H E I hf st hg
    subst hP hw hK
    obtain ⟨⟨old, he⟩, hit, hne, n1, n2⟩ := st
    obtain ⟨xs, hq, hx⟩ := hg
    obtain ⟨its, rv, p, hz⟩ := I.tuple hq
    obtain ⟨f0, f1, f2, f3, f4, f5⟩ := hf it (by simp)
    have hl : i = its.toArray.size := by
      rw [hx, rv.length]
      simp
    have D := Draws.tuple (prog := X.prog) (w := X.w) (A := X.A.in1) (I.ok.hd hc) it a n1 its.toArray
    rw [hl] at hit he
    exact wpAny_pyNext_enum_endD D he ⟨hit, p⟩ fun h' eb => ⟨rfl, I.turned (t' := s.toks) (fun b o hb q => eb b o hb q) f0 f1 f3 f4 f5⟩
  self := fun A i s Q E st h => by
    obtain ⟨⟨_, he⟩, _⟩ := st
    exact wpAny_pyIter_enum he h
def iEnumT (K : PySem.W.Frag) (ta : TA) : TI := fun σ H R => ta σ H fun vs H1 => ∃ a xs, vs = [.ref a] ∧ SqT K H1 a xs ∧ R (IteT K a) H1
theorem pi_enumT {X : Cx} {e : Expr} {ta : TA} {p pos tpos : Pos} {elts : List Expr} {kk : Nat} (hg : Gl X "enumerate") (hm : X.mg "enumerate" = none) (ha : PA X [e] ta) (hs : starEach [e] X.env = [(false, eval e X.env)] := by rfl) :
    PI X (.Tuple elts kk tpos) (.Call (.Name "enumerate" p) [e] [] pos) (iEnumT X.K ta) := by
  refine ⟨fun pins s σ H R I h => ?_⟩
  refine Call_ (ld_blt I hg hm boot_enumerate (PyProof.Rows.callWith_type1 (thn (ha.run pos pins s σ H _ I h) fun us s1 hh => ?_) hs rfl))
  obtain ⟨vs, H1, I1, r1, a, xs, rfl, hq, q⟩ := hh
  obtain ⟨u, rfl, rx⟩ := vals1 r1
  cases rx
  obtain ⟨its, rv, pp, hz⟩ := I1.tuple hq
  have hla : a < s1.heap.objs.size := by
    obtain ⟨_, q, _⟩ := pp
    exact Heap.lt_size q
  refine call_enumerate_tuple pp fun h' he hit hsz hk => wpAny_pyIter_enum he ?_
  have I2 : Inv X pins σ H1 { s1 with heap := h' } := I1.kept (t' := s1.toks) hk
  refine ⟨s1.heap.objs.size + 1, [s1.heap.objs.size + 1, s1.heap.objs.size], _, _, H1, rfl, I2, turn_enumT a (s1.heap.objs.size + 1) s1.heap.objs.size, ⟨⟨.none, he⟩, hit, Nat.succ_ne_self _, Nat.ne_of_lt hla, Nat.ne_of_lt (Nat.lt_succ_of_lt hla)⟩, fun b hb => ?_, q⟩
  have hle : s1.heap.objs.size ≤ b := by
    rcases (show b = s1.heap.objs.size + 1 ∨ b = s1.heap.objs.size by simpa using hb) with z | z
    · rw [z]
      exact Nat.le_add_right _ _
    · rw [z]
      exact Nat.le_refl _
  exact I1.fpOk hle (I1.hok.fresh hle)
theorem walk_enumT {K : PySem.W.Frag} {a : Addr} {xs : List V} : Walk (IteT K a) xs.length (fun H => SqT K H a xs) (fun i H v H' => ∃ T x, v = .ref T ∧ H T = none ∧ H' = upd H T (.tup [.int (i : Nat), x]) ∧ xs[i]? = some x) :=
  ⟨fun i _ hi q => ⟨xs, xs[i], q, by simp [hi]⟩, fun _ q => ⟨xs, q, rfl⟩, fun _ _ _ _ _ q y => by
    obtain ⟨T, x, h1, h2, h3, h4⟩ := y
    exact ⟨T, x, h1, h2, h3, h4 xs q⟩⟩
section
variable {J : It} {n : Nat} {G : Hp → Prop} {Y : Nat → Hp → V → Hp → Prop}
/-- a dict comprehension over whatever walks: Pv by the turn and the heap (the new dict at D within) -/
theorem dc_it (w : Walk J n G Y) {g : TG} {tt : TT} {tk tv : TE} {vs : List Nat} {σ : L2.St} {H1 : Hp} {D : Addr} {Qd : Hp → Prop} (Pv : Nat → Hp → Prop) (h0 : Pv 0 (upd H1 D (.dK []))) (hG : ∀ i H, i ≤ n → Pv i H → G H)
    (hs : ∀ i x H H', i < n → Pv i H → Y i H x H' → g x (wipe σ vs) H' fun σ2 H2 => wipe σ2 vs = wipe σ vs ∧ tt σ2 H2 fun b H3 =>
      if b = true then tk σ2 H3 fun y H4 => tv σ2 H4 fun z H5 => ∃ kvs k, y = kV k ∧ H5 D = some (.dK kvs) ∧ kvs.length < sizeLine ∧ Pv (i + 1) (upd H5 D (.dK (putK kvs k z))) else Pv (i + 1) H3) (hd : ∀ H, Pv n H → Qd H) :
    ∃ W : Nat → Nat → Hp → Prop, (∃ m, W 0 m (upd H1 D (.dK []))) ∧ ∀ i m H, W i m H →
      (J.stop i H ∧ Qd H) ∨ (J.go i H ∧ ∃ Nx : Hp → Prop, (∀ H', Nx H' → ∃ m', m' < m ∧ W (i + 1) m' H') ∧ ∀ x H', J.yld i H x H' → g x (wipe σ vs) H' fun σ2 H2 => wipe σ2 vs = wipe σ vs ∧ tt σ2 H2 fun b H3 =>
        if b = true then tk σ2 H3 fun y H4 => tv σ2 H4 fun z H5 => ∃ kvs k, y = kV k ∧ H5 D = some (.dK kvs) ∧ kvs.length < sizeLine ∧ Nx (upd H5 D (.dK (putK kvs k z))) else Nx H3) := by
  refine ⟨fun i m H => m = n - i ∧ i ≤ n ∧ Pv i H, ⟨n, by simp, Nat.zero_le _, h0⟩, ?_⟩
  rintro i m H ⟨rfl, hi, p⟩
  have q := hG i H hi p
  by_cases hlt : i < n
  · refine .inr ⟨w.goes i H hlt q, Pv (i + 1), fun H' p' => ⟨n - (i + 1), by omega, rfl, hlt, p'⟩, fun x H' y => hs i x H H' hlt p (w.yields i H x H' hlt q y)⟩
  · have e : i = n := by omega
    subst e
    exact .inl ⟨w.stops H q, hd H p⟩
end
theorem inK_pe_fld {X : Cx} {K : PySem.W.Frag} {e : Expr} {ta : TE} {f : Str} {pos : Pos} (q : X.K = K) (he : PE X e ta) (hb : attributeBase e f X.env (eval e X.env) = eval e X.env) : PE X (.Attribute e f pos) (tFld K ta f) := q ▸ pe_fld he hb
end Kx
namespace Kx
open PySem PySem.Spec PyProof.Rows L2 SX LamX
/-- a method called by two names, the other way round -/
def selfSwapG {α : Type} (us ws : List α) : List α := match us, ws with | [s], [v, u] => [s, u, v] | _, _ => []
theorem kb_selfSwap {K : PySem.W.Frag} {x qual : Str} {st : Stmt} {f : Addr} {fd : FuncData} {a b c : Str} (F : Fun K x qual st f fd)
    (h : ∀ (kV doc pm : Value) (an : Option Addr) (cdv ct : Value) (s u v : Value), bindArgs (PySem.W.fnOf x qual (defArgs st) (defBody st) (defScope st) .none kV doc pm an cdv ct) ⟨[s], [(c, v), (b, u)]⟩ = pure [(a, s), (b, u), (c, v)]) :
    KBinds K fd [a, b, c] [c, b] selfSwapG selfSwapG := by
  obtain ⟨oc, od, kV, doc, pm, an, cdv, ct, osl, rfl, lk, hcd⟩ := F.ex
  refine ⟨fun s us ws X l => ?_, fun {vs us zs ws} r1 r2 => ?_⟩
  · match us, ws, l with
    | [s], [v, u], _ => exact .of_eq (h kV doc pm an cdv ct s u v)
    | [], _, l => cases l
    | [_], [], l => cases l
    | [_], [_], l => cases l
    | [_], _ :: _ :: _ :: _, l => cases l
    | _ :: _ :: _, _, l => cases l
  · cases r1 with
    | nil => exact .nil
    | cons h1 r1 =>
      cases r1 with
      | cons _ _ => exact .nil
      | nil =>
        cases r2 with
        | nil => exact .nil
        | cons h2 r2 =>
          cases r2 with
          | nil => exact .nil
          | cons h3 r2 =>
            cases r2 with
            | nil => exact .cons h1 (.cons h3 (.cons h2 .nil))
            | cons _ _ => exact .nil
theorem kbn_selfSwap {K : PySem.W.Frag} {x qual : Str} {st : Stmt} {f : Addr} {fd : FuncData} {a b c : Str} (F : Fun K x qual st f fd)
    (h : ∀ (kV doc pm : Value) (an : Option Addr) (cdv ct : Value) (s u v : Value), bindArgs (PySem.W.fnOf x qual (defArgs st) (defBody st) (defScope st) .none kV doc pm an cdv ct) ⟨[s], [(c, v), (b, u)]⟩ = pure [(a, s), (b, u), (c, v)]) :
    KBn K fd [a, b, c] 1 [c, b] selfSwapG selfSwapG := by
  have kb := kb_selfSwap F h
  refine ⟨fun s us ws X l1 l2 => kb.to s us ws X ?_, kb.rel⟩
  match us, ws, l1, l2 with
  | [_], [_, _], _, _ => rfl
end Kx
namespace Kx
open PySem PySem.Spec PyProof.Rows L2 SX LamX
/-! ### texts joined by blanks -/
theorem itemsA_app : ∀ (x acc r : List Nat), 32 ∉ x → itemsA acc (x ++ r) = itemsA (acc ++ x) r
  | [], acc, r, _ => by rw [List.append_nil, List.nil_append]
  | c :: x, acc, r, h => by
    have hc : c ≠ 32 := fun e => h (by rw [e]; exact List.mem_cons_self)
    show (if c = 32 then acc :: itemsA [] (x ++ r) else itemsA (acc ++ [c]) (x ++ r)) = _
    rw [if_neg hc, itemsA_app x (acc ++ [c]) r (fun m => h (List.mem_cons_of_mem _ m)), List.append_assoc]
    rfl
theorem itemsA_one {x acc : List Nat} (h : 32 ∉ x) : itemsA acc x = [acc ++ x] := by
  have := itemsA_app x acc [] h
  rw [List.append_nil] at this
  rw [this]
  rfl
theorem items_join : ∀ (its : List (List Nat)), its ≠ [] → (∀ it ∈ its, 32 ∉ it) → itemsA [] (TL.joinL [32] its) = its
  | [], h, _ => absurd rfl h
  | [x], _, h => by
    show itemsA [] x = [x]
    rw [itemsA_one (h x (List.mem_singleton.mpr rfl))]
    rfl
  | x :: y :: r, _, h => by
    show itemsA [] (x ++ (32 :: TL.joinL [32] (y :: r))) = _
    rw [itemsA_app x [] _ (h x List.mem_cons_self)]
    show (if (32 : Nat) = 32 then ([] ++ x) :: itemsA [] (TL.joinL [32] (y :: r)) else _) = _
    rw [if_pos rfl, items_join (y :: r) (List.cons_ne_nil _ _) (fun it m => h it (List.mem_cons_of_mem _ m))]
    rfl
theorem joinL_all {p : Nat → Bool} (h32 : p 32 = true) : ∀ (its : List (List Nat)), (∀ it ∈ its, it.all p = true) → (TL.joinL [32] its).all p = true
  | [], _ => rfl
  | [x], h => by
    show x.all p = true
    exact h x (List.mem_singleton.mpr rfl)
  | x :: y :: r, h => by
    show (x ++ (32 :: TL.joinL [32] (y :: r))).all p = true
    rw [List.all_append, List.all_cons, h32, joinL_all h32 (y :: r) (fun it m => h it (List.mem_cons_of_mem _ m)), h x List.mem_cons_self]
    rfl
theorem joinL_len {k : Nat} : ∀ (its : List (List Nat)), (∀ it ∈ its, it.length ≤ k) → (TL.joinL [32] its).length ≤ its.length * (k + 1)
  | [], _ => Nat.zero_le _
  | [x], h => by
    show x.length ≤ _
    have := h x (List.mem_singleton.mpr rfl)
    simp only [List.length_cons, List.length_nil]
    omega
  | x :: y :: r, h => by
    have h1 := joinL_len (y :: r) (fun it m => h it (List.mem_cons_of_mem _ m))
    have h2 := h x List.mem_cons_self
    show (x ++ (32 :: TL.joinL [32] (y :: r))).length ≤ _
    rw [List.length_append, List.length_cons]
    rw [List.length_cons (a := x), Nat.succ_mul]
    omega
/-- the length of a joined text -/
theorem joinL_sum : ∀ (its : List (List Nat)), its ≠ [] → (TL.joinL [32] its).length + 1 = (its.map fun it => it.length + 1).sum
  | [], h => absurd rfl h
  | [x], _ => by simp [TL.joinL]
  | x :: y :: r, _ => by
    have h1 := joinL_sum (y :: r) (List.cons_ne_nil _ _)
    show (x ++ (32 :: TL.joinL [32] (y :: r))).length + 1 = (x.length + 1) + ((y :: r).map fun it => it.length + 1).sum
    rw [List.length_append, List.length_cons, ← h1]
    omega
/-! ### slices of texts -/
theorem slice_S (l : List Nat) (lo hi : Option Int) : Txt.slice (S l) lo hi = S ((l.drop (HT.sIx l.length 0 lo)).take (HT.sIx l.length l.length hi - HT.sIx l.length 0 lo)) := by
  rw [← C8.cutS_slice]
  unfold cutS
  rw [S_len]
theorem slice_part {l : List Nat} {lo hi : Option Int} : ∃ m : List Nat, Txt.slice (S l) lo hi = S m ∧ m.length ≤ l.length ∧ ∀ c ∈ m, c ∈ l :=
  ⟨_, slice_S l lo hi, by rw [List.length_take, List.length_drop]; omega, fun c h => List.mem_of_mem_drop (List.mem_of_mem_take h)⟩
theorem slice_fromS (l : List Nat) (k : Nat) : Txt.slice (S l) (some (k : Int)) none = S (l.drop k) := by
  rw [slice_S, HT.sIx_none, HT.sIx_nat]
  by_cases h : k ≤ l.length
  · rw [Nat.min_eq_left h, List.take_of_length_le (by rw [List.length_drop]; omega)]
  · rw [Nat.min_eq_right (by omega), List.drop_of_length_le (Nat.le_refl _), List.drop_of_length_le (by omega), List.take_nil]
theorem slice_toS (l : List Nat) (k : Nat) : Txt.slice (S l) none (some (k : Int)) = S (l.take k) := by
  rw [slice_S, HT.sIx_none, HT.sIx_nat, List.drop_zero, Nat.sub_zero]
  by_cases h : k ≤ l.length
  · rw [Nat.min_eq_left h]
  · rw [Nat.min_eq_right (by omega), List.take_of_length_le (Nat.le_refl _), List.take_of_length_le (by omega)]
theorem sum_S_le {k : Nat} : ∀ its : List (List Nat), (∀ it ∈ its, it.length ≤ k) → ((its.map S).map (·.length)).sum ≤ its.length * k
  | [], _ => Nat.zero_le _
  | x :: r, h => by
    have h1 := sum_S_le r (fun it m => h it (List.mem_cons_of_mem _ m))
    have h2 := h x List.mem_cons_self
    have h3 : (S x).length = x.length := S_len x
    show (S x).length + ((r.map S).map (·.length)).sum ≤ (r.length + 1) * k
    rw [h3, Nat.succ_mul]
    omega
theorem inK_call_list_of {X : Cx} {K : PySem.W.Frag} (e : X.K = K) : CallR X (.type "list") (fun xs H Q => ∃ p ys, xs = [.ref p] ∧ (SqL K H p ys ∨ SqT K H p ys) ∧ ∀ l, H l = none → Q (.ref l) (upd H l (.lst ys))) := e ▸ call_list_of
end Kx
/-! ### replace of one written text, once -/
namespace Kx
open PySem PySem.Spec PyProof.Rows L2 SX LamX PySem.Builtin PySem.Builtin.Str
theorem gives_str_replace_n (x y z : Str) (t u v w : Tok) (n : Nat) (hn : n < 1000)
    (hf : ((occurrences x y 0 x.length n).isEmpty || (y.length == 0 && z.length == 0)) = false →
      (u == 0 || v == 0) = false ∧ (u == v) = false ∧ (y == z) = false ∧ tooLong (x.length + (occurrences x y 0 x.length n).length * z.length) = false) :
    Gives («str.replace» ⟨[.str x t, .str y u, .str z v, .int n w], []⟩) (if ((occurrences x y 0 x.length n).isEmpty || (y.length == 0 && z.length == 0)) = true then .val (.str x t) else .str (glued z (partsBetween x (occurrences x y 0 x.length n) y.length))) := by
  have key : «str.replace» ⟨[.str x t, .str y u, .str z v, .int n w], []⟩ = (do
      let limit ← countLimit "str.replace" (some (.int n w)) (x.length + 1)
      if ((occurrences x y 0 x.length limit).isEmpty || (y.length == 0 && z.length == 0)) = true then (do rule "str.replace.nothing"; ret (.str x t)) else
          (do let same ← isSame (.str y u) (.str z v)
              if same = true then (do rule "str.replace.old-is-new"; ret (.str x t)) else
              if tooLong (x.length + (occurrences x y 0 x.length limit).length * z.length) = true then unsupported "str.replace:memory" else
              retStr (glued z (partsBetween x (occurrences x y 0 x.length limit) y.length)))) := rfl
  have cl : countLimit "str.replace" (some (.int n w)) (x.length + 1) = pure n := by
    rw [countLimit_int _ _ _ _ (by rw [decide_eq_false (show ¬ ((n : Int) < -(2 ^ 63 : Int)) by omega), decide_eq_false (show ¬ ((n : Int) ≥ 2 ^ 63) by omega)]; rfl), if_neg (by omega)]
    rfl
  rw [key, cl]
  show Gives (if ((occurrences x y 0 x.length n).isEmpty || (y.length == 0 && z.length == 0)) = true then (do rule "str.replace.nothing"; ret (.str x t)) else
          (do let same ← isSame (.str y u) (.str z v)
              if same = true then (do rule "str.replace.old-is-new"; ret (.str x t)) else
              if tooLong (x.length + (occurrences x y 0 x.length n).length * z.length) = true then unsupported "str.replace:memory" else
              retStr (glued z (partsBetween x (occurrences x y 0 x.length n) y.length)))) _
  cases hc : ((occurrences x y 0 x.length n).isEmpty || (y.length == 0 && z.length == 0))
  · obtain ⟨h0, huv, hyz, hl⟩ := hf hc
    rw [isSame_str_other y z u v h0 huv hyz, hl]
    exact .of_eq rfl
  · exact .rule (.of_eq rfl)
/-- what is left of x when the first y is gone, of one sign -/
def repOne (x y : Str) : Str := if (occurrences x y 0 x.length 1).isEmpty = true then x else glued ⟨#[]⟩ (partsBetween x (occurrences x y 0 x.length 1) y.length)
theorem repOne_eq (x y : Str) : repOne x y = x ∨ ∃ i, repOne x y = ⟨x.cps.extract 0 i ++ #[] ++ x.cps.extract (i + y.length) x.length⟩ := by
  unfold repOne
  cases hc : (occurrences x y 0 x.length 1) with
  | nil => exact .inl rfl
  | cons i r =>
    have h1 := StrLaws.occ_length_le x y 0 x.length 1
    rw [hc] at h1
    cases r with
    | nil => exact .inr ⟨i, rfl⟩
    | cons j t => simp at h1
theorem repOne_S (l : List Nat) (y : Str) : ∃ m : List Nat, repOne (S l) y = S m ∧ m.length ≤ l.length + l.length ∧ ∀ c ∈ m, c ∈ l := by
  rcases repOne_eq (S l) y with h | ⟨i, h⟩
  · exact ⟨l, h, by omega, fun c m => m⟩
  · refine ⟨((S l).cps.extract 0 i ++ #[] ++ (S l).cps.extract (i + y.length) (S l).length).toList, ?_, ?_, fun c m => ?_⟩
    · rw [h]
    · simp [S]
      omega
    · simp [S] at m
      rcases m with m | m
      · exact List.mem_of_mem_take m
      · exact List.mem_of_mem_drop (List.mem_of_mem_take m)
theorem SC_replace1 {prog : Program} {w : World} {A : Around} {E : Value → Shared → Prop} {s : Shared} {x y : Str} {t u v w1 : Tok} {Q : Value → Shared → Prop} (hu : u ≠ 0) (hv : v ≠ 0) (huv : u ≠ v) (hyz : (y == (⟨#[]⟩ : Str)) = false) (hy : (y.length == 0) = false) (hb : x.length ≤ 1000000)
    (hq : ∀ t' k, Q (.str (repOne x y) t') { s with toks := k }) : wpAny (model prog w) A (call (.builtin "str.replace") [.str x t, .str y u, .str ⟨#[]⟩ v, .int 1 w1]) Q E s := by
  have hl : tooLong (x.length + (occurrences x y 0 x.length 1).length * Str.length ⟨#[]⟩) = false := by
    show decide (x.length + (occurrences x y 0 x.length 1).length * 0 > sizeLine) = false
    rw [Nat.mul_zero]
    exact decide_eq_false (by show ¬ (sizeLine < x.length + 0); have : (1000000 : Nat) ≤ sizeLine := by decide
                              omega)
  refine call_gives F.slot_str_replace (typeIs_str _ _ _) F.entry_str_replace (F.args_str_replace_4 _ _ _ _)
    (gives_str_replace_n x y ⟨#[]⟩ t u v w1 1 (by decide) fun _ => ⟨by simp [hu, hv], by simp [huv], hyz, hl⟩) ?_
  have hq' := hq
  unfold repOne at hq'
  cases hc : (occurrences x y 0 x.length 1).isEmpty
  · rw [hc] at hq'
    rw [hy]
    simp only [Bool.false_eq_true, if_false, Bool.false_and, Bool.or_false] at hq' ⊢
    have hr : (glued ⟨#[]⟩ (partsBetween x (occurrences x y 0 x.length 1) y.length)).length ≤ x.length + x.length := by
      have h1 := repOne_eq x y
      unfold repOne at h1
      rw [hc] at h1
      simp only [Bool.false_eq_true, if_false] at h1
      rcases h1 with h1 | ⟨i, h1⟩
      · rw [h1]
        omega
      · rw [h1]
        show (x.cps.extract 0 i ++ #[] ++ x.cps.extract (i + y.length) x.length).size ≤ _
        have hx : x.length = x.cps.size := rfl
        simp [hx]
        omega
    exact ⟨Nat.le_trans hr (by have : (2000000 : Nat) ≤ sizeLine := by decide
                               omega), hq' _ _⟩
  · rw [hc] at hq'
    simp only [if_true, Bool.true_or] at hq' ⊢
    exact hq' t s.toks
end Kx
namespace Kx
open PySem PySem.Spec PyProof.Rows L2 CwR
def tRep1 (to : TE) (y : Str) : TE := fun σ H Q => to σ H fun v H1 => ∃ x, v = .str x ∧ x.length ≤ 1000000 ∧ Q (.str (repOne x y)) H1
section
variable {X : Cx} {o : Expr} {to : TE} {y z : Str} {j k l : Nat} {c0 c1 c2 apos pos : Pos}
theorem pet_repl1 (ho : PE X o to) (hz : z = ⟨#[]⟩) (hyz : (y == (⟨#[]⟩ : Str)) = false) (hy : (y.length == 0) = false)
    (hst : starEach [.Constant (.str y) j c0, .Constant (.str z) k c1, .Constant (.int 1) l c2] X.env = [(false, eval (.Constant (.str y) j c0) X.env), (false, eval (.Constant (.str z) k c1) X.env), (false, eval (.Constant (.int 1) l c2) X.env)])
    (hbase : attributeBase o "replace" X.env (eval o X.env) = eval o X.env) (hline : (apos.endLine == pos.line) = true) :
    PET X (.Call (.Attribute o "replace" apos) [.Constant (.str y) j c0, .Constant (.str z) k c1, .Constant (.int 1) l c2] [] pos) (tRep1 to y) := by
  intro pins s σ H Q h0 I h
  refine PySem.wpAny_Call_method_lateS hbase (by rw [hst]; rfl) hline ?_
  rw [hst]
  refine (wpAny_mono (PySem.wpAny_toks (ho.run pins s σ H _ I h)) (fun v s1 q => ?_) fun _ _ z => z.2)
  obtain ⟨hk, v', H1, I1, r1, x, e1, hb, q⟩ := q
  subst e1
  obtain ⟨tx, e2⟩ := r1
  subst e2
  refine ⟨"str", _, PySem.F.plainAttrs_str, PySem.F.slot_str_replace, PySem.F.type_str_replace, typeIs_str _ _ _, (fun _ e => nomatch e), Calls.callWith_builtin rfl (Calls.evalArgs_plain (Calls.spliced_cons ?_))⟩
  refine Calls.Constant_str (k := j) (pos := c0) (Calls.spliced_cons (Calls.Constant_str (k := k) (pos := c1) (Calls.spliced_cons (PySem.wpAny_Constant_int (i := 1) (k := l) (pos := c2) (Calls.spliced_nil ?_)))))
  subst hz
  exact SC_replace1 (by show s1.toks ≠ 0; omega) (by show s1.toks + 1 ≠ 0; omega) (by show s1.toks ≠ s1.toks + 1; omega) hyz hy hb fun t' k => ⟨.str (repOne x y), H1, I1.tok k, ⟨t', rfl⟩, q⟩
end
theorem inK_ix_seq {X : Cx} {K : PySem.W.Frag} (e : X.K = K) : IxR X (rIx K) := e ▸ ix_seq
end Kx
namespace Kx
open PySem PySem.Spec PyProof.Rows L2 SX LamX
section
variable {X : Cx}
/-- repr of a text -/
def rReprS : List V → Hp → VK → Prop := fun xs H Q => ∃ (x : Str), xs = [.str x] ∧ (PyData.str x).shown.length ≤ sizeLine ∧ Q (.str (PyData.str x).shown) H
theorem call_reprS : CallR X (.builtin "repr") rReprS := by
  intro pins s σ H xs us Q I r h
  obtain ⟨x, rfl, hl, q⟩ := h
  obtain ⟨u, rfl, t, rfl⟩ := vals1 r
  exact PySem.P.repr_of_str (x := x) ⟨.str (PyData.str x).shown, H, I.tok _, ⟨_, rfl⟩, q⟩ hl
end
/-- repr(x) != repr(y), of one and the same text -/
theorem nerepr_s {σ : L2.St} {H : Hp} {ta tb : TE} (l : List Nat) (hl : cdC l) (hm : l.length ≤ 1048576) {Q : Bool → Hp → Prop}
    (ha : ∀ Q : VK, (∀ H', Same H H' → Q (.str (S l)) H') → ta σ H Q)
    (hb : ∀ H0, Same H H0 → ∀ Q : VK, (∀ H', Same H0 H' → Q (.str (S l)) H') → tb σ H0 Q)
    (h : ∀ H', Same H H' → Q false H') : tTest (tOp rNe (tCB rReprS (tCons ta tNil)) (tCB rReprS (tCons tb tNil))) σ H Q := by
  have sz := (sh_str (x := S l) rfl hl).len hm
  refine go_test (go_op (go_cb (go_cons (ha _ fun H1 e1 => go_nil ⟨S l, rfl, sz, go_cb (go_cons (hb H1 e1 _ fun H2 e2 => go_nil ⟨S l, rfl, sz, rfl, false, ?_, h H2 (e1.trans e2)⟩))⟩))))
  rw [ne_self]
def rev3G {α : Type} (us ws : List α) : List α := match us, ws with | [], [c, b, a] => [a, b, c] | _, _ => []
theorem kb_rev3 {K : PySem.W.Frag} {x qual : Str} {st : Stmt} {f : Addr} {fd : FuncData} {a b c : Str} (F : Fun K x qual st f fd)
    (h : ∀ (kV doc pm : Value) (an : Option Addr) (cdv ct : Value) (u v w : Value), bindArgs (PySem.W.fnOf x qual (defArgs st) (defBody st) (defScope st) .none kV doc pm an cdv ct) ⟨[], [(c, w), (b, v), (a, u)]⟩ = pure [(a, u), (b, v), (c, w)]) :
    KBinds K fd [a, b, c] [c, b, a] rev3G rev3G := by
  obtain ⟨oc, od, kV, doc, pm, an, cdv, ct, osl, rfl, lk, hcd⟩ := F.ex
  refine ⟨fun s us ws X l => ?_, fun {vs us zs ws} r1 r2 => ?_⟩
  · match us, ws, l with
    | [], [w, v, u], _ => exact .of_eq (h kV doc pm an cdv ct u v w)
    | [], [], l => cases l
    | [], [_], l => cases l
    | [], [_, _], l => cases l
    | [], _ :: _ :: _ :: _ :: _, l => cases l
    | _ :: _, _, l => cases l
  · cases r1 with
    | cons _ _ => exact .nil
    | nil =>
      cases r2 with
      | nil => exact .nil
      | cons h1 r2 =>
        cases r2 with
        | nil => exact .nil
        | cons h2 r2 =>
          cases r2 with
          | nil => exact .nil
          | cons h3 r2 =>
            cases r2 with
            | nil => exact .cons h3 (.cons h2 (.cons h1 .nil))
            | cons _ _ => exact .nil
end Kx
namespace Kx
open PySem PySem.Spec PyProof.Rows L2 SX LamX
/-! zip of a list with a tuple -/
def ItzM (K : PySem.W.Frag) (a b : Addr) : It where
  go i H := ∃ (xs ys : List V) (x y : V), SqL K H a xs ∧ SqT K H b ys ∧ xs[i]? = some x ∧ ys[i]? = some y
  yld i H v H' := ∃ T x y, v = .ref T ∧ H T = none ∧ H' = upd H T (.tup [x, y]) ∧ (∀ xs, SqL K H a xs → xs[i]? = some x) ∧ ∀ ys, SqT K H b ys → ys[i]? = some y
  stop i H := ∃ xs ys : List V, SqL K H a xs ∧ SqT K H b ys ∧ i = min xs.length ys.length
structure Aps (z TI TO i1 i2 a b : Addr) : Prop where
  s : ZipSep2 z TI TO i1 i2 [i1, a] [i2, b]
  a1 : a ≠ i1
  b2 : b ≠ i2
theorem aps_new {n a b : Nat} (ha : a < n) (hb : b < n) : Aps (n + 4) (n + 2) (n + 3) n (n + 1) a b := by
  have ne : ∀ {x y : Nat}, (x < y ∨ y < x) → (show Addr from x) ≠ y := fun {x y} h e => by
    have e : x = y := e
    omega
  have no : ∀ {x p q : Nat}, (x < p ∨ p < x) → (x < q ∨ q < x) → (show Addr from x) ∉ ([p, q] : List Addr) := fun h1 h2 m => by
    simp only [List.mem_cons, List.not_mem_nil, or_false] at m
    rcases m with e | e
    · exact ne h1 e
    · exact ne h2 e
  exact ⟨⟨ne (by omega), ne (by omega), ne (by omega), ne (by omega), List.mem_cons_self, no (by omega) (by omega), no (by omega) (by omega), ne (by omega), List.mem_cons_self, no (by omega) (by omega), no (by omega) (by omega), no (by omega) (by omega), no (by omega) (by omega)⟩, ne (by omega), ne (by omega)⟩
theorem turn_zipM {P : Program} {w : World} {K : PySem.W.Frag} {elts : List Expr} {kk : Nat} {tpos : Pos} {a b z TI TO i1 i2 : Addr} (D : Aps z TI TO i1 i2 a b) :
    Turn P w K (.Tuple elts kk tpos) (ItzM K a b) [z, TI, TO, i1, i2] z (fun i h => IsZip h z TI TO .none ∧ IsTupOf2 h TI (.ref i1) (.ref i2) ∧ (∃ x y, IsTupOf2 h TO x y) ∧ h.IsListIter i1 a i ∧ h.IsTupleIter i2 b i) where
  mem := List.mem_cons_self
  obj := fun i h ⟨hz, hI, ⟨x, y, hO⟩, ⟨o1, e1, _, d1⟩, ⟨o2, e2, _, d2⟩⟩ c hc => by
    simp only [List.mem_cons, List.not_mem_nil, or_false] at hc
    rcases hc with rfl | rfl | rfl | rfl | rfl
    · exact ⟨_, hz, fun v q => by cases q⟩
    · exact ⟨_, hI, fun v q => by cases q⟩
    · exact ⟨_, hO, fun v q => by cases q⟩
    · exact ⟨o1, e1, fun v q => by rw [d1] at q; cases q⟩
    · exact ⟨o2, e2, fun v q => by rw [d2] at q; cases q⟩
  keep := fun i h h' ⟨hz, hI, ⟨x, y, hO⟩, h1, h2⟩ k =>
    ⟨k z (by simp) _ hz, k TI (by simp) _ hI, ⟨x, y, k TO (by simp) _ hO⟩, h1.at fun o => k i1 (by simp) o, h2.at fun o => k i2 (by simp) o⟩
  item := by
    intro X hP hw hK hc i pins s σ H E I hf st hg
    subst hP hw hK
    obtain ⟨hz, hI, ⟨x0, y0, hO⟩, h1, h2⟩ := st
    obtain ⟨xs, ys, x, y, hqx, hqy, hx, hy⟩ := hg
    obtain ⟨us, rv, pl, _⟩ := I.list hqx
    obtain ⟨vs, rw_, pt, _⟩ := I.tuple hqy
    obtain ⟨u, hu, ru⟩ := rv.get hx
    obtain ⟨v, hv, rv'⟩ := rw_.get hy
    have lz : z < s.heap.objs.size := Heap.lt_size hz
    have hd : X.A.in1.handled = none := I.ok.hd hc
    have iu := (List.getElem?_eq_some_iff.mp hu).1
    have iv := (List.getElem?_eq_some_iff.mp hv).1
    refine wpAny_pyNext_zipD2_item D.s (Draws.list hd i1 a D.a1 us.toArray) (Draws.tuple hd i2 b D.b2 vs.toArray) hz hI hO ⟨h1, pl.isList⟩ ⟨h2, pt⟩ (by simpa using iu) (by simpa using iv) fun x1 x2 g tk e1 e2 g1 g2 g3 g4 g5 g6 gk => ?_
    have hu' : us.toArray[i]? = some u := by simpa using hu
    have hv' : vs.toArray[i]? = some v := by simpa using hv
    rw [hu'] at e1
    rw [hv'] at e2
    cases e1
    cases e2
    refine ⟨_, rfl, wpAny_letOwnedTupleGo_zip (s := { s with heap := g, toks := tk }) g1 fun k k1 sb => ?_⟩
    have kT : k.get? s.heap.objs.size = some { cls := .type "tuple", data := .seq #[u, v] } := (sb.2 _ (Nat.ne_of_gt lz)).trans g5
    have lt : ∀ c ∈ [z, TI, TO, i1, i2], c < s.heap.objs.size := fun c hc => by
      simp only [List.mem_cons, List.not_mem_nil, or_false] at hc
      rcases hc with rfl | rfl | rfl | rfl | rfl
      · exact lz
      · exact Heap.lt_size hI
      · exact Heap.lt_size hO
      · obtain ⟨_, e, _⟩ := h1
        exact Heap.lt_size e
      · obtain ⟨_, e, _⟩ := h2
        exact Heap.lt_size e
    have J : Inv X pins σ (upd H s.heap.objs.size (.tup [x, y])) { s with heap := k, toks := tk } :=
      I.turnedNew (t' := tk) (ch := [z, TI, TO, i1, i2]) (fun c o hb q => by
        simp only [List.mem_cons, List.not_mem_nil, or_false, not_or] at hb
        exact (sb.2 c hb.1).trans (gk c o hb.1 hb.2.2.1 hb.2.2.2.1 hb.2.2.2.2 q)) hf (Nat.le_refl _) ⟨by show 2 ≤ sizeLine; decide, [u, v], .cons ru (.cons rv' .nil), ⟨_, kT, rfl, _, rfl⟩⟩
    refine ⟨.ref s.heap.objs.size, _, J, rfl, ⟨_, x, y, rfl, I.hok.fresh (Nat.le_refl _), rfl, fun l hl => by rw [I.list_inj hl hqx]; exact hx, fun l hl => by rw [I.tuple_inj hl hqy]; exact hy⟩,
      ⟨k1, (sb.2 _ D.s.TIz).trans (gk _ _ D.s.TIz D.s.TITO D.s.TIi1 D.s.TIi2 hI), ⟨u, v, (sb.2 _ D.s.TOz).trans g2⟩, g3.1.at fun o q => (sb.2 _ D.s.zi1.symm).trans q, g4.1.at fun o q => (sb.2 _ D.s.zi2.symm).trans q⟩, fun c hc => ?_⟩
    rw [upd_ne (Nat.ne_of_lt (lt c hc))]
    exact (hf c hc).1
  done := by
    intro X hP hw hK hc i pins s σ H E I hf st hg
    subst hP hw hK
    obtain ⟨hz, hI, ⟨x0, y0, hO⟩, h1, h2⟩ := st
    obtain ⟨xs, ys, hqx, hqy, hend⟩ := hg
    obtain ⟨us, rv, pl, _⟩ := I.list hqx
    obtain ⟨vs, rw_, pt, _⟩ := I.tuple hqy
    have l1 := rv.length
    have l2 := rw_.length
    have hd : X.A.in1.handled = none := I.ok.hd hc
    exact wpAny_pyNext_zipD2_end D.s (Draws.list hd i1 a D.a1 us.toArray) (Draws.tuple hd i2 b D.b2 vs.toArray) hz hI hO ⟨h1, pl.isList⟩ ⟨h2, pt⟩ (by simp; omega) (by simp; omega) (by simp; omega) fun g tk gk =>
      ⟨rfl, I.turnedL (t' := tk) (ch := [z, TI, TO, i1, i2]) (fun c o hb q => by
        simp only [List.mem_cons, List.not_mem_nil, or_false, not_or] at hb
        exact gk c o hb.1 hb.2.2.1 hb.2.2.2.1 hb.2.2.2.2 q) hf⟩
  self := fun A i s Q E st h => wpAny_pyIter_zip st.1 h
/-- zip(LIST, LIST OR TUPLE) -/
def iZipM (K : PySem.W.Frag) (ta : TA) : TI := fun σ H R => ta σ H fun vs H1 => ∃ a b xs ys, vs = [.ref a, .ref b] ∧ SqL K H1 a xs ∧ ((SqL K H1 b ys ∧ R (Itz K a b) H1) ∨ (SqT K H1 b ys ∧ R (ItzM K a b) H1))
theorem pi_zipM {X : Cx} {e e2 : Expr} {ta : TA} {p pos tpos : Pos} {elts : List Expr} {kk : Nat} (hg : Gl X "zip") (hm : X.mg "zip" = none) (ha : PA X [e, e2] ta)
    (st : starEach [e, e2] X.env = (false, eval e X.env) :: starEach [e2] X.env := by rfl) (pl : (backTo pos (starEach [e2] X.env)).any (·.1) = false := by rfl) :
    PI X (.Tuple elts kk tpos) (.Call (.Name "zip" p) [e, e2] [] pos) (iZipM X.K ta) := by
  constructor
  intro pins s σ H R I h
  refine Call_ (ld_blt I hg hm PyProof.Rows.boot_zip (PyProof.Rows.callWith_type1 (thn (ha.run pos pins s σ H _ I h) fun us s1 hq => ?_) st pl))
  obtain ⟨vs, H1, I1, r1, a, b, xs, ys, rfl, hx, q⟩ := hq
  obtain ⟨ua, ub, rfl, ra, rb⟩ : ∃ x y, us = [x, y] ∧ RelV (.ref a) x ∧ RelV (.ref b) y := by
    match us, r1 with
    | [x, y], .cons h1 (.cons h2 .nil) => exact ⟨x, y, rfl, h1, h2⟩
  cases ra
  cases rb
  have up : ∀ c, s1.heap.objs.size ≤ c → FpOk X pins H1 c := fun c l => I1.fpOk l (I1.hok.fresh l)
  have ups : ∀ c ∈ [s1.heap.objs.size + 4, s1.heap.objs.size + 2, s1.heap.objs.size + 3, s1.heap.objs.size, s1.heap.objs.size + 1], FpOk X pins H1 c := fun c m => up c (by
    simp only [List.mem_cons, List.not_mem_nil, or_false] at m
    rcases m with e | e | e | e | e <;> rw [e] <;> first | exact Nat.le_refl _ | exact Nat.le_add_right _ _)
  obtain ⟨us, rv, pa, _⟩ := I1.list hx
  rcases q with ⟨hy, q⟩ | ⟨hy, q⟩
  · obtain ⟨vs, rw_, pb, _⟩ := I1.list hy
    refine call_zip_2 pa.isList pb.isList fun g g1 g2 g3 g4 g5 _ gk => wpAny_pyIter_zip g1 ?_
    exact ⟨_, [s1.heap.objs.size + 4, s1.heap.objs.size + 2, s1.heap.objs.size + 3, s1.heap.objs.size, s1.heap.objs.size + 1], _, _, H1, rfl, I1.kept (t' := s1.toks) gk, turn_zip (PySem.W.ktu_apart _ a b pa.lt pb.lt), ⟨g1, g2, ⟨_, _, g3⟩, g4, g5⟩, ups, q⟩
  · obtain ⟨vs, rw_, pb, _⟩ := I1.tuple hy
    have lb : b < s1.heap.objs.size := by
      obtain ⟨_, e, _⟩ := id pb
      exact Heap.lt_size e
    refine zip_begins2 (begins_list a us.toArray) (begins_tuple b vs.toArray) pa.isList pb fun g g1 g2 g3 g4 g5 _ gk => wpAny_pyIter_zip g1 ?_
    exact ⟨_, [s1.heap.objs.size + 4, s1.heap.objs.size + 2, s1.heap.objs.size + 3, s1.heap.objs.size, s1.heap.objs.size + 1], _, _, H1, rfl, I1.kept (t' := s1.toks) gk, turn_zipM (aps_new pa.lt lb), ⟨g1, g2, ⟨_, _, g3⟩, ⟨_, g4, rfl, rfl⟩, ⟨_, g5, rfl, rfl⟩⟩, ups, q⟩
theorem walk_zipM {K : PySem.W.Frag} {a b : Addr} {xs ys : List V} {n : Nat} (hn : n = min xs.length ys.length) : Walk (ItzM K a b) n (fun H => SqL K H a xs ∧ SqT K H b ys) (YPair (fun i => xs[i]?) (fun i => ys[i]?)) where
  goes i H hi q := ⟨xs, ys, xs[i]'(by omega), ys[i]'(by omega), q.1, q.2, List.getElem?_eq_getElem (by omega), List.getElem?_eq_getElem (by omega)⟩
  stops H q := ⟨xs, ys, q.1, q.2, hn⟩
  yields i H v H' _ q y := by
    obtain ⟨T, x, z, h1, h2, h3, h4, h5⟩ := y
    exact ⟨T, x, z, h1, h2, h3, h4 xs q.1, h5 ys q.2⟩
section
variable {K : PySem.W.Frag} {a b : Addr} {xs ys : List V} {g : TG} {tt : TT} {te : TE} {vs : List Nat} {σ : L2.St} {H : Hp} {k l : Nat} {Q : VK}
/-- [e for x, y in zip(LIST NAME, SEQUENCE NAME)]: by the turn and the heap -/
theorem lc_zipM (hi : σ[k]? = some (some (.ref a))) (hj : σ[l]? = some (some (.ref b))) (hq : SqL K H a xs) (hp : SqQ K H b ys)
    (Pv : Addr → Nat → Hp → Prop) (h0 : ∀ D, H D = none → Pv D 0 (upd H D (.lst []))) (hG : ∀ D i H', Pv D i H' → Same H H')
    (hs : ∀ D i x y t H', H D = none → xs[i]? = some x → ys[i]? = some y → Pv D i H' → H' t = none → g (.ref t) (wipe σ vs) (upd H' t (.tup [x, y])) fun σ2 H2 => wipe σ2 vs = wipe σ vs ∧ tt σ2 H2 fun b H3 => if b = true then te σ2 H3 fun y H4 => ∃ acc, H4 D = some (.lst acc) ∧ acc.length < sizeLine ∧ Pv D (i + 1) (upd H4 D (.lst (acc ++ [y]))) else Pv D (i + 1) H3)
    (hd : ∀ D H', H D = none → Pv D (min xs.length ys.length) H' → Q (.ref D) H') : tLc (iZipM K (tCons (tVar k) (tCons (tVar l) tNil))) g tt te vs σ H Q := by
  rcases hp with hp | hp
  · exact ⟨_, hi, _, hj, a, b, xs, ys, rfl, hq, .inl ⟨hp, fun D nD => lc_it (walk_zip rfl) (Pv D) (h0 D nD) (fun i H' _ p => ⟨(hG D i H' p).seq hq, (hG D i H' p).seq hp⟩) (fun i x Hc Hx hi p y => by
      obtain ⟨t, x', y', rfl, nt, rfl, e1, e2⟩ := y
      exact hs D i x' y' t _ nD e1 e2 p nt) (fun H' p => hd D H' nD p)⟩⟩
  · exact ⟨_, hi, _, hj, a, b, xs, ys, rfl, hq, .inr ⟨hp, fun D nD => lc_it (walk_zipM rfl) (Pv D) (h0 D nD) (fun i H' _ p => ⟨(hG D i H' p).seq hq, Same.t (hG D i H' p) hp⟩) (fun i x Hc Hx hi p y => by
      obtain ⟨t, x', y', rfl, nt, rfl, e1, e2⟩ := y
      exact hs D i x' y' t _ nD e1 e2 p nt) (fun H' p => hd D H' nD p)⟩⟩
end
end Kx
namespace Kx
open PySem PySem.Spec PyProof.Rows L2 SX LamX
/-! ### a call of a name that holds one of some functions -/
/-- f, called with what sp wishes, gives what is promised -/
def RunF (X : Cx) (f : Addr) (sp : Sp) (E : XK) : Prop := PySem.W.keepIn X.K (.ref f) = true ∧ ∀ (pins : List (Addr × Obj)) (σ : L2.St) (H : Hp) (s : Shared) (Q : VK) (us : List Value) (vs : List V),
  Inv X pins σ H s → Vals vs us → sp vs H Q E → wpAny (model X.prog X.w) X.A (call (.ref f) us) (EP X pins σ Q) X.xe s
section
variable {X : Cx} {CX : CXT} {k i : Nat} {f : Addr} {fd : FuncData} {ps : List Str} {sp sp2 : Sp} {E : XK} {x : Str} {p pos : Pos} {e : Expr} {es : List Expr} {t : TA}
theorem RunF.of (F : FnOk X.prog X.w X.K X.mg X.base CX k f fd ps sp) (hr : Room k X.A) (hk : PySem.W.keepIn X.K (.ref f) = true) (hb : Binds X.K fd ps []) (hx : Passes CX X E) : RunF X f sp E :=
  ⟨hk, fun pins σ H s Q us vs I r h => run_fn F hr hb .nil hx I r (by rw [List.append_nil]; exact h)⟩
theorem RunF.mono (R : RunF X f sp E) (h : ∀ vs H Q, sp2 vs H Q E → sp vs H Q E) : RunF X f sp2 E := ⟨R.1, fun pins σ H s Q us vs I r q => R.2 pins σ H s Q us vs I r (h vs H Q q)⟩
theorem pe_callV {fs : List Addr} (hN : X.N[i]? = some x) (hv : Vis X.env.scope x) (hF : ∀ f ∈ fs, RunF X f sp E) (ha : PA X (e :: es) t) (hd : (x == ("__debug__" : Str)) = false := by decide) (hcd : (x == ("__classdict__" : Str)) = false := by decide)
    (he : starEach (e :: es) X.env = (false, eval e X.env) :: starEach es X.env := by rfl) (hpl : (backTo pos (starEach es X.env)).any (·.1) = false := by rfl) :
    PE X (.Call (.Name x p) (e :: es) [] pos) (fun σ H Q => ∃ f, f ∈ fs ∧ σ[i]? = some (some (.ref f)) ∧ t σ H fun vs H1 => sp vs H1 Q E) := by
  refine ⟨fun pins s σ H Q I h => ?_⟩
  obtain ⟨f, hf, hs, hq⟩ := h
  refine wpAny_Call_Name_kw (thn ((pe_var (pos := p) (i := i) hN hv hd hcd).run pins s σ H (fun v H1 => v = .ref f ∧ H1 = H) I ⟨.ref f, hs, rfl, rfl⟩) fun u s1 hh => ?_)
  obtain ⟨v, H1, I1, r1, rfl, rfl⟩ := hh
  obtain rfl : u = Value.ref f := r1
  refine PySem.W.callWith_K (h₀ := X.base) I1.ok.mod.kin (hF f hf).1 (thn (ha.run pos pins s1 σ H1 _ I1 hq) fun us s2 ⟨vs, H2, I2, r, q⟩ => ⟨I2.kIn, ?_⟩) he hpl
  exact (hF f hf).2 pins σ H2 s2 Q us vs I2 r q
end
end Kx
namespace Kx
open PySem PySem.Spec PyProof.Rows L2 SX LamX
/-! ### x[::2], a tuple -/
def evens {α : Type} : List α → List α
  | [] => []
  | [a] => [a]
  | a :: _ :: r => a :: evens r
theorem evens_len {α : Type} : ∀ xs : List α, (evens xs).length = (xs.length + 1) / 2
  | [] => by simp [evens]
  | [a] => by simp [evens]
  | a :: b :: r => by
    show (evens r).length + 1 = (r.length + 1 + 1 + 1) / 2
    rw [evens_len r]
    omega
theorem evens_pick {α : Type} : ∀ xs : List α, (List.range ((xs.length + 1) / 2)).filterMap (fun m => xs[2 * m]?) = evens xs
  | [] => by simp [evens]
  | [a] => by simp [evens, List.range_succ]
  | a :: b :: r => by
    have ih := evens_pick r
    have e : ((a :: b :: r).length + 1) / 2 = (r.length + 1) / 2 + 1 := by
      simp only [List.length_cons]
      omega
    rw [e, List.range_succ_eq_map, List.filterMap_cons, List.filterMap_map]
    show a :: List.filterMap ((fun m => (a :: b :: r)[2 * m]?) ∘ Nat.succ) (List.range ((r.length + 1) / 2)) = a :: evens r
    rw [← ih]
    congr 1
theorem adjust_two (n : Nat) : Builtin.Slice.sliceAdjust none none 2 (n : Int) = (0, (n : Int)) := rfl
theorem places_two (n : Nat) : Builtin.Slice.slicePlaces (0 : Int) (n : Int) 2 = (n + 1) / 2 := by
  unfold Builtin.Slice.slicePlaces
  have h1 : (2 : Int) > 0 := by omega
  simp only [h1, if_true]
  split <;> omega
section
variable {prog : Program} {w : World} {A : Around} {E : Value → Shared → Prop} {s : Shared}
theorem sliceApplied_two {sl : Addr} {vl vu vs : Value} {n : Nat} {Q : Int × Int × Nat → Shared → Prop} (hs : s.heap.IsSliceOf sl vl vu vs) (pl : IsPart vl none) (pu : IsPart vu none) (ps : IsPart vs (some 2))
    (h : Q (0, 2, (n + 1) / 2) s) : wpAny (model prog w) A (Builtin.Slice.sliceApplied (.ref sl) (pure (n : Int))) Q E s := by
  obtain ⟨os, hos, hcs, hds⟩ := id hs
  unfold Builtin.Slice.sliceApplied Builtin.Slice.sliceFields
  refine wpAny_bind (wpAny_bind (wpAny_field hos hds (x := vl) rfl (wpAny_bind (wpAny_field hos hds (x := vu) rfl (wpAny_bind (wpAny_field hos hds (x := vs) rfl (wpAny_pure ?_)))))))
  refine wpAny_bind (HT.slicePart_ ps ?_)
  show wpAny _ _ (if ((2 : Int) == 0) = true then _ else _) _ _ s
  rw [if_neg (by decide)]
  refine wpAny_bind (HT.slicePart_ pl (wpAny_bind (HT.slicePart_ pu (wpAny_bind (wpAny_pure ?_)))))
  show wpAny _ _ (match Builtin.Slice.sliceAdjust none none 2 (n : Int) with | (lo, hi) => pure (lo, (2 : Int), Builtin.Slice.slicePlaces lo hi 2)) _ _ s
  rw [adjust_two n]
  show wpAny _ _ (pure ((0 : Int), (2 : Int), Builtin.Slice.slicePlaces (0 : Int) (n : Int) 2)) _ _ s
  rw [places_two]
  exact wpAny_pure h
theorem pick_two (xs : Array Value) : ((List.range ((xs.size + 1) / 2)).filterMap fun (m : Nat) => xs[((0 : Int) + (m : Int) * 2).toNat]?).toArray = (evens xs.toList).toArray := by
  have e : (fun (m : Nat) => xs[((0 : Int) + (m : Int) * 2).toNat]?) = fun m => xs.toList[2 * m]? := by
    funext m
    have : ((0 : Int) + (m : Int) * 2).toNat = 2 * m := by omega
    rw [this, Array.getElem?_toList]
  rw [e, ← evens_pick, Array.length_toList]
theorem getItem_tuple_two {t sl : Addr} {items : Array Value} {vl vu vs : Value} {Q : Value → Shared → Prop} (ht : IsTup s.heap t items) (hs : s.heap.IsSliceOf sl vl vu vs) (pl : IsPart vl none) (pu : IsPart vu none) (ps : IsPart vs (some 2))
    (h : Q (.ref s.heap.objs.size) { s with heap := s.heap.push { cls := .type "tuple", data := .seq (evens items.toList).toArray } })
    (hsz : items.size ≤ sizeLine) : wpAny (model prog w) A (getItem (.ref t) (.ref sl)) Q E s := by
  have htake : sizeOk (.seq (evens items.toList).toArray) := by
    show (evens items.toList).toArray.size ≤ sizeLine
    rw [List.size_toArray, evens_len, Array.length_toList]
    omega
  obtain ⟨os, hos, hcs, hds⟩ := id hs
  have hTs : s.TypeIs (.ref sl) "slice" := ⟨os, hos, hcs⟩
  unfold getItem
  try with_reducible refine wpAny_holding ?_
  first | refine wpAny_bind (wpAny_pure ?_) | skip
  refine wpAny_bind (wpAny_sequenceKey ht.typeIs (by decide) ?_)
  refine wpAny_bind (wpAny_callSpecial?_slot (name := Str.ofString "__getitem__") ht.typeIs PyProof.Rows.slot_tuple_getitem
    (wpAny_call_entry PyProof.Rows.slot_tuple_getitem ht.typeIs entry_tuple_getitem ?_ (args_tuple_getitem _ _)))
  show wpAny _ _ (Builtin.Tuple.tupleItemsOf (.ref t) >>= _) _ _ s
  refine wpAny_bind (tupleItemsOf_ ht ?_)
  refine wpAny_bind (wpAny_typeOf hTs ?_)
  rw [if_pos (by decide)]
  refine wpAny_bind (sliceApplied_two hs pl pu ps ?_)
  show wpAny _ _ (if (((0 : Int)) == 0 && (2 : Int) == 1 && ((items.size + 1) / 2) == items.size) = true then _ else _) _ _ s
  rw [if_neg (by simp), pick_two]
  first
    | exact wpAny_bind (m := Builtin.Tuple.tupleExact _) (wpAny_newObj_type (wpAny_pure ⟨_, rfl, wpAny_pure h⟩) htake)
    | exact wpAny_bind (m := Builtin.Tuple.tupleExact _) (wpAny_newObj_type (wpAny_bind (wpAny_pure (wpAny_pure ⟨_, rfl, wpAny_pure h⟩))) htake)
    | exact wpAny_bind (wpAny_bind (m := Builtin.Tuple.tupleExact _) (wpAny_newObj_type (wpAny_pure (wpAny_pure ⟨_, rfl, wpAny_pure h⟩)) htake))
    | exact wpAny_bind (wpAny_bind (m := Builtin.Tuple.tupleExact _) (wpAny_newObj_type (wpAny_pure ⟨_, rfl, wpAny_pure h⟩) htake))
end
section
variable {X : Cx}
theorem evens_vals : ∀ {xs : List V} {us : List Value}, Vals xs us → Vals (evens xs) (evens us)
  | [], [], _ => .nil
  | [a], [u], h => h
  | a :: b :: r, u :: v :: s, .cons h1 (.cons h2 h3) => .cons h1 (evens_vals h3)
def tTwoT (K : PySem.W.Frag) (te : TE) : TE := fun σ H Q => te σ H fun x H1 => ∃ a xs, x = .ref a ∧ SqT K H1 a xs ∧ ∀ p, H1 p = none → Q (.ref p) (upd H1 p (.tup (evens xs)))
theorem pe_two {e : Expr} {te : TE} {k : Nat} {p1 p3 pos : Pos} (he : PE X e te) : PE X (.Subscript e (.Slice none none (some (.Constant (.int 2) k p1)) p3) pos) (tTwoT X.K te) := by
  refine ⟨fun pins s σ H Q I h => ?_⟩
  refine Subscript_ (thn (he.run pins s σ H _ I h) fun v s1 ⟨x, H1, I1, r1, q1⟩ => ?_)
  obtain ⟨a, xs, ex, hx, q⟩ := q1
  subst ex
  cases r1
  have hst : PO X (some (.Constant (.int 2) k p1)) (tPart (tC (.int 2))) := po_some pe_int
  refine wpAny_Slice (thn (po_none.run pins s1 σ H1 (fun o H2 => o = none ∧ H2 = H1) I1 ⟨rfl, rfl⟩) fun vl s2 ⟨l, H2, I2, pl, el, e2⟩ => ?_)
  subst el e2
  refine thn (po_none.run pins s2 σ H2 (fun o H3 => o = none ∧ H3 = H2) I2 ⟨rfl, rfl⟩) fun vu s3 ⟨u, H3, I3, pu, eu, e3⟩ => ?_
  subst eu e3
  refine thn (hst.run pins s3 σ H3 (fun o H4 => o = some 2 ∧ H4 = H3) I3 ⟨2, rfl, rfl, rfl⟩) fun vs s4 ⟨o, H4, I4, ps, eo, e4⟩ => ?_
  subst eo e4
  have I5 : Inv X pins σ H4 { s4 with heap := s4.heap.push { cls := .type "slice", data := .fields #[vl, vu, vs] } } := I4.kept (t' := s4.toks) fun b ob q => Heap.get?_push_of_some _ q
  obtain ⟨its, r, ht, hz⟩ := I5.tuple hx
  have hlen : its.toArray.size = xs.length := by rw [List.size_toArray]; exact r.length.symm
  show wpAny (model X.prog X.w) X.A (subscriptTail e (.Slice none none (some (.Constant (.int 2) k p1)) p3) (.ref a) (.ref s4.heap.objs.size)) (EP X pins σ Q) X.xe { s4 with heap := s4.heap.push { cls := .type "slice", data := .fields #[vl, vu, vs] } }
  refine tail_any (ops := [.ref a, .ref s4.heap.objs.size]) ht.typeIs (PyProof.Rows.slot_tuple_getitem.lookup) ?_ (by with_unfolding_all rfl)
  refine getItem_tuple_two ht (Heap.IsSliceOf.new _ vl vu vs) pl pu ps ?_ (by rw [hlen]; exact hz)
  refine ⟨.ref _, _, I5.laid (t' := s4.toks) (o := .tup (evens xs)) (fun b ob q => Heap.get?_push_of_some _ q) (Nat.le_refl _) ?_, rfl, q _ (I5.hok.fresh (Nat.le_refl _))⟩
  exact ⟨by rw [evens_len]; omega, _, evens_vals r, IsTup.new _ _⟩
end
end Kx
namespace Kx
open PySem PySem.Spec PyProof.Rows L2 SX LamX
open PySem.W (EachIs)
/-! ### sorted texts, however many -/
def leT (a b : Str) : Bool := decide (a.cps.toList ≤ b.cps.toList)
theorem leT_enc : PySem.W.dataLe false (fun x : Str => PyData.str x) = leT := PySem.W.dataLe_str fun x : Str => x
def IsT (v : Value) (x : Str) : Prop := ∃ t, v = Value.str x t
theorem eachT : ∀ {vs : List Value} {xs : List Str}, StrsAre vs xs → EachIs IsT vs xs
  | _, _, .nil => .nil
  | _, _, .cons y t h => .cons ⟨t, rfl⟩ (eachT h)
theorem eachT_strs : ∀ {vs : List Value} {xs : List Str}, EachIs IsT vs xs → StrsAre vs xs
  | _, _, .nil => .nil
  | _, _, .cons ⟨t, e⟩ h => by subst e; exact .cons _ t (eachT_strs h)
theorem eachT_reads {h : Heap} : ∀ {vs : List Value} {xs : List Str}, EachIs IsT vs xs → EachIs (fun v x => ∃ as, Reads h v (PyData.str x) as) vs xs
  | _, _, .nil => .nil
  | _, _, .cons ⟨t, e⟩ r => by subst e; exact .cons ⟨[], .str _ _⟩ (eachT_reads r)
theorem eachT_readsN {h : Heap} {p : Addr} : ∀ {vs : List Value} {xs : List Str}, EachIs IsT vs xs → EachIs (fun v x => ∃ as, Reads h v (PyData.str x) as ∧ p ∉ as) vs xs
  | _, _, .nil => .nil
  | _, _, .cons ⟨t, e⟩ r => by subst e; exact .cons ⟨[], .str _ _, List.not_mem_nil⟩ (eachT_readsN r)
theorem alikeT (xs : List Str) : PySem.W.AllAlike (xs.map fun x : Str => PyData.str x) := PySem.W.AllAlike.of fun b b' => by simp only [PySem.W.alike]
theorem sortableT (xs : List Str) : PySem.W.Sortable (xs.map fun x : Str => PyData.str x) := PySem.W.Sortable.others fun b => ⟨(fun e => by cases e), fun xs e => by cases e⟩
section
variable {X : Cx}
theorem depthT (hu : X.A.units + 64 < cLine) (x : Str) : X.A.units + 2 + (PyData.str x).depth < cLine := by
  have : (PyData.str x).depth = 0 := by simp [PyData.depth]
  omega
theorem call_sortedT (hu : X.A.units + 64 < cLine) : CallR X (.builtin "sorted") (fun vs H Q => ∃ (a : Addr) (xs : List Str), vs = [V.ref a] ∧ SqL X.K H a (xs.map V.str) ∧ ∀ p, H p = none → Q (.ref p) (upd H p (.lst ((xs.mergeSort leT).map V.str)))) := by
  intro pins s σ H x us Q I r h
  obtain ⟨a, xs, rfl, hs, q⟩ := h
  obtain ⟨its, rv, hl, hz⟩ := I.list hs
  rw [Vals.ref1 r]
  have hlen0 := rv.length
  rw [List.length_map] at hlen0
  have eT := eachT rv.strs
  refine PySem.W.sorted_data (enc := fun x : Str => PyData.str x) (R := IsT) hl.isList eT (eachT_reads eT) (alikeT _) (sortableT _) (by rw [List.length_map] at hz; exact hz) (fun b _ => depthT hu b) fun out ho eo => ?_
  rw [leT_enc] at eo
  obtain ⟨ep, he'⟩ := PyProof.Rows.sortedAll_at s.heap its out.toArray
  have hlen : ((xs.mergeSort leT).map V.str).length ≤ sizeLine := by rw [List.length_map, List.length_mergeSort]; rw [List.length_map] at hz; exact hz
  exact ⟨.ref _, upd H (s.heap.objs.size + 1) (.lst ((xs.mergeSort leT).map V.str)), I.laid (t' := s.toks) (fun _ _ => PyProof.Rows.sortedAll_old) (Nat.le_succ _) ⟨hlen, out.toArray.toList, ep, vals_of_strs (by simpa using eachT_strs eo), he'⟩, rfl, q _ (I.hok.fresh (Nat.le_succ _))⟩
theorem call_sortedDT (hcalm : X.calm = true) (hu : X.A.units + 64 < cLine) : CallR X (.builtin "sorted") (fun xs H Q => ∃ (a : Addr) (kvs : List (Key × V)) (ks : List Str), xs = [.ref a] ∧ Rd H a (.dK kvs) ∧ kvs.map (·.1) = ks.map Sum.inr ∧
    ∀ p, H p = none → Q (.ref p) (upd H p (.lst ((ks.mergeSort leT).map V.str)))) := by
  intro pins s σ H xs us Q I r q
  obtain ⟨a, kvs, ks, ex, hd, hks, q⟩ := q
  subst ex
  obtain ⟨u, eu, rx⟩ := vals1 r
  subst eu
  cases rx
  obtain ⟨z, lo, vs, rel, dd⟩ := dk_rd I.hok hd
  obtain ⟨ep, hat⟩ := dd.dictAt
  have hkeys : vs.map (·.1) = ks.map Sum.inr := rel.keys.symm.trans hks
  have hl : vs.length = ks.length := by
    have e := congrArg List.length hkeys
    rw [List.length_map, List.length_map] at e
    exact e
  have h16 : vs.length ≤ sizeLine := by rw [← rel.length]; exact z
  refine Calls.call_function_entry PyProof.Rows.kind_sorted PyProof.Rows.plain_sorted PyProof.Rows.entry_sorted (PyProof.Rows.args_sorted1 _) ?_
  unfold Builtin.«sorted»
  refine wpAny_bind (m := checkCount "sorted" 1 1 _) (wpAny_pure ?_)
  refine wpAny_bind (PySem.W.kdu_collect (A := X.A.in1) (PySem.W.kdl_dict (knd := mixKind X.prog X.w) (kvs := vs) (ep := ep) lo) (I.ok.hd hcalm) hat h16 fun h' tk acc hk hacc => ?_)
  have hal : acc.toList.length = ks.length := by rw [Array.length_toList, hacc.1, hl]
  have hS : StrsAre acc.toList ks := strs_at hal fun j v e => by
    obtain ⟨k, x, e1, e2⟩ := hacc.2 j v (by rw [← Array.getElem?_toList]; exact e)
    have e3 : (vs.map (·.1))[j]? = some k := by rw [List.getElem?_map, e1]; all_goals rfl
    rw [hkeys, List.getElem?_map] at e3
    cases e4 : ks[j]? with
    | none => rw [e4] at e3; cases e3
    | some y =>
      rw [e4] at e3
      have e5 : Sum.inr y = k := Option.some.inj e3
      subst e5
      obtain ⟨t, ev⟩ := Value.isStrOf_shape (x := y) (v := v) e2
      exact ⟨y, t, rfl, ev⟩
  have hkl : ks.length ≤ sizeLine := by omega
  have I1 : Inv X pins σ H { s with heap := h', toks := tk } := I.kept hk
  refine wpAny_bind (wpAny_newList ?_ (by rw [hal]; exact hkl))
  have hoL : (h'.push (seqObj "list" acc.toList.toArray 0)).get? h'.objs.size = some (seqObj "list" acc.toList.toArray 0) := Heap.get?_push_size _ rfl
  show wpAny _ _ _ _ _ { s with heap := h'.push (seqObj "list" acc.toList.toArray 0), toks := tk }
  have eT := eachT hS
  refine wpAny_bind (wpAny_holding (PySem.W.list_sort_data (s := { s with heap := h'.push (seqObj "list" acc.toList.toArray 0), toks := tk }) (enc := fun x : Str => PyData.str x) (R := IsT) hoL eT ?er (alikeT _) (sortableT _) hkl (fun b _ => ?du) fun out ho eo => ?fin))
  case er => exact eachT_readsN eT
  case du =>
    have h1 : X.A.in1.units = X.A.units + 1 := rfl
    have : (PyData.str b).depth = 0 := by simp [PyData.depth]
    omega
  case fin =>
    rw [leT_enc] at eo
    obtain ⟨e', he'⟩ := PyProof.Rows.sortedHeap_at (vs := acc.toList) (out := out.toArray) hoL
    have hlen : ((ks.mergeSort leT).map V.str).length ≤ sizeLine := by rw [List.length_map, List.length_mergeSort]; exact hkl
    refine wpAny_pure ⟨_, rfl, .ref h'.objs.size, upd H h'.objs.size (.lst ((ks.mergeSort leT).map V.str)), I1.laid (t' := tk) (fun b u e => ?_) (Nat.le_refl _)
      (show ObjOk X.prog X.w _ _ _ (.lst ((ks.mergeSort leT).map V.str)) from ⟨hlen, out.toArray.toList, e', vals_of_strs (by simpa using eachT_strs eo), by rw [Array.toArray_toList]; exact he'⟩), rfl, q _ (I1.hok.fresh (Nat.le_refl _))⟩
    have hb : b < h'.objs.size := Heap.lt_size e
    show (sortedHeap (h'.push (seqObj "list" acc.toList.toArray 0)) h'.objs.size acc.toList out.toArray).get? b = some u
    rw [PyProof.Rows.sortedHeap_old (Nat.ne_of_lt hb) (by rw [size_push']; exact Nat.lt_succ_of_lt hb)]
    exact Heap.get?_push_of_some _ e
end
end Kx
namespace Kx
open PySem PySem.Spec PyProof.Rows L2 SX LamX
/-! ### len(set(text)) -/
def signsT (l : List Nat) : List Str := l.map fun c => S [c]
theorem signsT_at {l : List Nat} {t : Tok} {i : Nat} {v : Value} (h : PySem.SignAt (S l) i v) : ∃ x u, (signsT l)[i]? = some x ∧ v = .str x u := by
  obtain ⟨c, u, h1, h2⟩ := h
  have h5 : (S l).cps[i]? = l[i]? := by simp [S]
  rw [h5] at h1
  exact ⟨S [c], u, by unfold signsT; rw [List.getElem?_map, h1]; rfl, h2⟩
section
variable {prog : Program} {w : World} {A : Around} {E : Value → Shared → Prop} {s : Shared}
theorem call_set_text {l : List Nat} {t : Tok} {Q : Value → Shared → Prop} (hh : A.handled = none) (hb : l.length + 1 < scanBound)
    (h : ∀ (h' : Heap) (tk : Nat), MadeTx prog w s (signsT l) h' → Q (.ref s.heap.objs.size) { s with heap := h', toks := tk }) : wpAny (model prog w) A (call (.type "set") [.str (S l) t]) Q E s := by
  refine set_made (xs := signsT l) (fun led A' E' Q' hA q => ?_) h
  have isz : (S l).cps.size = (signsT l).length := by unfold signsT; simp [S]
  have isz2 : (S l).cps.size = l.length := by simp [S]
  have hS : (s.heap.push (freshSet led)).get? s.heap.objs.size = some (freshSet led) := Heap.get?_push_size _ rfl
  have hSf : s.heap.objs.size ∉ [(s.heap.push (freshSet led)).objs.size] := by
    rw [Heap.size_push]
    simp only [List.mem_cons, List.not_mem_nil, or_false]
    exact Nat.ne_of_lt (Nat.lt_succ_self _)
  have hh3 : A'.in1.handled = none := by simp [hA, hh]
  have done : ∀ (it : Obj) (s' : Shared), Moved (s.heap.objs.size :: [(s.heap.push (freshSet led)).objs.size]) (fun a b => b = a) { s with heap := (s.heap.push (freshSet led)).push it } s' → txSet prog w s'.heap s.heap.objs.size (onceS (signsT l)) →
      wpAny (model prog w) A' (ret Value.none) Q' E' s' := fun it s' hm hS' => by
    obtain ⟨h', g', d', tk', os'⟩ := s'
    have eg : g' = s.gens := hm.gens
    have ed : d' = s.drawn := hm.drawn
    have eo : os' = s.os := hm.os
    subst eg
    subst ed
    subst eo
    refine wpAny_pure (q h' tk' ⟨hS', fun b o e => ?_⟩)
    have hb0 : b < s.heap.objs.size := Heap.lt_size e
    have hb1 : b ≠ s.heap.objs.size := Nat.ne_of_lt hb0
    have hb2 : b ≠ (s.heap.push (freshSet led)).objs.size := by
      rw [Heap.size_push]
      exact Nat.ne_of_lt (Nat.lt_succ_of_lt hb0)
    exact hm.heap b o (by simp only [List.mem_cons, List.not_mem_nil, or_false, not_or]; exact ⟨hb1, hb2⟩) (Heap.get?_push_of_some _ (Heap.get?_push_of_some _ e))
  unfold Builtin.«set.__init__» noKeywords Builtin.Frozenset.updateFrom
  have hsls := PySem.F.sub_str_set
  have hslf := PySem.F.sub_str_frozenset
  have hne : (Value.type "str" == Value.type "dict") = false := by decide
  generalize hPI : pyIter = PI
  wp_walk
  subst hPI
  refine PySem.wpAny_pyIter_str fun o St W st0 => ?_
  refine wpAny_bind (wpAny_runValue ?_)
  refine upd_texts ((W _ hh3).toS) s.heap.objs.size hSf (signsT l) isz (fun i v hv => signsT_at (t := t) hv) (by omega) ((S l).cps.size - 0) 0 _ (by omega) (Nat.zero_le _) st0 ?_ (fun s' hm hS' => ?_)
  · have hget : ((s.heap.push (freshSet led)).push o).get? s.heap.objs.size = some (freshSet led) := Heap.get?_push_of_some _ hS
    exact PyProof.Rows.SetOf_congr ((PyProof.Rows.setObjOf_fresh (knd := PySem.strKind prog w) led).setOf hget (by unfold scanBound; omega)) (fun _ => rfl) rfl
  · exact wpAny_pure (done _ s' hm hS')
end
section
variable {X : Cx}
/-- len(set(e)), e a text -/
def tLenSetT (ta : TE) : TE := fun σ H Q => ta σ H fun x H1 => ∃ l : List Nat, x = .str (S l) ∧ l.length ≤ 4000 ∧ Q (.int ((onceS (signsT l)).length : Nat)) H1
theorem pe_lenSetT {a : Expr} {ta : TE} {p p2 q pos : Pos} (hg : Gl X "len") (hm : X.mg "len" = none) (hg2 : Gl X "set") (hm2 : X.mg "set" = none) (ha : PE X a ta) (hc : X.calm = true := by rfl)
    (na : starEach [a] X.env = (false, eval a X.env) :: starEach [] X.env := by rfl) : PE X (.Call (.Name "len" p) [.Call (.Name "set" p2) [a] [] q] [] pos) (tLenSetT ta) := by
  refine ⟨fun pins s σ H Q I h => ?_⟩
  refine Call_ (ld_blt I hg hm boot_len ?_)
  refine PyProof.Rows.callWith_builtin1 (PyProof.Rows.args_cons ?_ rfl) rfl rfl
  refine Call_ (ld_blt I hg2 hm2 boot_set ?_)
  refine PyProof.Rows.callWith_type1 (PyProof.Rows.args_cons (thn (ha.run pins s σ H _ I h) fun v s1 ⟨x, H1, I1, r1, q1⟩ => PyProof.Rows.args_nil ?_) na) na rfl
  obtain ⟨l, rfl, h1, q1⟩ := q1
  obtain ⟨t, rfl⟩ := r1
  refine call_set_text (I1.ok.hd hc) (by unfold scanBound; omega) fun h' tk m => ?_
  refine PyProof.Rows.args_nil ?_
  obtain ⟨⟨o, es, ep, t, ho, hex, hd, _, _, _, hf, hn⟩, hk⟩ := m
  have I2 : Inv X pins σ H1 { s1 with heap := h', toks := tk } := I1.kept fun b o e => hk b o e
  have h2 := onceS_le (signsT l)
  have h3 : (signsT l).length = l.length := by unfold signsT; rw [List.length_map]
  exact call_len_set ho hex hd hf (by rw [hn] <;> omega) ⟨.int ((onceS (signsT l)).length : Nat), H1, I2.tok _, ⟨_, by rw [hn]⟩, q1⟩
end
end Kx
namespace Kx
open PySem PySem.Spec PyProof.Rows L2 SX LamX
/-! ### an error class of the program: two fields -/
structure Er2 (K : PySem.W.Frag) (mg : Str → Option Value) (x qual : Str) (st : Stmt) (base f1 f2 : Str) where
  C : Addr
  L : Addr
  fI : Addr
  fd : FuncData
  gC : mg x = some (.ref C)
  gL : mg base = some (.ref L)
  oex : OexC K C
  iC : PySem.W.findIn K (.ref C) "__init__" = some (some (.ref fI))
  tI : PySem.W.typeIn K (.ref fI) = some (.type "function")
  F : Fun K "__init__" qual st fI fd
  b : Binds K fd ["self", f1, f2] []
  np : PySem.W.findIn K (.ref C) f1 = some none
  np2 : PySem.W.findIn K (.ref C) f2 = some none
  exc : ExcC K C
  xf : XfC K C
  em : PySem.W.exmOne K (.ref C) (.ref L) = some true
/-- its making, out of what the top left -/
def er2_mk {K : PySem.W.Frag} {h : Heap} {mg : Str → Option Value} (X : K.In h) (G : h.Ns mainGlobals mg) {x qual : Str} {st : Stmt} {base f1 f2 : Str} {C L fI N : Addr} {nm q : Str} {bs bm : List Value} {sn : List Str} {sub : List Value} {ab : Bool} {col : Option Bool} {dd : Option Addr} {m0 m1 m2 m3 m5 : Option Value}
    {od an : Option Addr} {sl : Array (Option Value)} {oc kV dc pm cd ct : Value} (aC : PySem.W.nsIn K mainGlobals x = some (some (.ref C))) (aL : PySem.W.nsIn K mainGlobals base = some (some (.ref L)))
    (xL : K.lookup C = some (excClassObj nm q C N bs bm true sn sub ab col dd m0 m1 m2 m3 m5 "ValueError.__new__")) (hbm : PySem.HandSPX.refsVE bm = true)
    (sa : PySem.W.findIn K (.ref C) "__setattr__" = some (some (.builtin "object.__setattr__"))) (eC : PySem.W.subIn K (.ref C) (.type "BaseException") = some true) (tC : PySem.W.typeIn K (.ref C) = some (.type "type")) (kC : PySem.W.keepIn K (.ref C) = true)
    (a1 : PySem.W.findIn K (.ref C) "__init__" = some (some (.ref fI))) (t1 : PySem.W.typeIn K (.ref fI) = some (.type "function"))
    (l1 : K.lookup fI = some ⟨oc, od, .func (PySem.W.fnOf "__init__" qual (defArgs st) (defBody st) (defScope st) .none kV dc pm an cd ct), sl⟩) (c1 : PySem.W.codeIn K cd qual = true) (k1 : PySem.W.keepIn K (.ref fI) = true)
    (b1 : ∀ (kV doc pm : Value) (an : Option Addr) (cdv ct : Value) (us : List Value), us.length = (["self", f1, f2] : List Str).length → bindArgs (PySem.W.fnOf "__init__" qual (defArgs st) (defBody st) (defScope st) .none kV doc pm an cdv ct) ⟨us, []⟩ = pure ((["self", f1, f2] : List Str).zip us))
    (nb : PySem.W.findIn K (.ref C) f1 = some none) (nb2 : PySem.W.findIn K (.ref C) f2 = some none) (ga : PySem.W.findIn K (.ref C) "__getattribute__" = some (some (.builtin "BaseException.__getattribute__"))) (gg : PySem.W.findIn K (.ref C) "__getattr__" = some none) (hd : PySem.W.hasDictIn K C = true)
    (hc : PySem.W.findIn K (.ref C) "__class__" = some (some (.builtin "object.__class__"))) (hn : PySem.W.specialIn K (.builtin "object.__class__") "__get__" = some (some (.builtin "getset_descriptor.__get__"))) (ht : PySem.W.takesIn K (.builtin "object.__class__") = some true)
    (hm : PySem.W.mroIn K C (.type "object") = some true) (eL : PySem.W.subIn K (.ref L) (.type "BaseException") = some true) (dL : PySem.W.hasDictIn K L = true) (tL : PySem.W.typeIn K (.ref L) = some (.type "type")) (sCL : PySem.W.subIn K (.ref C) (.ref L) = some true) : Er2 K mg x qual st base f1 f2 where
  C := C
  L := L
  fI := fI
  fd := _
  gC := PySem.W.mg_of X G aC
  gL := PySem.W.mg_of X G aL
  oex := ⟨⟨nm, q, N, bs, bm, sn, sub, ab, col, dd, m0, m1, m2, m3, m5, xL, hbm⟩, sa, eC, tC, kC⟩
  iC := a1
  tI := t1
  F := fun_mk (st := st) l1 c1 k1
  b := (fun_mk (st := st) l1 c1 k1).binds (ps := ["self", f1, f2]) b1
  np := nb
  np2 := nb2
  exc := ⟨ga, gg, eC, hd, hc, hn, ht, hm⟩
  xf := ⟨ga, gg, eC, hd⟩
  em := PySem.W.exm_ref eL dL tL sCL
/-- the promise of such an __init__ -/
def sp_init2 (K : PySem.W.Frag) (f1 f2 : Str) : Sp := fun vs H Q _ => ∃ (a C : Addr) (y z : V), vs = [.ref a, y, z] ∧ OexC K C ∧ PySem.W.findIn K (.ref C) f1 = some none ∧ PySem.W.findIn K (.ref C) f2 = some none ∧ H a = some (exo a C none) ∧
  ∀ dx, H dx = none → dx ≠ a → Q .non (upd (upd (upd H dx (exd dx [(f1, y)])) a (exo a C (some dx))) dx (exd dx [(f2, z), (f1, y)]))
section
variable {P : Program} {w : World} {K : PySem.W.Frag} {mg : Str → Option Value} {base : Heap}
/-- the body of such an __init__ -/
def IsInit2 (st : Stmt) (f1 f2 : Str) : Prop := ∃ p1 p2 p3 p4 p5 p6 p7 p8, defBody st = [.Assign [.Attribute (.Name "self" p1) f1 p2] (.Name f1 p3) p4, .Assign [.Attribute (.Name "self" p5) f2 p6] (.Name f2 p7) p8] ∧
  FnScope ["self", f1, f2] ["self", f1, f2] (defScope st) ∧ (defScope st).names.lookup ("self" : Str) = some .local ∧ (defScope st).names.lookup f1 = some .local ∧ (defScope st).names.lookup f2 = some .local ∧
  (f1 == ("__debug__" : Str)) = false ∧ (f1 == ("__classdict__" : Str)) = false ∧ (f2 == ("__debug__" : Str)) = false ∧ (f2 == ("__classdict__" : Str)) = false
theorem ok_init2 {x qual : Str} {st : Stmt} {bs f1 f2 : Str} (e : Er2 K mg x qual st bs f1 f2) (h : IsInit2 st f1 f2) : FnOk P w K mg base CX0 1 e.fI e.fd ["self", f1, f2] (sp_init2 K f1 f2) := by
  obtain ⟨p1, p2, p3, p4, p5, p6, p7, p8, hb, sc, v1, v2, v3, d1, d2, d3, d4⟩ := h
  refine e.F.ok sc (fun vs H Q E h => ?_) (fun cdv A outer s H vs Q E hr h => ?_)
  · obtain ⟨a, C, y, z, rfl, _⟩ := h
    rfl
  · obtain ⟨a, C, y, z, rfl, o, n1, n2, ha, q⟩ := h
    rw [hb]
    refine ⟨_, pss_cons (ps_ost (pv 0 rfl (.inl v1)) (pv 1 rfl (.inl v2) (hd := d1) (hcd := d2))) (pss_one (ps_ost (pv 0 rfl (.inl v1)) (pv 2 rfl (.inl v3) (hd := d3) (hcd := d4)))), ?_⟩
    refine ⟨y, rfl, .ref a, rfl, a, C, rfl, o, n1, .inl ⟨ha, fun dx hdx ne => ?_⟩⟩
    exact ⟨z, rfl, .ref a, rfl, a, C, rfl, o, n2, .inr ⟨dx, [(f1, y)], upd_same, by rw [upd_ne ne, upd_same], (show 1 ≤ 900 by decide), q dx hdx ne⟩⟩
end
theorem mk_part2 {K : PySem.W.Frag} {C : Addr} {f1 f2 : Str} {σ : L2.St} {H : Hp} {Q : XK} {v z : V} (o : OexC K C) (n : PySem.W.findIn K (.ref C) f1 = some none) (n2 : PySem.W.findIn K (.ref C) f2 = some none)
    (q : ∀ d H', Same H H' → H' d = some (.xd [(f2, z), (f1, v)]) → Q (.ref C) (some d) H') : tMkO C (sp_init2 K f1 f2) [] (tCons (tC v) (tCons (tC z) tNil)) σ H Q := by
  refine ⟨by show 2 ≤ 1000; decide, fun a na => ⟨a, C, v, z, rfl, o, n, n2, upd_same, fun dx nd hne => ⟨rfl, dx, [(f2, z), (f1, v)], ?_, upd_same, ?_, q dx _ ?_ upd_same⟩⟩⟩
  · rw [upd_ne (Ne.symm hne), upd_same]
  · rw [upd_ne hne] at nd
    exact nd
  · rw [upd_ne hne] at nd
    intro b u h
    rw [upd_ne (ne_of_none h nd)]
    show (if b = a then none else _) = some u
    rw [if_neg (ne_of_none h na), upd_ne (ne_of_none h nd), upd_ne (ne_of_none h na), upd_ne (ne_of_none h nd), upd_ne (ne_of_none h na)]
    exact h
/-- an error of two fields, told on -/
def RaisedTwo (E : XK) (C : Addr) (f1 f2 : Str) (H : Hp) (v z : V) : Prop := ∀ d H', Same H H' → H' d = some (.xd [(f2, z), (f1, v)]) → E (.ref C) (some d) H'
end Kx
namespace Kx
open PySem PySem.Spec PyProof.Rows L2 SX LamX
/-! ### d.update(e) -/
theorem putK_len {κ : Type} [DecidableEq κ] (kvs : List (κ × V)) (k : κ) (v : V) : (putK kvs k v).length ≤ kvs.length + 1 := by
  unfold putK
  split
  · rw [List.length_map]; omega
  · rw [List.length_append]; exact Nat.le_refl _
theorem mergeK_len : ∀ (more kvs : List (Key × V)), (mergeK kvs more).length ≤ kvs.length + more.length
  | [], kvs => Nat.le_refl _
  | p :: r, kvs => by
    have h1 := mergeK_len r (putK kvs p.1 p.2)
    have h2 := putK_len kvs p.1 p.2
    show (mergeK (putK kvs p.1 p.2) r).length ≤ _
    rw [List.length_cons]
    omega
def rDUpd : V → List V → Hp → VK → Prop := fun x vs H Q => ∃ (a b : Addr) (kvs more : List (Key × V)), x = .ref a ∧ vs = [.ref b] ∧ a ≠ b ∧ H a = some (.dK kvs) ∧ H b = some (.dK more) ∧ kvs.length + more.length ≤ sizeLine ∧ Q .non (upd H a (.dK (mergeK kvs more)))
theorem mtd_update {X : Cx} : MtR X "dict.update" rDUpd := by
  intro pins s σ H x vs v us Q I rx rv h
  obtain ⟨a, b, kvs, more, ex, ev, ne, e1, e2, hl, q⟩ := h
  subst ex
  subst ev
  obtain rfl : v = Value.ref a := rx
  obtain ⟨u, rfl, ru⟩ := vals1 rv
  obtain rfl : u = Value.ref b := ru
  obtain ⟨z1, hd1, vs1, rel1, dd1⟩ := dk_of I.hok e1
  obtain ⟨z2, hd2, vs2, rel2, dd2⟩ := dk_of I.hok e2
  refine call_meetsIn PySem.F.slot_dict_update dd1.typeIs PySem.F.entry_dict_update (PySem.F.args_dict_update_2 _ _) (meets_dict_update (mixKind X.prog X.w) a b ne hd2)
    ⟨vs1, vs2, dd1, dd2, by rw [← rel1.length, ← rel2.length]; exact hl, fun h' dd' _ hs => ?_⟩
  have he : ∃ q, h'.get? a = some q := let ⟨q, _, _, hq, _⟩ := dd'; ⟨q, hq⟩
  exact ⟨.non, _, d_write (t' := s.toks) I (by rw [e1]; exact True.intro) hs he (dk_new (Nat.le_trans (mergeK_len more kvs) hl) hd1 (rel2.merge rel1) dd'), rfl, q⟩
/-! ### a dict of the top with int keys -/
def keyI (e : DictEntry) : Option Int := match e.key with
  | .int i _ => if e.hash = hashInt i then some i else none
  | _ => none
def keysI (es : List DictEntry) : Bool := es.all fun e => (keyI e).isSome
def DctI (K : PySem.W.Frag) (a : Addr) (kvs : List (Int × V)) : Prop :=
  ∃ (es : Array DictEntry) (n : Nat), K.lookup a = some ⟨.type "dict", none, .dict es n, #[]⟩ ∧ keysI es.toList = true ∧ ∃ us : List Value, es.toList.map (fun e => (keyI e, e.val)) = (kvs.zip us).map (fun p => (some p.1.1, p.2)) ∧ Vals (kvs.map (·.2)) us
theorem keyI_some {e : DictEntry} {i : Int} (h : keyI e = some i) : (∃ t, e.key = .int i t) ∧ e.hash = hashInt i := by
  unfold keyI at h
  split at h
  · rename_i j t hk
    split at h
    · cases h
      exact ⟨⟨t, hk⟩, by assumption⟩
    · cases h
  · cases h
theorem dctI_find : ∀ (es : List DictEntry) (kvs : List (Int × V)) (us : List Value) (i : Int) (v : V), es.map (fun e => (keyI e, e.val)) = (kvs.zip us).map (fun p => (some p.1.1, p.2)) → Vals (kvs.map (·.2)) us → valV kvs i = some v →
    ∃ e, es.find? (fun e => e.key.isInt i) = some e ∧ RelV v e.val
  | es, [], us, i, v, _, _, h => by cases h
  | es, p :: r, [], i, v, _, hv, _ => by cases hv
  | [], p :: r, u :: us, i, v, h, _, _ => by cases h
  | e :: es, p :: r, u :: us, i, v, h, hv, hi => by
    simp only [List.map_cons, List.zip_cons_cons] at h
    injection h with h1 h2
    injection h1 with h3 h4
    obtain ⟨⟨t, hk⟩, _⟩ := keyI_some h3
    cases hv with
    | cons r1 r2 =>
      by_cases e1 : p.1 = i
      · refine ⟨e, ?_, ?_⟩
        · rw [List.find?_cons_of_pos]
          rw [hk]
          show (Value.int p.1 t).isInt i = true
          simp [Value.isInt, e1]
        · rw [valV_pos e1] at hi
          cases hi
          rw [h4]
          exact r1
      · rw [valV_neg e1] at hi
        obtain ⟨e', g1, g2⟩ := dctI_find es r us i v h2 r2 hi
        refine ⟨e', ?_, g2⟩
        rw [List.find?_cons_of_neg]
        · exact g1
        rw [hk]
        show ¬ (Value.int p.1 t).isInt i = true
        simp [Value.isInt, e1]
def rIxI (K : PySem.W.Frag) : R2 := fun x y H Q => ∃ (p : Addr) (kvs : List (Int × V)) (i : Int) (v : V), x = .ref p ∧ y = .int i ∧ DctI K p kvs ∧ valV kvs i = some v ∧ Q v H
section
variable {X : Cx}
theorem ix_dctI : IxR X (rIxI X.K) := by
  intro value slice pins s σ H x y v u Q I rx ry h hs
  obtain ⟨p, kvs, i, r, rfl, rfl, ⟨es, n, hl, hk, us, hm, hv⟩, e, q⟩ := h
  obtain rfl : v = Value.ref p := rx
  obtain ⟨t, rfl⟩ := ry
  obtain ⟨en, he, ru⟩ := dctI_find _ _ _ _ _ hm hv e
  have hmap : s.heap.MapOf (intKind X.prog X.w) p (fun k => findBy (intKind X.prog X.w).is es k) := ⟨_, es, n, I.kIn _ _ hl, ⟨rfl, rfl, rfl⟩, rfl, fun en hen => by
    have := List.all_eq_true.mp hk en (Array.mem_toList_iff.mpr hen)
    obtain ⟨j, hj⟩ := Option.isSome_iff_exists.mp this
    obtain ⟨⟨t, e1⟩, e2⟩ := keyI_some hj
    exact ⟨j, by rw [e1]; exact intKind_is X.prog X.w j t, e2⟩, fun _ => rfl⟩
  have hf : findBy (intKind X.prog X.w).is es i = some en.val := by
    unfold findBy
    have : es.find? (fun e => (intKind X.prog X.w).is i e.key) = some en := by
      rw [← Array.find?_toList]
      exact he
    rw [this]
    rfl
  exact tail_any hmap.typeIs slot_dict_getitem.lookup (wpAny_getItem_of (intKind_is X.prog X.w i t) hmap hf ⟨r, H, I.tok _, ru, q⟩) hs
end
/-! ### o.f within a target -/
def gFld (K : PySem.W.Frag) (ta : TE) (f : Str) : TG := fun v σ H Q => ta σ H fun x H1 => ∃ a C dx fs, x = .ref a ∧ H1 a = some (.ins C dx fs) ∧ Cls K C ∧ NoAttr K C f ∧ fs.length < 1000 ∧ Q σ (upd H1 a (.ins C dx (putF f v fs)))
section
variable {X : Cx} {o : Expr} {f : Str} {pos : Pos} {ta : TE}
theorem pg_fld (ha : PE X o ta) : PG X (.Attribute o f pos) (gFld X.K ta f) := by
  refine ⟨fun pins s σ H v u Q I r h => ?_⟩
  rw [assign_Attribute]
  refine wpAny_bind (wpAny_holding (thn (ha.run pins s σ H _ I h) fun ov s1 ⟨x, H1, I1, r1, a, C, dx, fs, ex, ea, c, n, l, q2⟩ => ?_))
  subst ex
  obtain rfl : ov = Value.ref a := r1
  refine wpAny_bind (wpAny_standAt (wpAny_bind (wpAny_holding (setattr_ok I1 ea c n l r fun s3 I3 => ?_))))
  exact wpAny_release ⟨σ, _, I3, q2⟩
end
/-! ### a call of a name that holds one of the functions of a table -/
section
variable {X : Cx} {i : Nat} {E : XK} {x : Str} {p pos : Pos} {e : Expr} {es : List Expr} {t : TA}
theorem pe_callF {D : Nat → Prop} {fa : Nat → Addr} {sps : Nat → Sp} (hN : X.N[i]? = some x) (hv : Vis X.env.scope x) (hF : ∀ n, D n → RunF X (fa n) (sps n) E) (ha : PA X (e :: es) t) (hd : (x == ("__debug__" : Str)) = false := by decide) (hcd : (x == ("__classdict__" : Str)) = false := by decide)
    (he : starEach (e :: es) X.env = (false, eval e X.env) :: starEach es X.env := by rfl) (hpl : (backTo pos (starEach es X.env)).any (·.1) = false := by rfl) :
    PE X (.Call (.Name x p) (e :: es) [] pos) (fun σ H Q => ∃ n, D n ∧ σ[i]? = some (some (.ref (fa n))) ∧ t σ H fun vs H1 => sps n vs H1 Q E) := by
  refine ⟨fun pins s σ H Q I h => ?_⟩
  obtain ⟨n, hf, hs, hq⟩ := h
  exact (pe_callV (fs := [fa n]) (sp := sps n) hN hv (fun f hm => by rw [List.mem_singleton.mp hm]; exact hF n hf) ha hd hcd he hpl).run pins s σ H Q I ⟨fa n, List.mem_singleton.mpr rfl, hs, hq⟩
end
end Kx
namespace Ms
structure Mst where
  block : Int
  room : Int
  tick : Bool
  flag : Bool
  test : Bool
  mode : Int
  first : Int
  second : Int
  cells : Int → Int
  heard : Nat
  said : List Int
  isd : Bool
def putC (f : Int → Int) (k v : Int) : Int → Int := fun c => if c = k then v else f c
/-- a word that wants the flag, which was up and is down now -/
def flagW (s : Mst) (n : Nat) (ns : List Int) : Mst :=
  if n = 4 then { s with first := s.first + s.second }
  else if n = 5 then { s with first := s.first - s.second }
  else if n = 6 then { s with first := s.first * s.second }
  else if n = 7 then { s with first := if s.second = 0 then 0 else s.first.fdiv s.second }
  else if n = 8 then { s with first := s.second, second := s.first }
  else if n = 9 then { s with first := if s.heard < ns.length then ns.getD s.heard 0 else 0, heard := if s.heard < ns.length then s.heard + 1 else s.heard }
  else if n = 10 then { s with said := s.said ++ [s.first] }
  else if n = 11 then { s with first := s.cells s.first }
  else { s with first := 8 * s.first + (n : Int) - 12 }
/-- a word that wants none -/
def bareW (s : Mst) (n : Nat) : Mst :=
  if n = 20 then { s with first := 0 }
  else if n = 21 then { s with second := s.first }
  else if n = 22 then { s with cells := putC s.cells s.second s.first }
  else if n = 23 then { s with test := decide (s.first = 0) }
  else if n = 24 then { s with test := decide (s.first < 0) }
  else if n < 28 then { s with mode := (n : Int) - 25 }
  else if n = 29 then { s with isd := true }
  else { s with room := if s.mode = 2 ∨ s.test = decide (s.mode = 0) then s.first else s.room }
def doW (ns : List Int) (s : Mst) (n : Nat) : Mst :=
  if s.isd = true then s
  else if n = 0 then { s with block := -1 }
  else if n = 1 then { s with tick := true }
  else if n = 2 then { s with block := if s.tick = true then s.block + 1 else s.block, tick := false }
  else if s.block ≠ s.room then s
  else if n = 3 then { s with flag := true }
  else if n < 20 then (if s.flag = true then flagW { s with flag := false } n ns else s)
  else bareW s n
theorem doW_twice (ns : List Int) (s : Mst) (n : Nat) (h : n < 30) : doW ns (doW ns s n) n = doW ns s n := by
  by_cases hd : s.isd = true
  · have e : doW ns s n = s := by unfold doW; rw [if_pos hd]
    rw [e, e]
  by_cases h0 : n = 0
  · subst h0; simp [doW, hd]
  by_cases h1 : n = 1
  · subst h1; simp [doW, hd]
  by_cases h2 : n = 2
  · subst h2; simp [doW, hd]
  by_cases hb : s.block ≠ s.room
  · have e : doW ns s n = s := by unfold doW; rw [if_neg hd, if_neg h0, if_neg h1, if_neg h2, if_pos hb]
    rw [e, e]
  by_cases h3 : n = 3
  · subst h3
    have hb : s.block = s.room := Decidable.not_not.mp hb
    simp [doW, hd, hb]
  by_cases h4 : n < 20
  · by_cases hf : s.flag = true
    · have e : doW ns s n = flagW { s with flag := false } n ns := by unfold doW; rw [if_neg hd, if_neg h0, if_neg h1, if_neg h2, if_neg hb, if_neg h3, if_pos h4, if_pos hf]
      have f : (flagW { s with flag := false } n ns).flag = false := by unfold flagW; (repeat' split) <;> rfl
      rw [e]
      unfold doW
      rw [f]
      simp only [h0, h1, h2, h3, h4, if_true, if_false, Bool.false_eq_true, ite_self]
    · have e : doW ns s n = s := by unfold doW; rw [if_neg hd, if_neg h0, if_neg h1, if_neg h2, if_neg hb, if_neg h3, if_pos h4, if_neg hf]
      rw [e, e]
  have hb : s.block = s.room := Decidable.not_not.mp hb
  have : n = 20 ∨ n = 21 ∨ n = 22 ∨ n = 23 ∨ n = 24 ∨ n = 25 ∨ n = 26 ∨ n = 27 ∨ n = 28 ∨ n = 29 := by omega
  rcases this with rfl | rfl | rfl | rfl | rfl | rfl | rfl | rfl | rfl | rfl
  · simp [doW, bareW, hd, hb]
  · simp [doW, bareW, hd, hb]
  · simp [doW, bareW, hd, hb]
    funext c
    simp only [putC]
    split <;> rfl
  · simp [doW, bareW, hd, hb]
  · simp [doW, bareW, hd, hb]
  · simp [doW, bareW, hd, hb]
  · simp [doW, bareW, hd, hb]
  · simp [doW, bareW, hd, hb]
  · by_cases hm : s.mode = 2 ∨ s.test = decide (s.mode = 0)
    · by_cases hr : s.room = s.first
      · simp [doW, bareW, hd, hb, hm, hr]
      · simp [doW, bareW, hd, hb, hm, hr]
    · simp [doW, bareW, hd, hb, hm]
  · simp [doW, bareW, hd, hb]
def doR (ns : List Int) (s : Mst) (row : List Nat) : Mst := row.foldl (doW ns) s
theorem doR_app (ns : List Int) (s : Mst) (a b : List Nat) : doR ns s (a ++ b) = doR ns (doR ns s a) b := List.foldl_append ..
theorem doR_rep (ns : List Int) (n : Nat) (h : n < 30) : ∀ (k : Nat) (s : Mst), doR ns s (List.replicate (k + 1) n) = doW ns s n
  | 0, s => rfl
  | k + 1, s => by
    show doR ns (doW ns s n) (List.replicate (k + 1) n) = _
    rw [doR_rep ns n h k, doW_twice ns s n h]
end Ms
namespace Ms
/-! ### the deed alone, and whether it is done -/
def rawW (ns : List Int) (s : Mst) (n : Nat) : Mst :=
  if n = 0 then { s with block := -1 }
  else if n = 1 then { s with tick := true }
  else if n = 2 then { s with block := if s.tick = true then s.block + 1 else s.block, tick := false }
  else if n = 3 then { s with flag := true }
  else if n < 20 then flagW s n ns
  else bareW s n
def mayB (s : Mst) (n : Nat) : Bool := !s.isd && (decide (n < 3) || decide (s.block = s.room)) && (!(decide (4 ≤ n) && decide (n ≤ 19)) || s.flag)
def mayS (s : Mst) (n : Nat) : Mst := if (!s.isd && decide (s.block = s.room) && (decide (4 ≤ n) && decide (n ≤ 19))) = true then { s with flag := false } else s
theorem doW_may (ns : List Int) (s : Mst) (n : Nat) : doW ns s n = if mayB s n = true then rawW ns (mayS s n) n else mayS s n := by
  have eta : s.flag = false → { s with flag := false } = s := fun h => by
    cases s
    cases h
    rfl
  unfold doW mayB mayS
  by_cases hd : s.isd = true
  · simp [hd]
  have hd : s.isd = false := by simpa using hd
  by_cases h0 : n = 0
  · subst h0; simp [hd, rawW]
  by_cases h1 : n = 1
  · subst h1; simp [hd, rawW]
  by_cases h2 : n = 2
  · subst h2; simp [hd, rawW]
  by_cases hb : s.block = s.room
  · by_cases h3 : n = 3
    · subst h3; simp [hd, hb, rawW]
    · by_cases h4 : n < 20
      · have h4' : 4 ≤ n := by omega
        have h5' : n ≤ 19 := by omega
        cases hf : s.flag with
        | true => simp [hd, h0, h1, h2, hb, h3, h4, h4', h5', rawW, hf]
        | false =>
          have e := eta hf
          have e2 : s = { block := s.room, room := s.room, tick := s.tick, flag := false, test := s.test, mode := s.mode, first := s.first, second := s.second, cells := s.cells, heard := s.heard, said := s.said, isd := false } := by
            cases s
            cases hb
            cases hd
            cases hf
            rfl
          simp only [hd, h0, h1, h2, hb, h3, h4, h4', h5', hf, Bool.false_eq_true, if_false, ne_eq, not_true_eq_false, if_true, Bool.not_false, decide_true, Bool.true_and, Bool.and_self, Bool.not_true, Bool.or_false, Bool.or_true, Bool.and_false, Bool.or_self]
          exact e2
      · have h5' : ¬ n ≤ 19 := by omega
        simp [hd, h0, h1, h2, hb, h3, h4, h5', rawW]
  · have h3 : ¬ n < 3 := by omega
    simp [hd, h0, h1, h2, hb, h3]
/-! ### how great numbers come to be -/
def Bi (b : Nat) (i : Int) : Prop := i.natAbs < 2 ^ b
theorem Bi.mono {a b : Nat} {i : Int} (h : Bi a i) (l : a ≤ b) : Bi b i := Nat.lt_of_lt_of_le h (Nat.pow_le_pow_right (by decide) l)
theorem Bi.add {a : Nat} {i j : Int} (h : Bi a i) (k : Bi a j) : Bi (a + 1) (i + j) := by
  unfold Bi at *
  rw [Nat.pow_succ]
  omega
theorem Bi.sub {a : Nat} {i j : Int} (h : Bi a i) (k : Bi a j) : Bi (a + 1) (i - j) := by
  unfold Bi at *
  rw [Nat.pow_succ]
  omega
theorem Bi.mul {a b : Nat} {i j : Int} (h : Bi a i) (k : Bi b j) : Bi (a + b) (i * j) := by
  unfold Bi at *
  rw [Int.natAbs_mul, Nat.pow_add]
  exact Nat.mul_lt_mul'' h k
theorem Bi.div {a : Nat} {i j : Int} (h : Bi a i) (hj : j ≠ 0) : Bi (a + 1) (i.fdiv j) := by
  unfold Bi at *
  rw [Nat.pow_succ]
  have : (i.fdiv j).natAbs ≤ i.natAbs + 1 := by
    have h1 := Int.natAbs_fdiv_le_natAbs i j
    omega
  have : 0 < 2 ^ a := Nat.pow_pos (by decide)
  omega
theorem Bi.eight {a : Nat} {i : Int} {d : Nat} (h : Bi a i) (hd : d < 8) : Bi (a + 3) (8 * i + d) := by
  unfold Bi at *
  rw [Nat.pow_add]
  show _ < 2 ^ a * 8
  omega
structure Bd (b : Nat) (s : Mst) : Prop where
  block : Bi b s.block
  room : Bi b s.room
  first : Bi b s.first
  second : Bi b s.second
  cells : ∀ c, Bi b (s.cells c)
  keys : ∀ c, s.cells c ≠ 0 → Bi b c
  said : ∀ i ∈ s.said, Bi b i
  mode : 0 ≤ s.mode ∧ s.mode ≤ 2
  heard : s.heard ≤ 100000
  low : -1 ≤ s.block
theorem Bd.mono {a b : Nat} {s : Mst} (h : Bd a s) (l : a ≤ b) : Bd b s :=
  ⟨h.block.mono l, h.room.mono l, h.first.mono l, h.second.mono l, fun c => (h.cells c).mono l, fun c z => (h.keys c z).mono l, fun i m => (h.said i m).mono l, h.mode, h.heard, h.low⟩
def grow (n b : Nat) : Nat := if n = 6 then 2 * b else b + 3
theorem bi_getD {b : Nat} {ns : List Int} (hn : ∀ i ∈ ns, Bi b i) (k : Nat) : Bi b (ns.getD k 0) := by
  rw [List.getD_eq_getElem?_getD]
  cases h : ns[k]? with
  | none => exact Nat.pow_pos (by decide)
  | some i => exact hn i (List.mem_of_getElem? h)
theorem bd_flag {b : Nat} {s : Mst} {n : Nat} {ns : List Int} (h : Bd b s) (hb : 3 ≤ b) (hn : ∀ i ∈ ns, Bi b i) (hl : ns.length ≤ 100000) (h4 : 4 ≤ n) (h20 : n < 20) : Bd (grow n b) (flagW s n ns) := by
  have z : Bi b 0 := Nat.pow_pos (by decide)
  have g : b ≤ grow n b := by unfold grow; split <;> omega
  have hg := h.mono g
  unfold flagW
  split
  · exact { hg with first := (h.first.add h.second).mono (by unfold grow; split <;> omega) }
  split
  · exact { hg with first := (h.first.sub h.second).mono (by unfold grow; split <;> omega) }
  split
  · rename_i e
    exact { hg with first := (h.first.mul h.second).mono (by unfold grow; rw [if_pos e]; omega) }
  split
  · refine { hg with first := ?_ }
    show Bi _ (if s.second = 0 then 0 else s.first.fdiv s.second)
    split
    · exact z.mono g
    · rename_i e
      exact (h.first.div e).mono (by unfold grow; split <;> omega)
  split
  · exact { hg with first := hg.second, second := hg.first }
  split
  · refine { hg with first := ?_, heard := ?_ }
    · show Bi _ (if s.heard < ns.length then ns.getD s.heard 0 else 0)
      split
      · exact (bi_getD hn _).mono g
      · exact z.mono g
    · show (if s.heard < ns.length then s.heard + 1 else s.heard) ≤ 100000
      split
      · omega
      · exact h.heard
  split
  · refine { hg with said := fun i m => ?_ }
    rcases List.mem_append.mp m with m | m
    · exact hg.said i m
    · rw [List.mem_singleton.mp m]
      exact hg.first
  split
  · exact { hg with first := hg.cells _ }
  · refine { hg with first := ?_ }
    obtain ⟨d, rfl⟩ : ∃ d, n = 12 + d := ⟨n - 12, by omega⟩
    have e : 8 * s.first + ((12 + d : Nat) : Int) - 12 = 8 * s.first + (d : Int) := by omega
    show Bi _ (8 * s.first + ((12 + d : Nat) : Int) - 12)
    rw [e]
    exact (h.first.eight (by omega)).mono (by unfold grow; split <;> omega)
theorem bd_bare {b : Nat} {s : Mst} {n : Nat} (h : Bd b s) (h20 : 20 ≤ n) : Bd b (bareW s n) := by
  have z : Bi b 0 := Nat.pow_pos (by decide)
  unfold bareW
  split
  · exact { h with first := z }
  split
  · exact { h with second := h.first }
  split
  · refine { h with cells := fun c => ?_, keys := fun c => ?_ }
    · show Bi b (putC s.cells s.second s.first c)
      unfold putC
      split
      · exact h.first
      · exact h.cells c
    · show putC s.cells s.second s.first c ≠ 0 → Bi b c
      unfold putC
      split
      · rename_i e
        exact fun _ => e ▸ h.second
      · exact h.keys c
  split
  · exact { h with }
  split
  · exact { h with }
  split
  · exact { h with mode := by show 0 ≤ (n : Int) - 25 ∧ (n : Int) - 25 ≤ 2; omega }
  split
  · exact { h with }
  · refine { h with room := ?_ }
    show Bi b (if _ then s.first else s.room)
    split
    · exact h.first
    · exact h.room
end Ms
namespace Ms
theorem bd_do {b : Nat} {s : Mst} {n : Nat} {ns : List Int} (h : Bd b s) (hb : 3 ≤ b) (hn : ∀ i ∈ ns, Bi b i) (hl : ns.length ≤ 100000) : Bd (grow n b) (doW ns s n) := by
  have g : b ≤ grow n b := by unfold grow; split <;> omega
  have hg := h.mono g
  have one : Bi (grow n b) (-1) := by
    unfold Bi
    exact Nat.lt_of_lt_of_le (show (-1 : Int).natAbs < 2 ^ 3 by decide) (Nat.pow_le_pow_right (by decide) (by omega))
  unfold doW
  split
  · exact hg
  split
  · exact { hg with block := one, low := Int.le_refl _ }
  split
  · exact { hg with }
  split
  · refine { hg with block := ?_, low := ?_ }
    · show Bi _ (if s.tick = true then s.block + 1 else s.block)
      split
      · exact (h.block.add (j := 1) (Nat.lt_of_lt_of_le (show (1 : Int).natAbs < 2 ^ 3 by decide) (Nat.pow_le_pow_right (by decide) hb))).mono (by unfold grow; split <;> omega)
      · exact hg.block
    · show -1 ≤ (if s.tick = true then s.block + 1 else s.block)
      have := h.low
      split <;> omega
  split
  · exact hg
  split
  · exact { hg with }
  split
  · split
    · exact bd_flag (s := { s with flag := false }) { h with } hb hn hl (by omega) (by assumption)
    · exact hg
  · exact (bd_bare h (by omega)).mono g
/-- a row without multiply, and one with one at most -/
def lastB : List Nat → Nat → Nat
  | [], b => b
  | n :: r, b => lastB r (grow n b)
theorem lastB_mono : ∀ (r : List Nat) (b : Nat), b ≤ lastB r b
  | [], b => Nat.le_refl _
  | n :: r, b => Nat.le_trans (by unfold grow; split <;> omega) (lastB_mono r (grow n b))
theorem bd_row {ns : List Int} (hl : ns.length ≤ 100000) : ∀ (r : List Nat) (b : Nat) (s : Mst), Bd b s → 3 ≤ b → (∀ i ∈ ns, Bi b i) → ∀ k, Bd (lastB r b) (doR ns s (r.take k))
  | [], b, s, h, hb, hn, k => by rw [List.take_nil]; exact h
  | n :: r, b, s, h, hb, hn, 0 => h.mono (lastB_mono (n :: r) b)
  | n :: r, b, s, h, hb, hn, k + 1 => by
    have g : b ≤ grow n b := by unfold grow; split <;> omega
    exact bd_row hl r (grow n b) (doW ns s n) (bd_do h hb hn hl) (by omega) (fun i m => (hn i m).mono g) k
theorem lastB_none : ∀ (r : List Nat) (b : Nat), 6 ∉ r → lastB r b = b + 3 * r.length
  | [], b, _ => by simp [lastB]
  | n :: r, b, h => by
    have h1 : n ≠ 6 := fun e => h (by rw [e]; exact List.mem_cons_self)
    show lastB r (grow n b) = _
    rw [lastB_none r _ fun m => h (List.mem_cons_of_mem _ m)]
    unfold grow
    rw [if_neg h1, List.length_cons]
    omega
theorem lastB_one : ∀ (r : List Nat) (b : Nat), r.count 6 ≤ 1 → lastB r b ≤ 2 * (b + 3 * r.length)
  | [], b, _ => by simp [lastB]; omega
  | n :: r, b, h => by
    show lastB r (grow n b) ≤ _
    by_cases h1 : n = 6
    · subst h1
      have h6 : 6 ∉ r := by
        rw [List.count_cons_self] at h
        exact List.count_eq_zero.mp (by omega)
      rw [lastB_none r _ h6]
      unfold grow
      rw [if_pos rfl, List.length_cons]
      omega
    · rw [List.count_cons_of_ne h1] at h
      have := lastB_one r (grow n b) h
      unfold grow at this ⊢
      rw [if_neg h1] at this ⊢
      rw [List.length_cons]
      omega
/-! ### cells -/
def lkp : List (Int × Int) → Int → Option Int
  | [], _ => none
  | p :: r, c => if p.1 = c then some p.2 else lkp r c
theorem lkp_none : ∀ {es : List (Int × Int)} {c : Int}, lkp es c = none ↔ c ∉ es.map (·.1)
  | [], c => by simp [lkp]
  | p :: r, c => by
    unfold lkp
    by_cases e : p.1 = c
    · simp [e]
    · rw [if_neg e, lkp_none]
      simp only [List.map_cons, List.mem_cons, not_or]
      exact ⟨fun h => ⟨fun z => e z.symm, h⟩, fun h => h.2⟩
theorem lkp_mem : ∀ {es : List (Int × Int)} {c v : Int}, (es.map (·.1)).Nodup → (lkp es c = some v ↔ (c, v) ∈ es)
  | [], c, v, _ => by simp [lkp]
  | p :: r, c, v, nd => by
    have nd' := List.nodup_cons.mp nd
    unfold lkp
    by_cases e : p.1 = c
    · rw [if_pos e]
      constructor
      · intro h
        cases h
        subst e
        exact List.mem_cons_self
      · intro h
        rcases List.mem_cons.mp h with h | h
        · rw [← h]
        · exact absurd (List.mem_map.mpr ⟨_, h, rfl⟩) (by rw [← e]; exact nd'.1)
    · rw [if_neg e, lkp_mem nd'.2]
      constructor
      · exact fun h => List.mem_cons_of_mem _ h
      · intro h
        rcases List.mem_cons.mp h with h | h
        · exact absurd (by rw [← h]) e
        · exact h
def putI (es : List (Int × Int)) (c v : Int) : List (Int × Int) := if (lkp es c).isSome = true then es.map (fun p => if p.1 = c then (p.1, v) else p) else es ++ [(c, v)]
theorem map_keys (es : List (Int × Int)) (c v : Int) : (es.map (fun p => if p.1 = c then (p.1, v) else p)).map (·.1) = es.map (·.1) := by
  rw [List.map_map]
  refine List.map_congr_left fun p _ => ?_
  show (if p.1 = c then (p.1, v) else p).1 = p.1
  split <;> rfl
theorem putI_nodup {es : List (Int × Int)} {c v : Int} (nd : (es.map (·.1)).Nodup) : ((putI es c v).map (·.1)).Nodup := by
  unfold putI
  split
  · rw [map_keys]; exact nd
  · rename_i h
    have hn : lkp es c = none := by cases hh : lkp es c with
      | none => rfl
      | some _ => rw [hh] at h; exact absurd rfl h
    rw [List.map_append]
    refine List.nodup_append.mpr ⟨nd, by simp, fun a ha b hb => ?_⟩
    rw [List.mem_singleton.mp hb]
    intro e
    rw [e] at ha
    exact lkp_none.mp hn ha
theorem lkp_map (c v d : Int) : ∀ es : List (Int × Int), lkp (es.map (fun p => if p.1 = c then (p.1, v) else p)) d = if d = c then (lkp es d).map (fun _ => v) else lkp es d
  | [] => by simp [lkp]
  | p :: r => by
    have ih := lkp_map c v d r
    rw [List.map_cons]
    unfold lkp
    by_cases e : p.1 = c
    · rw [if_pos e]
      show (if p.1 = d then some v else lkp _ d) = _
      by_cases e2 : p.1 = d
      · rw [if_pos e2, if_pos e2, if_pos (e2.symm.trans e)]
        rfl
      · rw [if_neg e2, if_neg e2]
        exact ih
    · rw [if_neg e]
      by_cases e2 : p.1 = d
      · rw [if_pos e2, if_pos e2, if_neg (fun z => e (e2.trans z))]
      · rw [if_neg e2, if_neg e2]
        exact ih
theorem lkp_app (c v d : Int) : ∀ es : List (Int × Int), lkp es c = none → lkp (es ++ [(c, v)]) d = if d = c then some v else lkp es d
  | [], _ => by
    show (if c = d then some v else none) = _
    by_cases e : c = d
    · rw [if_pos e, if_pos e.symm]
    · rw [if_neg e, if_neg (fun z => e z.symm)]
      rfl
  | p :: r, h => by
    unfold lkp at h
    by_cases e : p.1 = c
    · rw [if_pos e] at h
      cases h
    · rw [if_neg e] at h
      have ih := lkp_app c v d r h
      show (if p.1 = d then some p.2 else lkp (r ++ [(c, v)]) d) = if d = c then some v else (if p.1 = d then some p.2 else lkp r d)
      rw [ih]
      by_cases e2 : p.1 = d
      · rw [if_pos e2, if_pos e2, if_neg (fun z => e (e2.trans z))]
      · rw [if_neg e2, if_neg e2]
theorem lkp_put (es : List (Int × Int)) (c v d : Int) : lkp (putI es c v) d = if d = c then some v else lkp es d := by
  unfold putI
  split
  · rename_i h
    rw [lkp_map]
    by_cases e : d = c
    · rw [if_pos e, if_pos e, e]
      cases hh : lkp es c with
      | none => rw [hh] at h; cases h
      | some _ => rfl
    · rw [if_neg e, if_neg e]
  · rename_i h
    refine lkp_app c v d es ?_
    cases hh : lkp es c with
    | none => rfl
    | some _ => rw [hh] at h; exact absurd rfl h
theorem putI_len (es : List (Int × Int)) (c v : Int) : (putI es c v).length ≤ es.length + 1 := by
  unfold putI
  split
  · rw [List.length_map]; omega
  · rw [List.length_append]; exact Nat.le_refl _
def dropI (es : List (Int × Int)) (c : Int) : List (Int × Int) := es.filter fun p => decide (p.1 ≠ c)
theorem lkp_drop (c d : Int) : ∀ es : List (Int × Int), lkp (dropI es c) d = if d = c then none else lkp es d
  | [] => by simp [lkp, dropI]
  | p :: r => by
    have ih := lkp_drop c d r
    unfold dropI at ih ⊢
    by_cases e : p.1 = c
    · rw [List.filter_cons_of_neg (by simp [e]), ih]
      by_cases e2 : d = c
      · rw [if_pos e2, if_pos e2]
      · rw [if_neg e2, if_neg e2]
        unfold lkp
        rw [if_neg (fun z => e2 (z.symm.trans e))]
        cases r <;> rfl
    · rw [List.filter_cons_of_pos (by simp [e])]
      show (if p.1 = d then some p.2 else lkp (r.filter fun p => decide (p.1 ≠ c)) d) = if d = c then none else (if p.1 = d then some p.2 else lkp r d)
      rw [ih]
      by_cases e2 : p.1 = d
      · rw [if_pos e2, if_pos e2, if_neg (fun z => e (e2.trans z))]
      · rw [if_neg e2, if_neg e2]
theorem dropI_nodup {es : List (Int × Int)} {c : Int} (nd : (es.map (·.1)).Nodup) : ((dropI es c).map (·.1)).Nodup :=
  List.Sublist.nodup (List.Sublist.map _ (List.filter_sublist ..)) nd
/-- cells as the law keeps them, and as a work keeps them -/
structure CellsL (es : List (Int × Int)) (f : Int → Int) : Prop where
  nd : (es.map (·.1)).Nodup
  at_ : ∀ c, (lkp es c).getD 0 = f c
structure CellsW (es : List (Int × Int)) (f : Int → Int) : Prop where
  nd : (es.map (·.1)).Nodup
  no : ∀ p ∈ es, p.2 ≠ 0
  at_ : ∀ c, (lkp es c).getD 0 = f c
theorem CellsL.put {es : List (Int × Int)} {f : Int → Int} (h : CellsL es f) (c v : Int) : CellsL (putI es c v) (putC f c v) := by
  refine ⟨putI_nodup h.nd, fun d => ?_⟩
  rw [lkp_put]
  unfold putC
  split
  · rfl
  · exact h.at_ d
theorem CellsW.put {es : List (Int × Int)} {f : Int → Int} (h : CellsW es f) (c : Int) {v : Int} (hv : v ≠ 0) : CellsW (putI es c v) (putC f c v) := by
  have h2 := (CellsL.put ⟨h.nd, h.at_⟩ c v)
  refine ⟨h2.nd, fun p hp => ?_, h2.at_⟩
  obtain ⟨a, b⟩ := p
  have := (lkp_mem h2.nd).mpr hp
  rw [lkp_put] at this
  split at this
  · cases this
    exact hv
  · exact h.no _ ((lkp_mem h.nd).mp this)
theorem CellsW.drop {es : List (Int × Int)} {f : Int → Int} (h : CellsW es f) (c : Int) : CellsW (dropI es c) (putC f c 0) := by
  refine ⟨dropI_nodup h.nd, fun p hp => h.no p (List.mem_filter.mp hp).1, fun d => ?_⟩
  rw [lkp_drop]
  unfold putC
  split
  · rfl
  · exact h.at_ d
theorem CellsW.skip {es : List (Int × Int)} {f : Int → Int} (h : CellsW es f) {c : Int} (hc : lkp es c = none) : CellsW es (putC f c 0) := by
  refine ⟨h.nd, h.no, fun d => ?_⟩
  unfold putC
  split
  · rename_i e
    rw [e, hc]
    rfl
  · exact h.at_ d
/-- cells, ascending -/
structure IsC (l : List (Int × Int)) (f : Int → Int) : Prop where
  up : l.Pairwise fun p q => p.1 < q.1
  mem : ∀ c v, (c, v) ∈ l ↔ f c = v ∧ v ≠ 0
theorem isC_uniq {f : Int → Int} : ∀ {l m : List (Int × Int)}, l.Pairwise (fun p q => p.1 < q.1) → m.Pairwise (fun p q => p.1 < q.1) → (∀ p, p ∈ l ↔ p ∈ m) → l = m
  | [], [], _, _, _ => rfl
  | [], q :: m, _, _, h => absurd ((h q).mpr List.mem_cons_self) (by simp)
  | p :: l, [], _, _, h => absurd ((h p).mp List.mem_cons_self) (by simp)
  | p :: l, q :: m, hl, hm, h => by
    have hl' := List.pairwise_cons.mp hl
    have hm' := List.pairwise_cons.mp hm
    have e : p = q := by
      rcases List.mem_cons.mp ((h p).mp List.mem_cons_self) with e | h1
      · exact e
      · rcases List.mem_cons.mp ((h q).mpr List.mem_cons_self) with e | h2
        · exact e.symm
        · have a := hm'.1 _ h1
          have b := hl'.1 _ h2
          omega
    subst e
    rw [isC_uniq (f := f) hl'.2 hm'.2 fun x => ?_]
    constructor
    · intro hx
      rcases List.mem_cons.mp ((h x).mp (List.mem_cons_of_mem _ hx)) with e | h1
      · have := hl'.1 _ hx
        rw [e] at this
        omega
      · exact h1
    · intro hx
      rcases List.mem_cons.mp ((h x).mpr (List.mem_cons_of_mem _ hx)) with e | h1
      · have := hm'.1 _ hx
        rw [e] at this
        omega
      · exact h1
theorem IsC.uniq {l m : List (Int × Int)} {f : Int → Int} (h : IsC l f) (k : IsC m f) : l = m := isC_uniq (f := f) h.up k.up fun p => (h.mem p.1 p.2).trans (k.mem p.1 p.2).symm
theorem CellsL.mem {es : List (Int × Int)} {f : Int → Int} (h : CellsL es f) (c v : Int) : (c, v) ∈ es.filter (fun p => decide (p.2 ≠ 0)) ↔ f c = v ∧ v ≠ 0 := by
  rw [List.mem_filter, ← lkp_mem h.nd, ← h.at_]
  simp only [decide_eq_true_eq]
  constructor
  · rintro ⟨h1, h2⟩
    rw [h1]
    exact ⟨rfl, h2⟩
  · rintro ⟨h1, h2⟩
    refine ⟨?_, h2⟩
    cases hh : lkp es c with
    | none => rw [hh] at h1; exact absurd h1.symm h2
    | some w =>
      rw [hh] at h1
      exact congrArg some h1
theorem CellsW.mem {es : List (Int × Int)} {f : Int → Int} (h : CellsW es f) (c v : Int) : (c, v) ∈ es ↔ f c = v ∧ v ≠ 0 := by
  have h1 := CellsL.mem ⟨h.nd, h.at_⟩ c v
  rw [← h1, List.mem_filter]
  simp only [decide_eq_true_eq]
  exact ⟨fun m => ⟨m, h.no _ m⟩, fun m => m.1⟩
/-- what is sorted of unlike keys ascends -/
theorem isC_of {l es : List (Int × Int)} {f : Int → Int} (hp : l.Perm es) (nd : (es.map (·.1)).Nodup) (hm : ∀ c v, (c, v) ∈ es ↔ f c = v ∧ v ≠ 0) (hs : l.Pairwise fun p q => p.1 ≤ q.1) : IsC l f := by
  refine ⟨?_, fun c v => (hp.mem_iff).trans (hm c v)⟩
  have nd2 : (l.map (·.1)).Nodup := (hp.map _).nodup_iff.mpr nd
  have nd3 := List.pairwise_map.mp nd2
  exact (hs.and nd3).imp fun h => by omega
end Ms
namespace Kx
open PySem PySem.Spec PyProof.Rows L2 SX LamX Ms
/-! ### // of great ints, any sign -/
def CDivA (_ j : Int) : Prop := j ≠ 0 ∧ j.natAbs.log2 < 9000
theorem op_fdivA {X : Cx} : OpR X (binaryOp .FloorDiv) (rI CDivA fun i j => .int (i.fdiv j)) := opI fun i j _ _ _ _ _ hc q => by
  exact floordiv_int hc.1 q (.inl (PyProof.noPylong_of_log2 hc.2))
theorem log_lt {b k : Nat} {i : Int} (h : Bi b i) (hb : b ≤ k) (hk : 0 < k) : i.natAbs.log2 < k := by
  by_cases z : i.natAbs = 0
  · rw [z]
    exact Nat.lt_of_le_of_lt (show Nat.log2 0 ≤ 0 by decide) hk
  · exact (Nat.log2_lt z).mpr (h.mono hb)
theorem cdivA {b : Nat} {i j : Int} (h : Bi b j) (hj : j ≠ 0) (hb : b ≤ 8000) : CDivA i j := ⟨hj, log_lt h (by omega : b ≤ 9000) (by decide)⟩
theorem cmulW {b : Nat} {i j : Int} (h : Bi b i) (k : Bi b j) (hb : b ≤ 8000) : CMulW i j := by
  have x := log_lt h (by omega : b ≤ 9000) (by decide)
  have y := log_lt k (by omega : b ≤ 9000) (by decide)
  unfold CMulW
  omega
/-! ### cells as dicts -/
def kvI (es : List (Int × Int)) : List (Key × V) := es.map fun p => (Sum.inl p.1, V.int p.2)
theorem valV_kvI (c : Int) : ∀ es : List (Int × Int), valV (kvI es) (Sum.inl c) = (lkp es c).map V.int
  | [] => rfl
  | p :: r => by
    have ih := valV_kvI c r
    by_cases e : p.1 = c
    · have e1 : valV (kvI (p :: r)) (Sum.inl c) = some (V.int p.2) := valV_pos (p := ((Sum.inl p.1 : Key), V.int p.2)) (by rw [e])
      rw [e1]
      show _ = (if p.1 = c then some p.2 else lkp r c).map V.int
      rw [if_pos e]
      rfl
    · have e1 : valV (kvI (p :: r)) (Sum.inl c) = valV (kvI r) (Sum.inl c) := valV_neg (p := ((Sum.inl p.1 : Key), V.int p.2)) (fun z => e (Sum.inl.inj z))
      rw [e1, ih]
      show _ = (if p.1 = c then some p.2 else lkp r c).map V.int
      rw [if_neg e]
theorem putK_kvI (es : List (Int × Int)) (c v : Int) : putK (kvI es) (Sum.inl c) (V.int v) = kvI (putI es c v) := by
  unfold putK putI
  rw [valV_any, valV_kvI]
  cases h : lkp es c with
  | none =>
    show (kvI es ++ [(Sum.inl c, V.int v)]) = kvI (es ++ [(c, v)])
    unfold kvI
    rw [List.map_append]
    rfl
  | some w =>
    show (kvI es).map _ = kvI (es.map _)
    unfold kvI
    rw [List.map_map, List.map_map]
    refine List.map_congr_left fun p _ => ?_
    show (if (Sum.inl p.1 : Key) = Sum.inl c then ((Sum.inl p.1 : Key), V.int v) else (Sum.inl p.1, V.int p.2)) = _
    by_cases e : p.1 = c
    · rw [if_pos (by rw [e])]
      show _ = (Sum.inl (if p.1 = c then (p.1, v) else p).1, V.int (if p.1 = c then (p.1, v) else p).2)
      rw [if_pos e]
    · rw [if_neg (fun z => e (Sum.inl.inj z))]
      show _ = (Sum.inl (if p.1 = c then (p.1, v) else p).1, V.int (if p.1 = c then (p.1, v) else p).2)
      rw [if_neg e]
theorem dropK_kvI (es : List (Int × Int)) (c : Int) : dropK (kvI es) (Sum.inl c) = kvI (dropI es c) := by
  unfold dropK dropI kvI
  rw [List.filter_map]
  congr 1
  refine List.filter_congr fun p _ => ?_
  show decide ((Sum.inl p.1 : Key) ≠ Sum.inl c) = decide (p.1 ≠ c)
  simp
theorem kvI_len (es : List (Int × Int)) : (kvI es).length = es.length := List.length_map ..
/-! ### the law's stand, a dict -/
def liveK (s : Mst) (pc ps : Addr) : List (Key × V) := [(.inr "block", .int s.block), (.inr "room", .int s.room), (.inr "tick", .bl s.tick), (.inr "flag", .bl s.flag), (.inr "test", .bl s.test), (.inr "mode", .int s.mode),
  (.inr "first", .int s.first), (.inr "second", .int s.second), (.inr "cells", .ref pc), (.inr "heard", .int (s.heard : Nat)), (.inr "said", .ref ps), (.inr "done", .bl s.isd)]
theorem lv_block {s : Mst} {pc ps : Addr} : valV (liveK s pc ps) (.inr "block") = some (.int s.block) := rfl
theorem lv_room {s : Mst} {pc ps : Addr} : valV (liveK s pc ps) (.inr "room") = some (.int s.room) := rfl
theorem lv_tick {s : Mst} {pc ps : Addr} : valV (liveK s pc ps) (.inr "tick") = some (.bl s.tick) := rfl
theorem lv_flag {s : Mst} {pc ps : Addr} : valV (liveK s pc ps) (.inr "flag") = some (.bl s.flag) := rfl
theorem lv_test {s : Mst} {pc ps : Addr} : valV (liveK s pc ps) (.inr "test") = some (.bl s.test) := rfl
theorem lv_mode {s : Mst} {pc ps : Addr} : valV (liveK s pc ps) (.inr "mode") = some (.int s.mode) := rfl
theorem lv_first {s : Mst} {pc ps : Addr} : valV (liveK s pc ps) (.inr "first") = some (.int s.first) := rfl
theorem lv_second {s : Mst} {pc ps : Addr} : valV (liveK s pc ps) (.inr "second") = some (.int s.second) := rfl
theorem lv_cells {s : Mst} {pc ps : Addr} : valV (liveK s pc ps) (.inr "cells") = some (.ref pc) := rfl
theorem lv_heard {s : Mst} {pc ps : Addr} : valV (liveK s pc ps) (.inr "heard") = some (.int (s.heard : Nat)) := rfl
theorem lv_said {s : Mst} {pc ps : Addr} : valV (liveK s pc ps) (.inr "said") = some (.ref ps) := rfl
theorem lv_done {s : Mst} {pc ps : Addr} : valV (liveK s pc ps) (.inr "done") = some (.bl s.isd) := rfl
theorem lp_block {s : Mst} {pc ps : Addr} (i : Int) : putK (liveK s pc ps) (.inr "block") (.int i) = liveK { s with block := i } pc ps := rfl
theorem lp_room {s : Mst} {pc ps : Addr} (i : Int) : putK (liveK s pc ps) (.inr "room") (.int i) = liveK { s with room := i } pc ps := rfl
theorem lp_tick {s : Mst} {pc ps : Addr} (i : Bool) : putK (liveK s pc ps) (.inr "tick") (.bl i) = liveK { s with tick := i } pc ps := rfl
theorem lp_flag {s : Mst} {pc ps : Addr} (i : Bool) : putK (liveK s pc ps) (.inr "flag") (.bl i) = liveK { s with flag := i } pc ps := rfl
theorem lp_test {s : Mst} {pc ps : Addr} (i : Bool) : putK (liveK s pc ps) (.inr "test") (.bl i) = liveK { s with test := i } pc ps := rfl
theorem lp_mode {s : Mst} {pc ps : Addr} (i : Int) : putK (liveK s pc ps) (.inr "mode") (.int i) = liveK { s with mode := i } pc ps := rfl
theorem lp_first {s : Mst} {pc ps : Addr} (i : Int) : putK (liveK s pc ps) (.inr "first") (.int i) = liveK { s with first := i } pc ps := rfl
theorem lp_second {s : Mst} {pc ps : Addr} (i : Int) : putK (liveK s pc ps) (.inr "second") (.int i) = liveK { s with second := i } pc ps := rfl
theorem lp_heard {s : Mst} {pc ps : Addr} (i : Nat) : putK (liveK s pc ps) (.inr "heard") (.int (i : Nat)) = liveK { s with heard := i } pc ps := rfl
theorem lp_said {s : Mst} {pc ps : Addr} (q : Addr) (l : List Int) : putK (liveK s pc ps) (.inr "said") (.ref q) = liveK { s with said := l } pc q := rfl
theorem lp_cells {s : Mst} {pc ps : Addr} (q : Addr) : putK (liveK s pc ps) (.inr "cells") (.ref q) = liveK s q ps := rfl
theorem lp_done {s : Mst} {pc ps : Addr} (i : Bool) : putK (liveK s pc ps) (.inr "done") (.bl i) = liveK { s with isd := i } pc ps := rfl
structure LiveAt (H : Hp) (L pc : Addr) (s : Mst) (m : Nat) (ps : Addr) (es : List (Int × Int)) : Prop where
  at_ : H L = some (.dK (liveK s pc ps))
  cat : H pc = some (.dK (kvI es))
  cl : CellsL es s.cells
  sat : H ps = some (.lst (s.said.map V.int))
  cn : es.length ≤ m
  sn : s.said.length ≤ m
  ne : L ≠ pc
/-- all but the dicts at L and pc stays -/
def Mv2 (L pc : Addr) (H H' : Hp) : Prop := ∀ b o, b ≠ L → b ≠ pc → H b = some o → H' b = some o
theorem Mv2.refl (L pc : Addr) (H : Hp) : Mv2 L pc H H := fun _ _ _ _ h => h
theorem Mv2.trans {L pc : Addr} {H H1 H2 : Hp} (x : Mv2 L pc H H1) (y : Mv2 L pc H1 H2) : Mv2 L pc H H2 := fun b o n k h => y b o n k (x b o n k h)
theorem Mv2.of {L pc : Addr} {H H1 : Hp} (x : Same H H1) : Mv2 L pc H H1 := fun b o _ _ h => x b o h
theorem Mv2.l {L pc : Addr} {H : Hp} {o : HO} : Mv2 L pc H (upd H L o) := fun b u n _ h => by rw [upd_ne n]; exact h
theorem Mv2.c {L pc : Addr} {H : Hp} {o : HO} : Mv2 L pc H (upd H pc o) := fun b u _ n h => by rw [upd_ne n]; exact h
theorem LiveAt.same {H H' : Hp} {L pc ps : Addr} {s : Mst} {m : Nat} {es : List (Int × Int)} (h : LiveAt H L pc s m ps es) (e : Same H H') : LiveAt H' L pc s m ps es :=
  { h with at_ := e _ _ h.at_, cat := e _ _ h.cat, sat := e _ _ h.sat }
theorem LiveAt.mono {H : Hp} {L pc ps : Addr} {s : Mst} {m n : Nat} {es : List (Int × Int)} (h : LiveAt H L pc s m ps es) (l : m ≤ n) : LiveAt H L pc s n ps es := { h with cn := Nat.le_trans h.cn l, sn := Nat.le_trans h.sn l }
/-- a field of the law's stand is set -/
theorem LiveAt.put {H : Hp} {L pc ps : Addr} {s t : Mst} {m : Nat} {es : List (Int × Int)} {k : Key} {v : V} (h : LiveAt H L pc s m ps es) (e : putK (liveK s pc ps) k v = liveK t pc ps) (hc : t.cells = s.cells) (hs : t.said = s.said) : LiveAt (upd H L (.dK (putK (liveK s pc ps) k v))) L pc t m ps es := by
  refine ⟨by rw [upd_same, e], ?_, by rw [hc]; exact h.cl, ?_, h.cn, by rw [hs]; exact h.sn, h.ne⟩
  · rw [upd_ne h.ne.symm]
    exact h.cat
  · rw [upd_ne (ne_of_two h.sat h.at_ (fun z => by cases z)), hs]
    exact h.sat
theorem live_len {s : Mst} {pc ps : Addr} : (liveK s pc ps).length < sizeLine := by
  show 12 < sizeLine
  decide
theorem LiveAt.get {H : Hp} {L pc ps : Addr} {s : Mst} {m : Nat} {es : List (Int × Int)} {k : Str} {v : V} (h : LiveAt H L pc s m ps es) (e : valV (liveK s pc ps) (.inr k) = some v) : DGet H L (.str k) (some v) := e ▸ DGet.k (k := .inr k) h.at_
/-! ### what a work has -/
def workF (s : Mst) (nl pc ps : Addr) : List (Str × V) := [("numbers", .ref nl), ("block", .int s.block), ("room", .int s.room), ("tick", .bl s.tick), ("flag", .bl s.flag), ("test", .bl s.test), ("mode", .int s.mode),
  ("first", .int s.first), ("second", .int s.second), ("cells", .ref pc), ("heard", .int (s.heard : Nat)), ("said", .ref ps), ("is_done", .bl s.isd)]
/-- a work at w, made behind H0 -/
structure WorkAt (K : PySem.W.Frag) (C : Addr) (H0 H : Hp) (w nl : Addr) (ns : List Int) (s : Mst) (m : Nat) (dx pc ps : Addr) (es : List (Int × Int)) : Prop where
  at_ : H w = some (.ins C dx (workF s nl pc ps))
  cat : H pc = some (.dK (kvI es))
  cl : CellsW es s.cells
  sat : H ps = some (.lst (s.said.map V.int))
  num : SqQ K H0 nl (ns.map V.int)
  cn : es.length ≤ m
  sn : s.said.length ≤ m
  old : Same H0 H
  nw : H0 w = none
  nc : H0 pc = none
  np : H0 ps = none
section
variable {K : PySem.W.Frag} {C w nl dx pc ps : Addr} {H0 H H' : Hp} {ns : List Int} {s t : Mst} {m n : Nat} {es : List (Int × Int)}
theorem WorkAt.nums (h : WorkAt K C H0 H w nl ns s m dx pc ps es) : SqQ K H nl (ns.map V.int) := Same.q h.old h.num
theorem WorkAt.mono (h : WorkAt K C H0 H w nl ns s m dx pc ps es) (l : m ≤ n) : WorkAt K C H0 H w nl ns s n dx pc ps es := { h with cn := Nat.le_trans h.cn l, sn := Nat.le_trans h.sn l }
theorem WorkAt.same (h : WorkAt K C H0 H w nl ns s m dx pc ps es) (e : Same H H') : WorkAt K C H0 H' w nl ns s m dx pc ps es :=
  { h with at_ := e _ _ h.at_, cat := e _ _ h.cat, sat := e _ _ h.sat, old := h.old.trans e }
theorem WorkAt.wp (h : WorkAt K C H0 H w nl ns s m dx pc ps es) : ps ≠ w := ne_of_two h.sat h.at_ (fun z => by cases z)
theorem WorkAt.wc (h : WorkAt K C H0 H w nl ns s m dx pc ps es) : pc ≠ w := ne_of_two h.cat h.at_ (fun z => by cases z)
theorem WorkAt.ppc (h : WorkAt K C H0 H w nl ns s m dx pc ps es) : ps ≠ pc := ne_of_two h.sat h.cat (fun z => by cases z)
/-- a field is set -/
theorem WorkAt.put {fs : List (Str × V)} (h : WorkAt K C H0 H w nl ns s m dx pc ps es) (e : fs = workF t nl pc ps) (hc : t.cells = s.cells) (hs : t.said = s.said) : WorkAt K C H0 (upd H w (.ins C dx fs)) w nl ns t m dx pc ps es := by
  refine ⟨by rw [upd_same, e], ?_, by rw [hc]; exact h.cl, ?_, h.num, h.cn, by rw [hs]; exact h.sn, same_set h.old h.nw, h.nw, h.nc, h.np⟩
  · rw [upd_ne h.wc]
    exact h.cat
  · rw [upd_ne h.wp, hs]
    exact h.sat
/-- the cells are set -/
theorem WorkAt.cell {es' : List (Int × Int)} (h : WorkAt K C H0 H w nl ns s m dx pc ps es) (e : workF t nl pc ps = workF s nl pc ps) (hs : t.said = s.said) (hc : CellsW es' t.cells) (hl : es'.length ≤ m + 1) : WorkAt K C H0 (upd H pc (.dK (kvI es'))) w nl ns t (m + 1) dx pc ps es' := by
  refine ⟨?_, upd_same, hc, ?_, h.num, hl, by rw [hs]; exact Nat.le_succ_of_le h.sn, same_set h.old h.nc, h.nw, h.nc, h.np⟩
  · rw [upd_ne h.wc.symm, e]
    exact h.at_
  · rw [upd_ne h.ppc, hs]
    exact h.sat
/-- one more is said -/
theorem WorkAt.say {i : Int} (h : WorkAt K C H0 H w nl ns s m dx pc ps es) (e : workF t nl pc ps = workF s nl pc ps) (hc : t.cells = s.cells) (hs : t.said = s.said ++ [i]) : WorkAt K C H0 (upd H ps (.lst (s.said.map V.int ++ [V.int i]))) w nl ns t (m + 1) dx pc ps es := by
  refine ⟨?_, ?_, by rw [hc]; exact h.cl, ?_, h.num, Nat.le_succ_of_le h.cn, ?_, same_set h.old h.np, h.nw, h.nc, h.np⟩
  · rw [upd_ne h.wp.symm, e]
    exact h.at_
  · rw [upd_ne h.ppc.symm]
    exact h.cat
  · rw [upd_same, hs, List.map_append]
    rfl
  · rw [hs, List.length_append]
    have := h.sn
    show _ + 1 ≤ _
    omega
end
theorem work_len {s : Mst} {nl pc ps : Addr} : (workF s nl pc ps).length < 1000 := by
  show 13 < 1000
  decide
/-! ### a stand -/
def standF (s : Mst) (t u : Addr) : List (Str × V) := [("block", .int s.block), ("room", .int s.room), ("tick", .bl s.tick), ("flag", .bl s.flag), ("test", .bl s.test), ("mode", .int s.mode),
  ("first", .int s.first), ("second", .int s.second), ("cells", .ref t), ("heard", .int (s.heard : Nat)), ("said", .ref u), ("is_done", .bl s.isd)]
/-- pairs of ints in a tuple -/
def PairsT (K : PySem.W.Frag) (H : Hp) (t : Addr) (l : List (Int × Int)) : Prop := ∃ ps : List Addr, SqT K H t (ps.map V.ref) ∧ Paired (fun (q : Addr) (p : Int × Int) => SqT K H q [.int p.1, .int p.2]) ps l
/-- pairs of ints, lists or tuples -/
def PairsQ (K : PySem.W.Frag) (H : Hp) (t : Addr) (l : List (Int × Int)) : Prop := ∃ ps : List Addr, SqQ K H t (ps.map V.ref) ∧ Paired (fun (q : Addr) (p : Int × Int) => SqQ K H q [.int p.1, .int p.2]) ps l
theorem PairsT.same {K : PySem.W.Frag} {H H' : Hp} {t : Addr} {l : List (Int × Int)} (h : PairsT K H t l) (e : Same H H') : PairsT K H' t l := by
  obtain ⟨ps, h1, h2⟩ := h
  exact ⟨ps, Same.t e h1, Paired.mapP h2 fun _ _ z => Same.t e z⟩
theorem PairsQ.same {K : PySem.W.Frag} {H H' : Hp} {t : Addr} {l : List (Int × Int)} (h : PairsQ K H t l) (e : Same H H') : PairsQ K H' t l := by
  obtain ⟨ps, h1, h2⟩ := h
  exact ⟨ps, Same.q e h1, Paired.mapP h2 fun _ _ z => Same.q e z⟩
structure StandAt (K : PySem.W.Frag) (C : Addr) (H : Hp) (p : Addr) (s : Mst) (l : List (Int × Int)) (dx t u : Addr) : Prop where
  at_ : H p = some (.ins C dx (standF s t u))
  cat : PairsT K H t l
  sat : SqT K H u (s.said.map V.int)
  isC : IsC l s.cells
theorem StandAt.same {K : PySem.W.Frag} {C p dx t u : Addr} {H H' : Hp} {s : Mst} {l : List (Int × Int)} (h : StandAt K C H p s l dx t u) (e : Same H H') : StandAt K C H' p s l dx t u :=
  { h with at_ := e _ _ h.at_, cat := h.cat.same e, sat := Same.t e h.sat }
/-! ### as data -/
def pairD (p : Int × Int) : PyData := .tuple [.int p.1, .int p.2]
def standD (s : Mst) (l : List (Int × Int)) : List PyData := [.int s.block, .int s.room, .bool s.tick, .bool s.flag, .bool s.test, .int s.mode, .int s.first, .int s.second, .tuple (l.map pairD), .int (s.heard : Nat), .tuple (s.said.map PyData.int), .bool s.isd]
/-- data that repr shows, with great numbers -/
structure ShB (k m : Nat) (d : PyData) : Prop where
  sh : d.showable = true
  nd : d.hasDict = false
  dp : d.depth ≤ k
  lv : d.leavesShort 2000 = true
  bk : d.bulk ≤ m
structure ShBA (k m : Nat) (ds : List PyData) : Prop where
  sh : PyData.showableAll ds = true
  nd : PyData.hasDictAll ds = false
  dp : PyData.depthAll ds ≤ k
  lv : PyData.leavesShortAll 2000 ds = true
  bk : PyData.bulkAll ds ≤ m
theorem ShB.up {k l m n : Nat} {d : PyData} (h : ShB k m d) (hk : k ≤ l) (hm : m ≤ n) : ShB l n d := ⟨h.sh, h.nd, Nat.le_trans h.dp hk, h.lv, Nat.le_trans h.bk hm⟩
theorem shB_bool (b : Bool) : ShB 0 0 (.bool b) := ⟨rfl, rfl, Nat.le_refl _, rfl, Nat.le_refl _⟩
theorem shB_int {b : Nat} {i : Int} (h : Bi b i) (hb : b ≤ 1915) : ShB 0 0 (.int i) := by
  have hl := log_lt h (by omega : b ≤ 1920) (by decide)
  refine ⟨?_, rfl, Nat.le_refl _, ?_, Nat.le_refl _⟩
  · simp only [PyData.showable, decide_eq_true_eq]
    exact hl
  · simp only [PyData.leavesShort, decide_eq_true_eq]
    have e := PySem.int_text_length_le (k := 1920) (by decide) hl
    show (Str.ofString (toString i)).length ≤ 2000
    rw [PySem.ofString_length]
    omega
theorem ShBA.nil {k : Nat} : ShBA k 0 [] := ⟨rfl, rfl, Nat.zero_le _, rfl, Nat.le_refl _⟩
theorem ShBA.cons {k m n : Nat} {d : PyData} {ds : List PyData} (h : ShB k m d) (t : ShBA k n ds) : ShBA k (m + 1 + n) (d :: ds) := by
  refine ⟨?_, ?_, ?_, ?_, ?_⟩
  · simp only [PyData.showableAll, h.sh, t.sh, Bool.and_self]
  · simp only [PyData.hasDictAll, h.nd, t.nd, Bool.or_self]
  · simp only [PyData.depthAll]
    exact Nat.max_le.mpr ⟨h.dp, t.dp⟩
  · simp only [PyData.leavesShortAll, h.lv, t.lv, Bool.and_self]
  · simp only [PyData.bulkAll]
    have := h.bk
    have := t.bk
    omega
theorem ShBA.lst {k m : Nat} {ds : List PyData} (h : ShBA k m ds) : ShB (k + 1) m (.list ds) :=
  ⟨by simp only [PyData.showable, h.sh], by simp only [PyData.hasDict, h.nd], by simp only [PyData.depth]; have := h.dp; omega, by simp only [PyData.leavesShort, h.lv], by simp only [PyData.bulk]; exact h.bk⟩
theorem ShBA.tup {k m : Nat} {ds : List PyData} (h : ShBA k m ds) : ShB (k + 1) m (.tuple ds) :=
  ⟨by simp only [PyData.showable, h.sh], by simp only [PyData.hasDict, h.nd], by simp only [PyData.depth]; have := h.dp; omega, by simp only [PyData.leavesShort, h.lv], by simp only [PyData.bulk]; exact h.bk⟩
theorem shBA_all {k w : Nat} {α : Type} {f : α → PyData} : ∀ (l : List α), (∀ x ∈ l, ShB k w (f x)) → ShBA k (l.length * (w + 1)) (l.map f)
  | [], _ => by
    rw [List.length_nil, Nat.zero_mul]
    exact ShBA.nil
  | x :: r, h => by
    have := ShBA.cons (h x List.mem_cons_self) (shBA_all r fun y m => h y (List.mem_cons_of_mem _ m))
    rw [List.length_cons, Nat.succ_mul, Nat.add_comm (r.length * (w + 1))]
    exact this
theorem ShB.len {k m : Nat} {d : PyData} (h : ShB k m d) (hm : m ≤ 8200) : d.shown.length ≤ sizeLine := by
  have h1 := PyData.shown_le_bulk 2000 (by decide) d h.lv
  have h2 := h.bk
  rw [sizeLine_eq]
  have h3 : (2000 + 2) * d.bulk ≤ 2002 * 8200 := Nat.mul_le_mul (by decide) (by omega)
  omega
theorem shB_stand {b : Nat} {s : Mst} {l : List (Int × Int)} (h : Bd b s) (hb : b ≤ 1915) (hC : IsC l s.cells) (hl : l.length ≤ 2000) (hs : s.said.length ≤ 2000) (h20 : 20 ≤ b) : ShB 3 8200 (.list (standD s l)) := by
  have z : ∀ i : Int, Bi b i → ShB 2 0 (.int i) := fun i hi => (shB_int hi hb).up (by decide) (Nat.le_refl _)
  have bo : ∀ i : Bool, ShB 2 0 (.bool i) := fun i => (shB_bool i).up (by decide) (Nat.le_refl _)
  have hm : Bi b s.mode := by
    have := h.mode
    exact Nat.lt_of_lt_of_le (show s.mode.natAbs < 2 ^ 20 by omega) (Nat.pow_le_pow_right (by decide) h20)
  have hh : Bi b (s.heard : Int) := by
    have := h.heard
    exact Nat.lt_of_lt_of_le (show (s.heard : Int).natAbs < 2 ^ 20 by omega) (Nat.pow_le_pow_right (by decide) h20)
  have pc : ∀ p ∈ l, ShB 1 2 (pairD p) := fun p hp => by
    obtain ⟨e1, e2⟩ := (hC.mem p.1 p.2).mp hp
    have k1 : Bi b p.1 := h.keys _ (by rw [e1]; exact e2)
    have k2 : Bi b p.2 := e1 ▸ h.cells p.1
    exact (ShBA.cons (shB_int k1 hb) (ShBA.cons (shB_int k2 hb) ShBA.nil)).tup
  have hc := (shBA_all l pc).tup
  have hs' := (shBA_all (w := 0) (f := PyData.int) s.said fun i hi => shB_int (h.said i hi) hb).tup.up (show 0 + 1 ≤ 2 by decide) (Nat.le_refl _)
  have all := (ShBA.cons (z _ h.block) <| ShBA.cons (z _ h.room) <| ShBA.cons (bo s.tick) <| ShBA.cons (bo s.flag) <| ShBA.cons (bo s.test) <| ShBA.cons (z _ hm) <| ShBA.cons (z _ h.first) <| ShBA.cons (z _ h.second) <|
    ShBA.cons hc <| ShBA.cons (z _ hh) <| ShBA.cons hs' <| ShBA.cons (bo s.isd) ShBA.nil).lst
  refine all.up (Nat.le_refl _) ?_
  omega
end Kx
namespace Ms
def startM : Mst := ⟨-1, 0, false, false, false, 2, 0, 0, fun _ => 0, 0, [], false⟩
end Ms
namespace Kx
open PySem PySem.Spec PyProof.Rows L2 SX LamX Ms
theorem go_fld {K : PySem.W.Frag} {ta : TE} {f : Str} {σ : L2.St} {H : Hp} {Q : VK} (h : ta σ H fun x H1 => ∃ a C dx fs v, x = .ref a ∧ H1 a = some (.ins C dx fs) ∧ Cls K C ∧ NoAttr K C f ∧ fs.lookup f = some v ∧ Q v H1) : tFld K ta f σ H Q := h
theorem go_sfld {K : PySem.W.Frag} {ta tv : TE} {f : Str} {D : Ends} {σ : L2.St} {H : Hp} (h : tv σ H fun y H1 => ta σ H1 fun x H2 => ∃ a C dx fs, x = .ref a ∧ H2 a = some (.ins C dx fs) ∧ Cls K C ∧ NoAttr K C f ∧ fs.length < 1000 ∧ D.nx σ (upd H2 a (.ins C dx (putF f y fs)))) : sFld K ta tv f D σ H := h
/-- a field of an instance at p is set; all else stays since H0 -/
theorem set_end {K : PySem.W.Frag} {i : Nat} {v : V} {f : Str} {fs : List (Str × V)} {D : Ends} {σ : L2.St} {H0 H : Hp} {p C dx : Addr} (hi : σ[i]? = some (some (.ref p))) (hp : H p = some (.ins C dx fs)) (mv : Mv p H0 H) (c : Cls K C) (n : NoAttr K C f) (l : fs.length < 1000)
    (k : ∀ H', Mv p H0 H' → H' p = some (.ins C dx (putF f v fs)) → D.nx σ H') : (tVar i) σ H fun x H2 => ∃ a C dx fs, x = .ref a ∧ H2 a = some (.ins C dx fs) ∧ Cls K C ∧ NoAttr K C f ∧ fs.length < 1000 ∧ D.nx σ (upd H2 a (.ins C dx (putF f v fs))) :=
  ⟨_, hi, p, C, dx, fs, rfl, hp, c, n, l, k _ (mv.trans (Mv.upd _ _ _)) upd_same⟩
section
variable {K : PySem.W.Frag} {C w nl dx pc ps : Addr} {H0 H : Hp} {ns : List Int} {s t : Mst} {m i : Nat} {es : List (Int × Int)} {σ : L2.St} {f : Str} {v : V}
theorem rdW (hi : σ[i]? = some (some (.ref w))) (hw : WorkAt K C H0 H w nl ns s m dx pc ps es) (c : Cls K C) (na : NoAttr K C f) (l : (workF s nl pc ps).lookup f = some v) {Q : VK} (q : Q v H) : tFld K (tVar i) f σ H Q := ⟨_, hi, w, C, dx, _, v, rfl, hw.at_, c, na, l, q⟩
theorem stW {D : Ends} (hi : σ[i]? = some (some (.ref w))) (hw : WorkAt K C H0 H w nl ns s m dx pc ps es) (c : Cls K C) (na : NoAttr K C f) (e : putF f v (workF s nl pc ps) = workF t nl pc ps) (hc : t.cells = s.cells) (hs : t.said = s.said)
    (k : ∀ H', WorkAt K C H0 H' w nl ns t m dx pc ps es → D.nx σ H') : (tVar i) σ H fun x H2 => ∃ a C dx fs, x = .ref a ∧ H2 a = some (.ins C dx fs) ∧ Cls K C ∧ NoAttr K C f ∧ fs.length < 1000 ∧ D.nx σ (upd H2 a (.ins C dx (putF f v fs))) :=
  ⟨_, hi, w, C, dx, _, rfl, hw.at_, c, na, work_len, k _ (hw.put e hc hs)⟩
theorem cell_get {f : Int → Int} (h : CellsW es f) (c : Int) : (valV (kvI es) (Sum.inl c)).getD (.int 0) = .int (f c) := by
  rw [valV_kvI, ← h.at_]
  cases lkp es c <;> rfl
end
end Kx
namespace Kx
open PySem PySem.Spec PyProof.Rows L2 SX LamX Ms
theorem decI (a b : Int) : decide (V.int a = V.int b) = decide (a = b) := by
  by_cases z : a = b
  · rw [z]; simp
  · rw [decide_eq_false z, decide_eq_false (fun y => z (V.int.inj y))]
theorem decB (a b : Bool) : decide (V.bl a = V.bl b) = decide (a = b) := by
  cases a <;> cases b <;> decide
theorem go_ife {tt : TT} {ta tb : TE} {σ : L2.St} {H : Hp} {Q : VK} (h : tt σ H fun b H1 => if b = true then ta σ H1 Q else tb σ H1 Q) : tIf tt ta tb σ H Q := h
theorem go_tup {t : TA} {σ : L2.St} {H : Hp} {Q : VK} (h : t σ H fun xs H1 => xs.length ≤ sizeLine ∧ ∀ p, H1 p = none → Q (.ref p) (upd H1 p (.tup xs))) : tTup t σ H Q := h
theorem go_or1 {ta tb : TT} {σ : L2.St} {H : Hp} {Q : Bool → Hp → Prop} (h : ta σ H fun b H1 => if b = true then Q true H1 else tb σ H1 Q) : tOr ta tb σ H Q := h
section
variable {K : PySem.W.Frag} {C w nl dx pc ps : Addr} {H0 H : Hp} {ns : List Int} {s t : Mst} {m i : Nat} {es : List (Int × Int)} {σ : L2.St} {f : Str} {v : V}
theorem stG {Q : L2.St → Hp → Prop} (hi : σ[i]? = some (some (.ref w))) (hw : WorkAt K C H0 H w nl ns s m dx pc ps es) (c : Cls K C) (na : NoAttr K C f) (e : putF f v (workF s nl pc ps) = workF t nl pc ps) (hc : t.cells = s.cells) (hs : t.said = s.said)
    (k : ∀ H', WorkAt K C H0 H' w nl ns t m dx pc ps es → Q σ H') : gFld K (tVar i) f v σ H Q :=
  ⟨_, hi, w, C, dx, _, rfl, hw.at_, c, na, work_len, k _ (hw.put e hc hs)⟩
end
theorem num_at {ns : List Int} {k : Nat} (h : k < ns.length) : atI (ns.map V.int) (k : Int) = some (.int (ns.getD k 0)) := by
  rw [at_nat (by rw [List.length_map]; exact h)]
  rw [List.getD_eq_getElem?_getD, List.getElem?_eq_getElem h]
  simp
end Kx
namespace Kx
open PySem PySem.Spec PyProof.Rows L2 SX LamX Ms
theorem go_drop {te : TE} {D : Ends} {σ : L2.St} {H : Hp} (h : te σ H fun _ H1 => D.nx σ H1) : tDrop te D σ H := h
theorem go_bm {K : PySem.W.Frag} {ty : String} {r : V → List V → Hp → VK → Prop} {to : TE} {t : TA} {σ : L2.St} {H : Hp} {Q : VK} (h : to σ H fun x H1 => tyV K ty x H1 ∧ t σ H1 fun xs H2 => r x xs H2 Q) : tBM K ty r to t σ H Q := h
end Kx
namespace Kx
open PySem PySem.Spec PyProof.Rows L2 SX LamX Ms
theorem Mv.none {a b : Addr} {H H' : Hp} (m : Mv a H H') (n : b ≠ a) (h : H' b = none) : H b = none := by
  cases e : H b with
  | none => rfl
  | some o =>
    have := m b o n e
    rw [h] at this
    cases this
end Kx
namespace Ms
theorem bd_may {b n : Nat} {s : Mst} (h : Bd b s) : Bd b (mayS s n) := by
  unfold mayS
  split
  · exact { h with }
  · exact h
end Ms
namespace Kx
open PySem PySem.Spec PyProof.Rows L2 SX LamX Ms
def rowV (row : List Nat) : List V := row.map fun n : Nat => V.int (n : Int)
theorem rowV_len (row : List Nat) : (rowV row).length = row.length := List.length_map ..
theorem rowV_get {row : List Nat} {i : Nat} {v : V} (h : (rowV row)[i]? = some v) : ∃ n : Nat, row[i]? = some n ∧ v = .int n := map_at h
end Kx
namespace Kx
open PySem PySem.Spec PyProof.Rows L2 SX LamX Ms
theorem go_andT {ta tb : TT} {σ : L2.St} {H : Hp} {Q : Bool → Hp → Prop} (h : ta σ H fun b H1 => if b = true then tb σ H1 Q else Q false H1) : tAnd ta tb σ H Q := h
end Kx
namespace Kx
open PySem PySem.Spec PyProof.Rows L2 SX LamX Ms
theorem inK_call_tuple_of {X : Cx} {K : PySem.W.Frag} (e : X.K = K) : CallR X (.type "tuple") (fun xs H Q => ∃ p ys, xs = [.ref p] ∧ ((SqL K H p ys ∧ ∀ l, H l = none → Q (.ref l) (upd H l (.tup ys))) ∨ (SqT K H p ys ∧ Q (.ref p) H))) := e ▸ call_tuple_of
/-- a comprehension over a list or tuple that a name holds, with what is so far -/
theorem lc_seqit {K : PySem.W.Frag} {a : Addr} {xs : List V} {g : TG} {σ : L2.St} {H : Hp} {k : Nat} {tt : TT} {te : TE} {vs : List Nat} {Q : VK} (P : Addr → Nat → Hp → Prop) (hi : σ[k]? = some (some (.ref a))) (hq : SqQ K H a xs)
    (h0 : ∀ D, H D = none → P D 0 (upd H D (.lst []))) (hS : ∀ D i Hc, H D = none → P D i Hc → Same H Hc)
    (hs : ∀ D i x Hc, H D = none → xs[i]? = some x → P D i Hc → g x (wipe σ vs) Hc fun σ2 H2 => wipe σ2 vs = wipe σ vs ∧ tt σ2 H2 fun b H3 =>
      if b = true then te σ2 H3 fun y H4 => ∃ acc, H4 D = some (.lst acc) ∧ acc.length < sizeLine ∧ P D (i + 1) (upd H4 D (.lst (acc ++ [y]))) else P D (i + 1) H3)
    (hd : ∀ D Hc, H D = none → P D xs.length Hc → Q (.ref D) Hc) : tLc (fun σ H R => iList K (tVar k) σ H R ∨ iTup K (tVar k) σ H R) g tt te vs σ H Q := by
  rcases hq with h | h
  · exact .inl ⟨_, hi, a, rfl, ⟨_, h⟩, fun D nD => lc_list (P D) (h0 D nD) (fun i Hc _ p => (hS D i Hc nD p).seq h) (fun i x Hc hx p => hs D i x Hc nD hx p) (fun Hc p => hd D Hc nD p)⟩
  · exact .inr ⟨_, hi, a, rfl, ⟨_, h⟩, fun D nD => lc_tup (P D) (h0 D nD) (fun i Hc _ p => Same.t (hS D i Hc nD p) h) (fun i x Hc hx p => hs D i x Hc nD hx p) (fun Hc p => hd D Hc nD p)⟩
/-- a pair of ints, tracked -/
def Pn (H : Hp) (t : Addr) (p : Int × Int) : Prop := H t = some (.tup [.int p.1, .int p.2])
def keyOf (H : Hp) : V → Int × Int
  | .ref t => match H t with
    | some (.tup [.int i, .int j]) => (i, j)
    | _ => (0, 0)
  | _ => (0, 0)
theorem keyOf_at {H : Hp} {t : Addr} {p : Int × Int} (h : Pn H t p) : keyOf H (.ref t) = p := by
  unfold Pn at h
  show (match H t with | some (.tup [.int i, .int j]) => (i, j) | _ => (0, 0)) = p
  rw [h]
theorem refs_of : ∀ {ys : List V}, (∀ y ∈ ys, ∃ t, y = V.ref t) → ∃ us : List Addr, ys = us.map V.ref
  | [], _ => ⟨[], rfl⟩
  | y :: r, h => by
    obtain ⟨t, rfl⟩ := h y List.mem_cons_self
    obtain ⟨us, rfl⟩ := refs_of fun z m => h z (List.mem_cons_of_mem _ m)
    exact ⟨t :: us, rfl⟩
theorem pn_mem {H : Hp} : ∀ {ts : List Addr} {es : List (Int × Int)}, Paired (Pn H) ts es → ∀ t ∈ ts, ∃ p ∈ es, Pn H t p
  | _, _, .cons h r, t, m => by
    rcases List.mem_cons.mp m with rfl | m
    · exact ⟨_, List.mem_cons_self, h⟩
    · obtain ⟨p, a, b⟩ := pn_mem r t m
      exact ⟨p, List.mem_cons_of_mem _ a, b⟩
theorem pn_keys {H : Hp} : ∀ {ts : List Addr} {es : List (Int × Int)}, Paired (Pn H) ts es → (ts.map V.ref).map (keyOf H) = es
  | _, _, .nil => rfl
  | _, _, .cons h r => by
    rw [List.map_cons, List.map_cons, pn_keys r, keyOf_at h]
theorem pn_back {H : Hp} : ∀ {us : List Addr}, (∀ u ∈ us, ∃ p, Pn H u p) → Paired (Pn H) us ((us.map V.ref).map (keyOf H))
  | [], _ => .nil
  | u :: r, h => by
    obtain ⟨p, hp⟩ := h u List.mem_cons_self
    rw [List.map_cons, List.map_cons, keyOf_at hp]
    exact .cons hp (pn_back fun v m => h v (List.mem_cons_of_mem _ m))
theorem sorted_cells {K : PySem.W.Frag} {H : Hp} {a : Addr} {ts : List Addr} {es : List (Int × Int)} {f : Int → Int} {Q : VK} (hp : Paired (Pn H) ts es) (ha : H a = some (.lst (ts.map V.ref))) (nd : (es.map (·.1)).Nodup) (hm : ∀ c v, (c, v) ∈ es ↔ f c = v ∧ v ≠ 0)
    (q : ∀ (p : Addr) (l : List (Int × Int)) (us : List Addr), H p = none → IsC l f → l.length = es.length → Paired (Pn H) us l → Q (.ref p) (upd H p (.lst (us.map V.ref)))) : rSortedPO K [.ref a] H Q := by
  refine ⟨a, ts.map V.ref, keyOf H, rfl, .inl (.inl ha), fun x hx => ?_, fun ys p srt stb np => ?_⟩
  · obtain ⟨t, ht, rfl⟩ := List.mem_map.mp hx
    obtain ⟨p, _, h⟩ := pn_mem hp t ht
    rw [keyOf_at h]
    exact ⟨t, rfl, h⟩
  · have perm := stb.perm
    obtain ⟨us, rfl⟩ := refs_of fun y hy => by
      obtain ⟨t, _, rfl⟩ := List.mem_map.mp (perm.mem_iff.mp hy)
      exact ⟨t, rfl⟩
    have pk : ((us.map V.ref).map (keyOf H)).Perm es := by
      have := perm.map (keyOf H)
      rw [pn_keys hp] at this
      exact this
    refine q p _ us np (isC_of pk nd hm ?_) pk.length_eq (pn_back fun u hu => ?_)
    · refine List.pairwise_map.mpr (srt.imp fun {x y} h => ?_)
      have := SrtO.lexB_no.mp h
      omega
    · obtain ⟨t, ht, e⟩ := List.mem_map.mp (perm.mem_iff.mp (List.mem_map.mpr ⟨u, hu, rfl⟩))
      cases e
      obtain ⟨p, _, h⟩ := pn_mem hp u ht
      exact ⟨p, h⟩
theorem pairsQ_of {K : PySem.W.Frag} {H H' : Hp} {p : Addr} {us : List Addr} {l : List (Int × Int)} (h : Paired (Pn H) us l) (e : Same H H') (hp : H' p = some (.lst (us.map V.ref))) : PairsQ K H' p l :=
  ⟨us, .inl (.inl (.inl hp)), Paired.mapP h fun _ _ z => .inr (.inl (.inl (e _ _ z)))⟩
/-- the lock of a dict leaves all else -/
theorem lock_same {H : Hp} {d : Addr} {u o : HO} (hd : H d = some u) (H' : Hp) (e : Same (upd H d o) H') : Same H (upd H' d u) := fun b w h => by
  by_cases z : b = d
  · subst z
    rw [upd_same, ← hd]
    exact h
  · rw [upd_ne z]
    refine e b w ?_
    rw [upd_ne z]
    exact h
end Kx
namespace Kx
open PySem PySem.Spec PyProof.Rows L2 SX LamX Ms
section
variable {K : PySem.W.Frag} {H H' : Hp} {p a : Addr} {o : HO} {xs : List V}
theorem sqT_mv (hp : H p = some o) (n1 : ∀ xs, o ≠ .tup xs) (n2 : ∀ ob u, o ≠ .frz ob u) (m : Mv p H H') (h : SqT K H a xs) : SqT K H' a xs := by
  rcases h with (h | ⟨ob, h⟩) | h
  · exact .inl (.inl (m _ _ (ne_of_two h hp (fun z => n1 _ z.symm)) h))
  · exact .inl (.inr ⟨ob, m _ _ (ne_of_two h hp (fun z => n2 _ _ z.symm)) h⟩)
  · exact .inr h
theorem sqL_mv (hp : H p = some o) (n1 : ∀ xs, o ≠ .lst xs) (n2 : ∀ ob u, o ≠ .frz ob u) (m : Mv p H H') (h : SqL K H a xs) : SqL K H' a xs := by
  rcases h with (h | ⟨ob, h⟩) | h
  · exact .inl (.inl (m _ _ (ne_of_two h hp (fun z => n1 _ z.symm)) h))
  · exact .inl (.inr ⟨ob, m _ _ (ne_of_two h hp (fun z => n2 _ _ z.symm)) h⟩)
  · exact .inr h
theorem sqQ_mv (hp : H p = some o) (n0 : ∀ xs, o ≠ .lst xs) (n1 : ∀ xs, o ≠ .tup xs) (n2 : ∀ ob u, o ≠ .frz ob u) (m : Mv p H H') (h : SqQ K H a xs) : SqQ K H' a xs := h.imp (sqL_mv hp n0 n2 m) (sqT_mv hp n1 n2 m)
theorem PairsQ.mv {t : Addr} {l : List (Int × Int)} (hp : H p = some o) (n0 : ∀ xs, o ≠ .lst xs) (n1 : ∀ xs, o ≠ .tup xs) (n2 : ∀ ob u, o ≠ .frz ob u) (m : Mv p H H') (h : PairsQ K H t l) : PairsQ K H' t l := by
  obtain ⟨ps, h1, h2⟩ := h
  exact ⟨ps, sqQ_mv hp n0 n1 n2 m h1, Paired.mapP h2 fun _ _ z => sqQ_mv hp n0 n1 n2 m z⟩
theorem PairsT.mv {t : Addr} {l : List (Int × Int)} (hp : H p = some o) (n1 : ∀ xs, o ≠ .tup xs) (n2 : ∀ ob u, o ≠ .frz ob u) (m : Mv p H H') (h : PairsT K H t l) : PairsT K H' t l := by
  obtain ⟨ps, h1, h2⟩ := h
  exact ⟨ps, sqT_mv hp n1 n2 m h1, Paired.mapP h2 fun _ _ z => sqT_mv hp n1 n2 m z⟩
end
/-- tuples made of pairs, so far -/
def TupsP (K : PySem.W.Frag) (H0 : Hp) (l : List (Int × Int)) (D : Addr) (i : Nat) (Hc : Hp) : Prop := ∃ qs : List Addr, Hc D = some (.lst (qs.map V.ref)) ∧ Paired (fun (q : Addr) (p : Int × Int) => SqT K Hc q [.int p.1, .int p.2]) qs (l.take i) ∧ Same H0 Hc
theorem TupsP.new {K : PySem.W.Frag} {H0 : Hp} {l : List (Int × Int)} {D : Addr} (nD : H0 D = none) : TupsP K H0 l D 0 (upd H0 D (.lst [])) := ⟨[], upd_same, .nil, same_new nD⟩
theorem TupsP.app {K : PySem.W.Frag} {H0 Hc H4 : Hp} {l : List (Int × Int)} {D t : Addr} {i : Nat} {p : Int × Int} (h : TupsP K H0 l D i Hc) (nD : H0 D = none) (hp : l[i]? = some p) (e : Same Hc H4) (ht : SqT K H4 t [.int p.1, .int p.2]) (hl : l.length ≤ 100000) :
    ∃ acc, H4 D = some (.lst acc) ∧ acc.length < sizeLine ∧ TupsP K H0 l D (i + 1) (upd H4 D (.lst (acc ++ [V.ref t]))) := by
  obtain ⟨qs, h1, h2, h3⟩ := h
  have hD := e _ _ h1
  have hlen := h2.length
  refine ⟨_, hD, ?_, qs ++ [t], ?_, ?_, same_set (h3.trans e) nD⟩
  · rw [List.length_map, hlen, List.length_take]
    exact Nat.lt_of_le_of_lt (Nat.min_le_right _ _) (Nat.lt_of_le_of_lt hl (by decide))
  · rw [upd_same, List.map_append]
    rfl
  · rw [take_succ hp]
    have k : ∀ {q : Addr} {p : Int × Int}, SqT K H4 q [.int p.1, .int p.2] → SqT K (upd H4 D (.lst (qs.map V.ref ++ [V.ref t]))) q [.int p.1, .int p.2] := fun z => sqT_mv hD (fun _ z => by cases z) (fun _ _ z => by cases z) (Mv.upd _ _ _) z
    exact Paired.snoc (Paired.mapP h2 fun _ _ z => k (Same.t e z)) (k ht)
end Kx
namespace Kx
open PySem PySem.Spec PyProof.Rows L2 SX LamX Ms
theorem go_make {C : Addr} {sp : Sp} {dvs : List V} {E : XK} {t : TA} {σ : L2.St} {H : Hp} {Q : VK} (h : t σ H fun vs H1 => ∀ x dx, H1 x = none → H1 dx = none → dx ≠ x → sp (.ref x :: (vs ++ dvs)) (upd (upd H1 dx (.own x)) x (.ins C dx [])) (fun v H2 => v = .non ∧ Q (.ref x) H2) E) : tMake C sp dvs E t σ H Q := h
theorem kvI_get {es : List (Int × Int)} {i : Nat} {k : Key} {v : V} (h : (kvI es)[i]? = some (k, v)) : ∃ p, es[i]? = some p ∧ k = .inl p.1 ∧ v = .int p.2 := by
  obtain ⟨p, hp, e⟩ := map_at h
  cases e
  exact ⟨p, hp, rfl, rfl⟩
theorem kvI_val {es : List (Int × Int)} {i : Nat} {p : Int × Int} (nd : (es.map (·.1)).Nodup) (h : es[i]? = some p) : some (V.int p.2) = valV (kvI es) (Sum.inl p.1) := by
  rw [valV_kvI, (lkp_mem nd).mpr (show (p.1, p.2) ∈ es from List.mem_of_getElem? h)]
  rfl
/-- new pairs, so far -/
def PnsP (H0 : Hp) (es : List (Int × Int)) (D : Addr) (i : Nat) (Hc : Hp) : Prop := ∃ ts : List Addr, Hc D = some (.lst (ts.map V.ref)) ∧ Paired (Pn Hc) ts (es.take i) ∧ Same H0 Hc
theorem PnsP.new {H0 : Hp} {es : List (Int × Int)} {D : Addr} (nD : H0 D = none) : PnsP H0 es D 0 (upd H0 D (.lst [])) := ⟨[], upd_same, .nil, same_new nD⟩
theorem PnsP.app {H0 Hc H4 : Hp} {es : List (Int × Int)} {D t : Addr} {i : Nat} {p : Int × Int} (h : PnsP H0 es D i Hc) (nD : H0 D = none) (hp : es[i]? = some p) (e : Same Hc H4) (ht : Pn H4 t p) (hl : es.length ≤ 100000) :
    ∃ acc, H4 D = some (.lst acc) ∧ acc.length < sizeLine ∧ PnsP H0 es D (i + 1) (upd H4 D (.lst (acc ++ [V.ref t]))) := by
  obtain ⟨qs, h1, h2, h3⟩ := h
  have hD := e _ _ h1
  have hlen := h2.length
  have k : ∀ {q : Addr} {p : Int × Int}, Pn H4 q p → Pn (upd H4 D (.lst (qs.map V.ref ++ [V.ref t]))) q p := fun {q p} z => by
    unfold Pn at z ⊢
    rw [upd_ne (ne_of_two z hD (fun z => by cases z))]
    exact z
  refine ⟨_, hD, ?_, qs ++ [t], ?_, ?_, same_set (h3.trans e) nD⟩
  · rw [List.length_map, hlen, List.length_take]
    exact Nat.lt_of_le_of_lt (Nat.min_le_right _ _) (Nat.lt_of_le_of_lt hl (by decide))
  · rw [upd_same, List.map_append]
    rfl
  · rw [take_succ hp]
    exact Paired.snoc (Paired.mapP h2 fun _ _ z => k (e _ _ z)) (k ht)
end Kx
namespace Kx
open PySem PySem.Spec PyProof.Rows L2 SX LamX Ms
theorem upd_none {H : Hp} {p b : Addr} {o : HO} (h : upd H p o b = none) : H b = none := by
  by_cases e : b = p
  · rw [e, upd_same] at h
    cases h
  · rw [upd_ne e] at h
    exact h
theorem work_new {K : PySem.W.Frag} {E : XK} {CW x dx nl : Addr} {H : Hp} {ns : List Int} {P : VK} {sp : Sp} (hsp : ∀ vs H Q E, (∃ (p dx nl : Addr), vs = [.ref p, .ref nl] ∧ H p = some (.ins CW dx []) ∧
      ∀ (H' : Hp) (pc ps : Addr), H pc = none → H ps = none → Mv p H H' → H' p = some (.ins CW dx (workF startM nl pc ps)) → H' pc = some (.dK []) → H' ps = some (.lst []) → Q .non H') → sp vs H Q E) (nx : H x = none) (ndx : H dx = none) (hn : SqQ K H nl (ns.map V.int))
    (q : ∀ H' pc ps, WorkAt K CW H H' x nl ns startM 0 dx pc ps [] → P .non H') : sp [.ref x, .ref nl] (upd (upd H dx (.own x)) x (.ins CW dx [])) P E := by
  refine hsp _ _ _ _ ⟨x, dx, nl, rfl, upd_same, fun H' pc ps n1 n2 m h1 h2 h3 => q H' pc ps ?_⟩
  have s1 : Same H (upd (upd H dx (.own x)) x (.ins CW dx [])) := fun b u h => by
    rw [upd_ne (ne_of_none h nx), upd_ne (ne_of_none h ndx)]
    exact h
  exact ⟨h1, h2, ⟨List.nodup_nil, (fun _ m => nomatch m), fun _ => rfl⟩, h3, hn, Nat.le_refl _, Nat.le_refl _, fun b u h => m b u (ne_of_none h nx) (s1 b u h), nx, upd_none (upd_none n1), upd_none (upd_none n2)⟩
section
variable {K : PySem.W.Frag} {C w nl dx pc ps : Addr} {H0 H H' : Hp} {ns : List Int} {s t : Mst} {m n : Nat} {es : List (Int × Int)}
/-- the cells are another dict now -/
theorem WorkAt.recell {D : Addr} {fs : List (Str × V)} {es' : List (Int × Int)} (h : WorkAt K C H0 H w nl ns s m dx pc ps es) (hD : H D = some (.dK (kvI es'))) (nD : H0 D = none) (e : fs = workF t nl D ps) (hc : CellsW es' t.cells) (hs : t.said = s.said) (hl : es'.length ≤ n) (hm : m ≤ n) : WorkAt K C H0 (upd H w (.ins C dx fs)) w nl ns t n dx D ps es' := by
  refine ⟨by rw [upd_same, e], ?_, hc, ?_, h.num, hl, by rw [hs]; exact Nat.le_trans h.sn hm, same_set h.old h.nw, h.nw, nD, h.np⟩
  · rw [upd_ne (ne_of_two hD h.at_ (fun z => by cases z))]
    exact hD
  · rw [upd_ne h.wp, hs]
    exact h.sat
/-- what was said is another list now -/
theorem WorkAt.resay {D : Addr} {fs : List (Str × V)} (h : WorkAt K C H0 H w nl ns s m dx pc ps es) (hD : H D = some (.lst (t.said.map V.int))) (nD : H0 D = none) (e : fs = workF t nl pc D) (hc : t.cells = s.cells) (hl : t.said.length ≤ n) (hm : m ≤ n) : WorkAt K C H0 (upd H w (.ins C dx fs)) w nl ns t n dx pc D es := by
  refine ⟨by rw [upd_same, e], ?_, by rw [hc]; exact h.cl, ?_, h.num, Nat.le_trans h.cn hm, hl, same_set h.old h.nw, h.nw, h.nc, nD⟩
  · rw [upd_ne h.wc]
    exact h.cat
  · rw [upd_ne (ne_of_two hD h.at_ (fun z => by cases z))]
    exact hD
end
theorem isC_nd {l : List (Int × Int)} {f : Int → Int} (h : IsC l f) : (l.map (·.1)).Nodup := List.pairwise_map.mpr (h.up.imp fun z e => by omega)
theorem isC_toW {l : List (Int × Int)} {f : Int → Int} (h : IsC l f) : CellsW l f := by
  refine ⟨isC_nd h, fun p m => ((h.mem p.1 p.2).mp m).2, fun c => ?_⟩
  cases e : lkp l c with
  | some v =>
    have := (h.mem c v).mp ((lkp_mem (isC_nd h)).mp e)
    exact this.1.symm
  | none =>
    by_cases z : f c = 0
    · exact z.symm
    · have := (lkp_mem (isC_nd h)).mpr ((h.mem c (f c)).mpr ⟨rfl, z⟩)
      rw [e] at this
      cases this
theorem put_take {l : List (Int × Int)} {i : Nat} {p : Int × Int} (nd : (l.map (·.1)).Nodup) (h : l[i]? = some p) : putK (kvI (l.take i)) (Sum.inl p.1) (V.int p.2) = kvI (l.take (i + 1)) := by
  rw [putK_kvI, take_succ h]
  have hn : lkp (l.take i) p.1 = none := by
    refine lkp_none.mpr fun m => ?_
    have s1 : ((l.take (i + 1)).map (·.1)).Nodup := List.Sublist.nodup (List.Sublist.map _ (List.take_sublist ..)) nd
    rw [take_succ h, List.map_append] at s1
    exact (List.nodup_append.mp s1).2.2 _ m _ (List.mem_singleton.mpr rfl) rfl
  unfold putI
  rw [hn]
  rfl
/-- the dict of pairs, so far -/
def DctP (H0 : Hp) (l : List (Int × Int)) (D : Addr) (i : Nat) (Hc : Hp) : Prop := Hc D = some (.dK (kvI (l.take i))) ∧ Same H0 Hc
theorem DctP.app {H0 Hc : Hp} {l : List (Int × Int)} {D : Addr} {i : Nat} {p : Int × Int} (h : DctP H0 l D i Hc) (nD : H0 D = none) (nd : (l.map (·.1)).Nodup) (hp : l[i]? = some p) : DctP H0 l D (i + 1) (upd Hc D (.dK (putK (kvI (l.take i)) (Sum.inl p.1) (V.int p.2)))) :=
  ⟨by rw [upd_same, put_take nd hp], same_set h.2 nD⟩
end Kx
namespace Kx
open PySem PySem.Spec PyProof.Rows L2 SX LamX Ms
theorem go_dget {td ty : TE} {σ : L2.St} {H : Hp} {Q : VK} (h : td σ H fun x H1 => ty σ H1 fun y H2 => ∃ a v, x = .ref a ∧ DGet H2 a y (some v) ∧ Q v H2) : tDGet td ty σ H Q := h
theorem go_dput {td ty tv : TE} {D : Ends} {σ : L2.St} {H : Hp} (h : tv σ H fun v H1 => td σ H1 fun x H2 => ty σ H2 fun y H3 => ∃ a H4, x = .ref a ∧ DPut H3 a y v H4 ∧ D.nx σ H4) : sDPut td ty tv D σ H := h
theorem go_par2 {i j : Nat} {t : TA} {D : Ends} {σ : L2.St} {H : Hp} (h : t σ H fun vs H1 => ∃ v w, vs = [v, w] ∧ D.nx ((σ.set i (some v)).set j (some w)) H1) : tPar i j t D σ H := h
section
variable {L pc ps : Addr} {H : Hp} {s t : Mst} {m i : Nat} {es : List (Int × Int)} {σ : L2.St} {k : Str} {v : V}
theorem rdL {Q : VK} (hi : σ[i]? = some (some (.ref L))) (h : LiveAt H L pc s m ps es) (e : valV (liveK s pc ps) (.inr k) = some v) (q : Q v H) : tDGet (tVar i) (tC (.str k)) σ H Q := ⟨_, hi, L, v, rfl, h.get e, q⟩
theorem stL {D : Ends} (hi : σ[i]? = some (some (.ref L))) (h : LiveAt H L pc s m ps es) (e : putK (liveK s pc ps) (.inr k) v = liveK t pc ps) (hc : t.cells = s.cells) (hs : t.said = s.said) (kk : ∀ H', Mv2 L pc H H' → LiveAt H' L pc t m ps es → D.nx σ H') :
    (tVar i) σ H fun x H2 => (tC (.str k)) σ H2 fun y H3 => ∃ a H4, x = .ref a ∧ DPut H3 a y v H4 ∧ D.nx σ H4 := ⟨_, hi, L, _, rfl, DPut.k (k := .inr k) h.at_ live_len, kk _ Mv2.l (h.put e hc hs)⟩
theorem stGL {Q : L2.St → Hp → Prop} (hi : σ[i]? = some (some (.ref L))) (h : LiveAt H L pc s m ps es) (e : putK (liveK s pc ps) (.inr k) v = liveK t pc ps) (hc : t.cells = s.cells) (hs : t.said = s.said) (kk : ∀ H', Mv2 L pc H H' → LiveAt H' L pc t m ps es → Q σ H') :
    gSub (tVar i) (tC (.str k)) rSetD v σ H Q := ⟨_, hi, L, _, rfl, DPut.k (k := .inr k) h.at_ live_len, kk _ Mv2.l (h.put e hc hs)⟩
theorem cell_getL {f : Int → Int} (h : CellsL es f) (c : Int) : (valV (kvI es) (Sum.inl c)).getD (.int 0) = .int (f c) := by
  rw [valV_kvI, ← h.at_]
  cases lkp es c <;> rfl
/-- what was said is another list now -/
theorem LiveAt.resay {D : Addr} (h : LiveAt H L pc s m ps es) (hD : H D = some (.lst (t.said.map V.int))) (e : putK (liveK s pc ps) (.inr "said") (.ref D) = liveK t pc D) (hc : t.cells = s.cells) (hl : t.said.length ≤ m + 1) : LiveAt (upd H L (.dK (putK (liveK s pc ps) (.inr "said") (.ref D)))) L pc t (m + 1) D es := by
  refine ⟨by rw [upd_same, e], ?_, by rw [hc]; exact h.cl, ?_, Nat.le_succ_of_le h.cn, hl, h.ne⟩
  · rw [upd_ne h.ne.symm]
    exact h.cat
  · rw [upd_ne (ne_of_two hD h.at_ (fun z => by cases z))]
    exact hD
/-- a cell is set -/
theorem LiveAt.cell {c v : Int} (h : LiveAt H L pc s m ps es) (e : liveK t pc ps = liveK s pc ps) (hs : t.said = s.said) (hc : t.cells = putC s.cells c v) : LiveAt (upd H pc (.dK (kvI (putI es c v)))) L pc t (m + 1) ps (putI es c v) := by
  refine ⟨?_, upd_same, by rw [hc]; exact h.cl.put c v, ?_, Nat.le_trans (putI_len ..) (Nat.succ_le_succ h.cn), by rw [hs]; exact Nat.le_succ_of_le h.sn, h.ne⟩
  · rw [upd_ne h.ne, e]
    exact h.at_
  · rw [upd_ne (ne_of_two h.sat h.cat (fun z => by cases z)), hs]
    exact h.sat
end
section
variable {t u : TS} {D : Ends} {σ : L2.St} {H : Hp} {i : Nat} {n c : Int}
theorem ifEq (hi : σ[i]? = some (some (.int n))) (h1 : n = c → t D σ H) (h2 : n ≠ c → u D σ H) : tIfS (tTest (tOp rEq (tVar i) (tC (.int c)))) t u D σ H := by
  refine go_if (go_test (go_op (go_var hi ⟨rfl, _, rfl, ?_⟩)))
  rw [decI]
  by_cases e : n = c
  · rw [decide_eq_true e]
    exact iteT (B := _) (h1 e)
  · rw [decide_eq_false e]
    exact iteF (A := _) (h2 e)
theorem ifGt (hi : σ[i]? = some (some (.int n))) (h1 : c < n → t D σ H) (h2 : ¬ c < n → u D σ H) : tIfS (tTest (tOp (rI0 fun i j => V.bl (decide (j < i))) (tVar i) (tC (.int c)))) t u D σ H := by
  refine go_if (go_test (go_op (go_var hi (go_c ⟨_, _, rfl, rfl, _, rfl, ?_⟩))))
  by_cases e : c < n
  · rw [decide_eq_true e]
    exact iteT (B := _) (h1 e)
  · rw [decide_eq_false e]
    exact iteF (A := _) (h2 e)
theorem ifLt (hi : σ[i]? = some (some (.int n))) (h1 : n < c → t D σ H) (h2 : ¬ n < c → u D σ H) : tIfS (tTest (tOp (rI0 fun i j => V.bl (decide (i < j))) (tVar i) (tC (.int c)))) t u D σ H := by
  refine go_if (go_test (go_op (go_var hi (go_c ⟨_, _, rfl, rfl, _, rfl, ?_⟩))))
  by_cases e : n < c
  · rw [decide_eq_true e]
    exact iteT (B := _) (h1 e)
  · rw [decide_eq_false e]
    exact iteF (A := _) (h2 e)
end
end Kx
namespace Kx
open PySem PySem.Spec PyProof.Rows L2 SX LamX Ms
section
variable {K : PySem.W.Frag} {L pc ps a : Addr} {H H' : Hp} {s : Mst} {m : Nat} {es : List (Int × Int)} {xs : List V}
theorem sqL_mv2 (h : LiveAt H L pc s m ps es) (mv : Mv2 L pc H H') (q : SqL K H a xs) : SqL K H' a xs := by
  rcases q with (q | ⟨ob, q⟩) | q
  · exact .inl (.inl (mv _ _ (ne_of_two q h.at_ (fun z => by cases z)) (ne_of_two q h.cat (fun z => by cases z)) q))
  · exact .inl (.inr ⟨ob, mv _ _ (ne_of_two q h.at_ (fun z => by cases z)) (ne_of_two q h.cat (fun z => by cases z)) q⟩)
  · exact .inr q
theorem sqT_mv2 (h : LiveAt H L pc s m ps es) (mv : Mv2 L pc H H') (q : SqT K H a xs) : SqT K H' a xs := by
  rcases q with (q | ⟨ob, q⟩) | q
  · exact .inl (.inl (mv _ _ (ne_of_two q h.at_ (fun z => by cases z)) (ne_of_two q h.cat (fun z => by cases z)) q))
  · exact .inl (.inr ⟨ob, mv _ _ (ne_of_two q h.at_ (fun z => by cases z)) (ne_of_two q h.cat (fun z => by cases z)) q⟩)
  · exact .inr q
theorem StandAt.mv2 {C p dx t u : Addr} {s' : Mst} {l : List (Int × Int)} (h : LiveAt H L pc s m ps es) (mv : Mv2 L pc H H') (q : StandAt K C H p s' l dx t u) : StandAt K C H' p s' l dx t u := by
  refine ⟨mv _ _ (ne_of_two q.at_ h.at_ (fun z => by cases z)) (ne_of_two q.at_ h.cat (fun z => by cases z)) q.at_, ?_, sqT_mv2 h mv q.sat, q.isC⟩
  obtain ⟨ps, h1, h2⟩ := q.cat
  exact ⟨ps, sqT_mv2 h mv h1, Paired.mapP h2 fun _ _ z => sqT_mv2 h mv z⟩
theorem Wh.mv2 {w c : Addr} {n : Nat} (h : LiveAt H L pc s m ps es) (mv : Mv2 L pc H H') (q : Wh H w c n) : Wh H' w c n := by
  obtain ⟨cs, t, l, h1, h2, h3⟩ := q
  exact ⟨cs, t, l, mv _ _ (ne_of_two h1 h.at_ (fun z => by cases z)) (ne_of_two h1 h.cat (fun z => by cases z)) h1, mv _ _ (ne_of_two h2 h.at_ (fun z => by cases z)) (ne_of_two h2 h.cat (fun z => by cases z)) h2, h3⟩
end
theorem go_dget2 {td ty tx : TE} {σ : L2.St} {H : Hp} {Q : VK} (h : td σ H fun x H1 => ∃ a, x = .ref a ∧ IsD H1 a ∧ ty σ H1 fun y H2 => tx σ H2 fun z H3 => ∃ o, DGet H3 a y o ∧ Q (o.getD z) H3) : tDGet2 td ty tx σ H Q := h
end Kx
namespace Kx
open PySem PySem.Spec PyProof.Rows L2 SX LamX Ms
section
variable {t u : TS} {tb : TT} {D : Ends} {σ : L2.St} {H : Hp} {i : Nat} {n c : Int}
theorem ifAndEq (hi : σ[i]? = some (some (.int n))) (h1 : n = c → tb σ H fun b H1 => if b = true then t D σ H1 else u D σ H1) (h2 : n ≠ c → u D σ H) : tIfS (tAnd (tTest (tOp rEq (tVar i) (tC (.int c)))) tb) t u D σ H := by
  refine go_if (go_andT (go_test (go_op (go_var hi ⟨rfl, _, rfl, ?_⟩))))
  rw [decI]
  by_cases e : n = c
  · rw [decide_eq_true e]
    exact iteT (B := _) (h1 e)
  · rw [decide_eq_false e]
    exact iteF (A := _) (h2 e)
theorem ifAndGt (hi : σ[i]? = some (some (.int n))) (h1 : c < n → tb σ H fun b H1 => if b = true then t D σ H1 else u D σ H1) (h2 : ¬ c < n → u D σ H) : tIfS (tAnd (tTest (tOp (rI0 fun i j => V.bl (decide (j < i))) (tVar i) (tC (.int c)))) tb) t u D σ H := by
  refine go_if (go_andT (go_test (go_op (go_var hi (go_c ⟨_, _, rfl, rfl, _, rfl, ?_⟩)))))
  by_cases e : c < n
  · rw [decide_eq_true e]
    exact iteT (B := _) (h1 e)
  · rw [decide_eq_false e]
    exact iteF (A := _) (h2 e)
end
end Kx
namespace Kx
open PySem PySem.Spec PyProof.Rows L2 SX LamX Ms
/-- new pairs of the cells that are not 0, so far -/
def nz (es : List (Int × Int)) : List (Int × Int) := es.filter fun p => decide (p.2 ≠ 0)
def PnsF (H0 : Hp) (es : List (Int × Int)) (D : Addr) (i : Nat) (Hc : Hp) : Prop := ∃ ts : List Addr, Hc D = some (.lst (ts.map V.ref)) ∧ Paired (Pn Hc) ts (nz (es.take i)) ∧ Same H0 Hc
theorem PnsF.new {H0 : Hp} {es : List (Int × Int)} {D : Addr} (nD : H0 D = none) : PnsF H0 es D 0 (upd H0 D (.lst [])) := ⟨[], upd_same, .nil, same_new nD⟩
theorem PnsF.app {H0 Hc H4 : Hp} {es : List (Int × Int)} {D t : Addr} {i : Nat} {p : Int × Int} (h : PnsF H0 es D i Hc) (nD : H0 D = none) (hp : es[i]? = some p) (hz : p.2 ≠ 0) (e : Same Hc H4) (ht : Pn H4 t p) (hl : es.length ≤ 100000) :
    ∃ acc, H4 D = some (.lst acc) ∧ acc.length < sizeLine ∧ PnsF H0 es D (i + 1) (upd H4 D (.lst (acc ++ [V.ref t]))) := by
  obtain ⟨qs, h1, h2, h3⟩ := h
  have hD := e _ _ h1
  have hlen := h2.length
  have k : ∀ {q : Addr} {p : Int × Int}, Pn H4 q p → Pn (upd H4 D (.lst (qs.map V.ref ++ [V.ref t]))) q p := fun {q p} z => by
    unfold Pn at z ⊢
    rw [upd_ne (ne_of_two z hD (fun z => by cases z))]
    exact z
  refine ⟨_, hD, ?_, qs ++ [t], ?_, ?_, same_set (h3.trans e) nD⟩
  · rw [List.length_map, hlen]
    refine Nat.lt_of_le_of_lt (List.length_filter_le ..) ?_
    rw [List.length_take]
    exact Nat.lt_of_le_of_lt (Nat.min_le_right _ _) (Nat.lt_of_le_of_lt hl (by decide))
  · rw [upd_same, List.map_append]
    rfl
  · unfold nz
    rw [take_succ hp, List.filter_append, List.filter_cons_of_pos (by simpa using hz)]
    exact Paired.snoc (Paired.mapP h2 fun _ _ z => k (e _ _ z)) (k ht)
theorem PnsF.skip {H0 Hc H4 : Hp} {es : List (Int × Int)} {D : Addr} {i : Nat} {p : Int × Int} (h : PnsF H0 es D i Hc) (hp : es[i]? = some p) (hz : p.2 = 0) (e : Same Hc H4) : PnsF H0 es D (i + 1) H4 := by
  obtain ⟨qs, h1, h2, h3⟩ := h
  refine ⟨qs, e _ _ h1, ?_, h3.trans e⟩
  unfold nz
  rw [take_succ hp, List.filter_append, List.filter_cons_of_neg (by simpa using hz), List.filter_nil, List.append_nil]
  exact Paired.mapP h2 fun _ _ z => e _ _ z
theorem nz_nd {es : List (Int × Int)} (nd : (es.map (·.1)).Nodup) : ((nz es).map (·.1)).Nodup := List.Sublist.nodup (List.Sublist.map _ (List.filter_sublist ..)) nd
theorem nz_len (es : List (Int × Int)) : (nz es).length ≤ es.length := List.length_filter_le ..
/-- what a stand is, as data -/
theorem dp_pairs {K : PySem.W.Frag} {H : Hp} {t : Addr} {l : List (Int × Int)} (h : PairsT K H t l) : Dp K H (.ref t) (.tuple (l.map pairD)) := by
  obtain ⟨ps, h1, h2⟩ := h
  refine .tup h1 ?_
  clear h1
  induction h2 with
  | nil => exact .nil
  | cons a _ ih => exact .cons (.tup a (.cons (.int _) (.cons (.int _) .nil))) ih
def standL (s : Mst) (t u : Addr) : List V := [.int s.block, .int s.room, .bl s.tick, .bl s.flag, .bl s.test, .int s.mode, .int s.first, .int s.second, .ref t, .int (s.heard : Nat), .ref u, .bl s.isd]
theorem dp_standA {K : PySem.W.Frag} {H : Hp} {t u : Addr} {s : Mst} {l : List (Int × Int)} (hc : PairsT K H t l) (hs : SqT K H u (s.said.map V.int)) : DpAll K H (standL s t u) (standD s l) :=
  .cons (.int _) <| .cons (.int _) <| .cons (.bl _) <| .cons (.bl _) <| .cons (.bl _) <| .cons (.int _) <| .cons (.int _) <| .cons (.int _) <| .cons (dp_pairs hc) <| .cons (.int _) <| .cons (.tup hs (dpAll_map _ fun _ _ => .int _)) <| .cons (.bl _) .nil
/-- the text of a stand -/
def standX (s : Mst) (l : List (Int × Int)) : Str := (PyData.list (standD s l)).shown
theorem repr_stand {K : PySem.W.Frag} {H : Hp} {p t u : Addr} {s : Mst} {l : List (Int × Int)} {b : Nat} {Q : VK} (h : H p = some (.lst (standL s t u))) (hc : PairsT K H t l) (hs : SqT K H u (s.said.map V.int)) (hb : Bd b s) (b0 : 20 ≤ b) (b1 : b ≤ 1915) (hC : IsC l s.cells) (l2 : l.length ≤ 2000) (s2 : s.said.length ≤ 2000) (q : Q (.str (standX s l)) H) : rRepr K [.ref p] H Q := by
  have sh := shB_stand hb b1 hC l2 s2 b0
  exact ⟨p, _, rfl, .lst (.inl (.inl h)) (dp_standA hc hs), sh.sh, sh.nd, Nat.le_trans sh.dp (by decide), sh.len (Nat.le_refl _), q⟩
end Kx
namespace Kx
open PySem PySem.Spec PyProof.Rows L2 SX LamX Ms
/-- a stand that is being drawn -/
structure Drw (H0 Hx : Hp) (w c : Addr) (n : Nat) (L pc ps : Addr) (s : Mst) (m : Nat) (es : List (Int × Int)) : Prop where
  live : LiveAt Hx L pc s m ps es
  bd : Bd 83 s
  wh : Wh Hx w c n
  mv : Mv w H0 Hx
  nL : H0 L = none
  npc : H0 pc = none
  psw : ps ≠ w
section
variable {H0 Hx Hy : Hp} {w c L pc ps ps' : Addr} {n n' m m' : Nat} {s t : Mst} {es es' : List (Int × Int)}
theorem LiveAt.mvw (h : LiveAt Hx L pc s m ps es) (wh : Wh Hx w c n) (psw : ps ≠ w) (mv : Mv w Hx Hy) : LiveAt Hy L pc s m ps es := by
  obtain ⟨cs, x, l, h1, _⟩ := wh
  exact { h with at_ := mv _ _ (ne_of_two h.at_ h1 (fun z => by cases z)) h.at_, cat := mv _ _ (ne_of_two h.cat h1 (fun z => by cases z)) h.cat, sat := mv _ _ psw h.sat }
theorem Drw.draw (d : Drw H0 Hx w c n L pc ps s m es) (mv : Mv w Hx Hy) (wh : Wh Hy w c n') : Drw H0 Hy w c n' L pc ps s m es :=
  { d with live := d.live.mvw d.wh d.psw mv, wh := wh, mv := d.mv.trans mv }
theorem Drw.new (d : Drw H0 Hx w c n L pc ps s m es) (e : Same Hx Hy) : Drw H0 Hy w c n L pc ps s m es := d.draw (Mv.of e) (d.wh.same e)
theorem Drw.set (d : Drw H0 Hx w c n L pc ps s m es) (m2 : Mv2 L pc Hx Hy) (live : LiveAt Hy L pc t m' ps' es') (bd : Bd 83 t) (psw : ps' ≠ w) : Drw H0 Hy w c n L pc ps' t m' es' :=
  ⟨live, bd, d.wh.mv2 d.live m2, fun b o hb h => m2 _ _ (ne_of_none h d.nL) (ne_of_none h d.npc) (d.mv b o hb h), d.nL, d.npc, psw⟩
theorem Drw.lt (d : Drw H0 Hx w c n L pc ps s m es) (h : n ≤ n') : Drw H0 Hx w c n' L pc ps s m es := { d with wh := d.wh.lt h }
theorem Drw.mono (d : Drw H0 Hx w c n L pc ps s m es) (h : m ≤ m') : Drw H0 Hx w c n L pc ps s m' es := { d with live := d.live.mono h }
end
theorem bi_small {i : Int} {b : Nat} (h : -1000000 ≤ i) (k : i ≤ 1000000) (hb : 20 ≤ b) : Bi b i := Nat.lt_of_lt_of_le (show i.natAbs < 2 ^ 20 by omega) (Nat.pow_le_pow_right (by decide) hb)
end Kx
namespace Kx
open PySem PySem.Spec PyProof.Rows L2 SX LamX Ms
theorem bd_start : Bd 83 startM where
  block := bi_small (by decide) (by decide) (by decide)
  room := bi_small (by decide) (by decide) (by decide)
  first := bi_small (by decide) (by decide) (by decide)
  second := bi_small (by decide) (by decide) (by decide)
  cells := fun _ => bi_small (i := 0) (by decide) (by decide) (by decide)
  keys := fun _ z => absurd rfl z
  said := fun _ m => nomatch m
  mode := by decide
  heard := by decide
  low := by decide
end Kx
namespace Ms
/-- a row, and one in which each word stands one or more times -/
inductive Thk : List Nat → List Nat → Prop
  | nil : Thk [] []
  | snoc {r t : List Nat} (h : Thk r t) (n k : Nat) : Thk (r ++ [n]) (t ++ List.replicate (k + 1) n)
theorem doR_one (ns : List Int) (s : Mst) (n : Nat) : doR ns s [n] = doW ns s n := rfl
theorem Thk.same {ns : List Int} {r t : List Nat} (h : Thk r t) (h30 : ∀ n ∈ r, n < 30) (s : Mst) : doR ns s t = doR ns s r := by
  induction h with
  | nil => rfl
  | @snoc r t h n k ih =>
    rw [doR_app, doR_app, ih fun x m => h30 x (List.mem_append_left _ m), doR_rep ns n (h30 n (List.mem_append_right _ (List.mem_singleton.mpr rfl))) k]
    rfl
theorem Thk.pre {ns : List Int} {r t : List Nat} (h : Thk r t) (h30 : ∀ n ∈ r, n < 30) (s : Mst) : ∀ k, ∃ j, doR ns s (t.take k) = doR ns s (r.take j) := by
  induction h with
  | nil => exact fun k => ⟨0, by rw [List.take_nil, List.take_nil]⟩
  | @snoc r t h n m ih =>
    have ih' := ih fun x m => h30 x (List.mem_append_left _ m)
    have hn := h30 n (List.mem_append_right _ (List.mem_singleton.mpr rfl))
    intro k
    rw [List.take_append]
    by_cases hk : k ≤ t.length
    · obtain ⟨j, hj⟩ := ih' k
      rw [show k - t.length = 0 by omega, List.take_zero, List.append_nil, hj]
      by_cases hj2 : j ≤ r.length
      · exact ⟨j, by rw [List.take_append_of_le_length hj2]⟩
      · exact ⟨r.length, by rw [List.take_of_length_le (by omega), List.take_append_of_le_length (Nat.le_refl _), List.take_length]⟩
    · obtain ⟨d, hd⟩ : ∃ d, k - t.length = d + 1 := ⟨k - t.length - 1, by omega⟩
      rw [List.take_of_length_le (by omega : t.length ≤ k), hd, List.take_replicate, doR_app, h.same (fun x m => h30 x (List.mem_append_left _ m))]
      obtain ⟨e, he⟩ : ∃ e, min (d + 1) (m + 1) = e + 1 := ⟨min d m, by omega⟩
      rw [he, doR_rep ns n hn e]
      refine ⟨(r ++ [n]).length, ?_⟩
      rw [List.take_length, doR_app]
      rfl
theorem Thk.all {r t : List Nat} (h : Thk r t) (h30 : ∀ n ∈ r, n < 30) : ∀ n ∈ t, n < 30 := by
  induction h with
  | nil => exact fun _ m => nomatch m
  | @snoc r t h n k ih =>
    intro x m
    rcases List.mem_append.mp m with m | m
    · exact ih (fun x m => h30 x (List.mem_append_left _ m)) x m
    · rw [(List.mem_replicate.mp m).2]
      exact h30 n (List.mem_append_right _ (List.mem_singleton.mpr rfl))
end Ms
namespace Kx
open PySem PySem.Spec PyProof.Rows L2 SX LamX Ms
/-- what was there stays, though new dicts are filled -/
theorem Mv2.new {O oc : Addr} {Ha Hb Hc : Hp} (m : Mv2 O oc Hb Hc) (e : Same Ha Hb) (n1 : Ha O = none) (n2 : Ha oc = none) : Same Ha Hc := fun b o h => m b o (ne_of_none h n1) (ne_of_none h n2) (e b o h)
theorem StandAt.mvw {K : PySem.W.Frag} {C p dx t u w c : Addr} {H H' : Hp} {s : Mst} {l : List (Int × Int)} {n : Nat} (h : StandAt K C H p s l dx t u) (wh : Wh H w c n) (m : Mv w H H') : StandAt K C H' p s l dx t u := by
  obtain ⟨cs, x, y, h1, _⟩ := wh
  exact { h with at_ := m _ _ (ne_of_two h.at_ h1 (fun z => by cases z)) h.at_, cat := h.cat.mv h1 (fun _ z => by cases z) (fun _ _ z => by cases z) m, sat := sqT_mv h1 (fun _ z => by cases z) (fun _ _ z => by cases z) m h.sat }
theorem ne_text {x y : Str} (h : x = y) {H : Hp} {Q : Bool → Hp → Prop} (q : Q false H) : ∃ k, V.bl (!decide (V.str x = V.str y)) = .bl k ∧ Q k H := by
  subst h
  exact ⟨false, by simp, q⟩
end Kx
namespace Kx
open PySem PySem.Spec PyProof.Rows L2 SX LamX Ms
theorem midE {te : TE} {σ : L2.St} {H : Hp} {Q : VK} (Pz : V → Hp → Prop) (h1 : ∀ Q1 : VK, (∀ v H4, Pz v H4 → Q1 v H4) → te σ H Q1) (h2 : ∀ v H4, Pz v H4 → Q v H4) : te σ H Q := h1 Q h2
end Kx
namespace Kx
open PySem PySem.Spec PyProof.Rows L2 SX LamX Ms
theorem inV_row (n : Nat) (row : List Nat) : inV (.int (n : Int)) (rowV row) = decide (n ∈ row) := by
  unfold inV rowV
  rw [List.any_map]
  induction row with
  | nil => rfl
  | cons x r ih =>
    rw [List.any_cons, ih]
    show (eqV (.int (x : Int)) (.int (n : Int)) || decide (n ∈ r)) = _
    by_cases e : n = x
    · subst e
      simp [eqV]
    · have : ¬ (x : Int) = (n : Int) := by omega
      simp [eqV, this, e]
theorem flat_row (row : List Nat) : (rowV row).all flatV = true := by
  rw [List.all_eq_true]
  intro v m
  obtain ⟨n, _, rfl⟩ := List.mem_map.mp m
  rfl
theorem rep_row (k n : Nat) : (List.replicate k [V.int (n : Int)]).flatten = rowV (List.replicate k n) := by
  induction k with
  | zero => rfl
  | succ k ih =>
    rw [List.replicate_succ, List.flatten_cons, ih, List.replicate_succ]
    rfl
theorem row_app (a b : List Nat) : rowV a ++ rowV b = rowV (a ++ b) := (List.map_append ..).symm
end Kx
namespace Kx
open PySem PySem.Spec PyProof.Rows L2 SX LamX
/-! ### try: .. except X as n: ..  except Y as n: .. -/
/-- behind an except suite the name holds nothing -/
def goneD (i : Nat) (D : Ends) : Ends := ⟨fun σ2 H2 => D.nx (σ2.set i none) H2, D.rt, fun σ2 H2 => D.bk (σ2.set i none) H2, fun σ2 H2 => D.ct (σ2.set i none) H2⟩
/-- what the named clauses wish of an exception of the body -/
def wManyN (K : PySem.W.Frag) (i : Nat) (Wo : WX) (D : Ends) : List (Value × (Addr → Value → Option Addr → TS)) → WX
  | [] => Wo
  | p :: r => fun cl dd σ H => ∃ yes, PySem.W.exmOne K cl p.1 = some yes ∧ (yes = true → ∀ x, H x = none → p.2 x cl dd (goneD i D) (σ.set i (some (.ref x))) H) ∧ (yes = false → wManyN K i Wo D r cl dd σ H)
inductive HdsN (X : Cx) (n : Str) : List ExceptHandler → List (Value × (Addr → Value → Option Addr → TS)) → Prop
  | nil : HdsN X n [] []
  | cons {x : Str} {c : Value} {sx : Addr → Value → Option Addr → TS} {st0 : Stmt} {sts : List Stmt} {p1 p2 : Pos} {more : List ExceptHandler} {l : List (Value × (Addr → Value → Option Addr → TS))} (names : Names X x c)
      (suite : ∀ (a : Addr) (ob : Obj) (cl : Value) (dd : Option Addr) (pn : List (Addr × Obj)), Zc cl dd ob → (∃ fv, ob.data = .fields fv) → PSs (X.suite a ((a, ob) :: pn)) (st0 :: sts) (sx a cl dd)) (rest : HdsN X n more l) :
      HdsN X n (.ExceptHandler (some (.Name x p1)) (some n) (st0 :: sts) p2 :: more) ((c, sx) :: l)
section
variable {X : Cx} {body : List Stmt} {hd0 : ExceptHandler} {hds : List ExceptHandler} {l : List (Value × (Addr → Value → Option Addr → TS))} {pos : Pos} {tb : WX → TS} {Wo : WX} {n : Str} {i : Nat}
theorem ps_manyN (stk : X.stack = X.env :: X.outer) (frm : X.env.frame = some X.env.locals) (nd : X.N.Nodup) (at_i : X.N[i]? = some n) (isl : X.env.kindOf n = some .local) (tk : Takes X Wo)
    (run : ∀ (W : WX) (pn : List (Addr × Obj)) (xe : Value → Shared → Prop), Takes (X.tr pn xe) W → PassesOwn (model X.prog X.w) X.A X.env xe → PSs (X.tr pn xe) body (tb W))
    (hand : HdsN X n (hd0 :: hds) l) : PS X (.Try body (hd0 :: hds) [] [] pos) (fun D σ H => tb (wManyN X.K i Wo D l) D σ H) := by
  constructor
  intro pins s σ H D I want
  have ok := I.ok
  have fr : X.A.frames = some (X.env :: X.outer) := by rw [ok.frames, stk]
  have place : Loc X.env.scope n := .inl isl
  apply wpAny_Try_except
  refine wpAny_mono ((run (wManyN X.K i Wo D l) (X.pn ++ pins) (fun e t1 => wpAny (model X.prog X.w) X.A (noteFrame e X.env) (fun _ t2 => wpAny (model X.prog X.w) X.A (setFlight e none) (fun _ t3 =>
    wpAny (model X.prog X.w) X.A (handleBy e X.env (hd0 :: hds)) (SP X pins D) X.xe t3) X.xe t2) X.xe t1) (fun u t xx => ?_) PassesOwn.looking).run [] s σ H D (I.toTry _) want) (fun f t1 ends => ?_) (fun _ _ z => z)
  · obtain ⟨a, B, sI, _, σ2, H2, cl, dd, rfl, J2, nb, up, sky, na, os, ag, wish⟩ := xx
    have J : Inv X pins σ2 H2 sI := J2.ofTry ok
    have sky2 : Sky B (X.env :: X.outer) a (Zc cl dd) X.env.locals t.heap := by rw [← stk]; exact sky
    show wpAny (model X.prog X.w) X.A (noteFrame (.ref a) X.env) _ _ _
    refine Sky.land Zc.steady fr frm sky2 fun h3 fl3 up3 => ?_
    have J3 : Inv X pins σ2 H2 { t with heap := h3 } := J.landed nb fl3.1 (up.trans up3) os ag
    obtain ⟨ob3, fv3, at3, z3, dt3⟩ := fl3.there
    have apart : a ∉ frs (X.env :: X.outer) := fun hm => by
      obtain ⟨_, o2, e2, hnf⟩ := fl3.2.2.1.mem hm
      rw [at3] at e2
      cases e2
      exact hnf _ dt3
    have nL : a ≠ X.env.locals := fun z => apart (List.mem_filterMap.mpr ⟨X.env, List.mem_cons_self, by rw [frm, z]⟩)
    have nF : a ∉ X.fs := fun hm => by
      obtain ⟨e, me, q⟩ := List.mem_filterMap.mp hm
      exact apart (List.mem_filterMap.mpr ⟨e, List.mem_cons_of_mem _ me, q⟩)
    have S3 := J3.suite at3 dt3 na nL nF
    have go : ∀ {hs : List ExceptHandler} {m : List (Value × (Addr → Value → Option Addr → TS))}, HdsN X n hs m → wManyN X.K i Wo D m cl dd σ2 H2 →
        wpAny (model X.prog X.w) X.A (handleBy (.ref a) X.env hs) (SP X pins D) X.xe { t with heap := h3 } := by
      intro hs m hk
      induction hk with
      | nil =>
        intro w
        apply wpAny_handleBy_nil
        obtain ⟨k1, k2, k3, ob, fv, T1, oT, t4, he, hz, hd, h1, hr⟩ := id fl3
        unfold PySem.passOn
        apply wpAny_bind
        refine wpAny_field he hd h1 ?_
        rw [if_neg (show ¬ ((Value.ref T1 == Value.none) = true) from by simp)]
        have out : wpAny (model X.prog X.w) X.A (setFlight (.ref a) X.env.frame) (fun _ t5 => wpAny (model X.prog X.w) X.A (throw (.ref a) : Sem Flow) (SP X pins D) X.xe t5) X.xe { t with heap := h3 } := by
          rw [frm]
          refine HandSPX.setFlight_upZ fl3 fun h4 ww up4 => wpAny_throw (tk _ _ ?_)
          exact ⟨a, B, sI, pins, σ2, H2, cl, dd, rfl, J, nb, (up.trans up3).trans up4, .inr (.inr (by rw [stk]; exact ww)), na, os, ag, w⟩
        first
          | exact wpAny_bind (wpAny_pure (wpAny_bind out))
          | exact wpAny_bind out
      | @cons x c sx st0 sts p1 p2 more m2 names suite rest ih =>
        intro w
        obtain ⟨yes, is, yea, nay⟩ := w
        refine wpAny_handleBy_cons (codeAny_handlers_test ?_) (by intro q; cases q)
        have look : PySem.W.Looks (model X.prog X.w) h3 (typeOf (.ref a)) cl := fun A Q E s k q => wpAny_typeOf_ref (k _ _ at3) (by rw [z3.1]; exact q)
        have one := PySem.W.exm_one (M := model X.prog X.w) (J3.kIn) look is
        have test : ∀ {Q : Value → Shared → Prop} {E : Value → Shared → Prop}, Q c { t with heap := h3 } → wpAny (model X.prog X.w) (X.A.mark (some (.ref a))) (eval (.Name x p1) X.env) Q E { t with heap := h3 } := fun {Q E} q => by
          obtain ⟨hg, dbg, hm | ⟨hm, hv, nn⟩⟩ := names
          · exact ld_glob (X := X.suite a ((a, ob3) :: (X.pn ++ pins))) S3 hg hm q dbg
          · exact ld_blt (X := X.suite a ((a, ob3) :: (X.pn ++ pins))) S3 hg hm hv q nn dbg
        apply test
        apply one.here
        cases yes with
        | true =>
          apply codeAny_handlers_suite_as
          refine HandSPX.lands_againZ fl3 fun h4 fl4 up4 => ?_
          have J4 : Inv X pins σ2 H2 { t with heap := h4 } := J.landed nb fl4.1 ((up.trans up3).trans up4) os ag
          obtain ⟨ob4, fv4, at4, z4, dt4⟩ := fl4.there
          have S4 := J4.suite at4 dt4 na nL nF
          refine store_ok (X := X.suite a ((a, ob4) :: (X.pn ++ pins))) (v := .ref a) S4 nd at_i place rfl (fun t5 S5 => ?_) (.inr isl)
          refine wpAny_mono ((suite a ob4 cl dd (X.pn ++ pins) z4 ⟨_, dt4⟩).run [] t5 _ H2 _ S5 (yea rfl a na)) (fun f t6 hsp => ?_) (fun _ _ z => z.elim)
          have over : ∀ {σ6 : L2.St} {H6 : Hp} {Q : Shared → Prop}, Inv (X.suite a ((a, ob4) :: (X.pn ++ pins))) [] σ6 H6 t6 → (∀ t7, Inv X pins (σ6.set i none) H6 t7 → Q t7) →
              wpAny (model X.prog X.w) X.A (do bindName X.env n .none; unbindBehindTheSuite X.env n p2) (fun _ t7 => Q t7) X.xe t6 := fun {σ6 H6 Q} S6 hq => gone_ok (S6.unsuite ok) nd at_i isl hq
          cases f with
          | next =>
            obtain ⟨σ6, H6, S6, q6⟩ := hsp
            exact over S6 fun t7 J7 => ⟨_, _, J7, q6⟩
          | brk =>
            obtain ⟨σ6, H6, S6, q6⟩ := hsp
            exact over S6 fun t7 J7 => ⟨_, _, J7, q6⟩
          | cont =>
            obtain ⟨σ6, H6, S6, q6⟩ := hsp
            exact over S6 fun t7 J7 => ⟨_, _, J7, q6⟩
          | ret u =>
            obtain ⟨v6, σ6, H6, S6, r6, q6⟩ := hsp
            exact over S6 fun t7 J7 => ⟨_, _, _, J7, r6, q6⟩
        | false =>
          show wpAny _ X.A (handleBy (.ref a) X.env more) _ _ _
          exact ih (nay rfl)
    exact go hand wish
  · cases f with
    | next =>
      obtain ⟨σ2, H2, J2, q⟩ := ends
      exact wpAny_execs_nil ⟨σ2, H2, J2.ofTry ok, q⟩
    | brk =>
      obtain ⟨σ2, H2, J2, q⟩ := ends
      exact ⟨σ2, H2, J2.ofTry ok, q⟩
    | cont =>
      obtain ⟨σ2, H2, J2, q⟩ := ends
      exact ⟨σ2, H2, J2.ofTry ok, q⟩
    | ret u =>
      obtain ⟨v, σ2, H2, J2, r, q⟩ := ends
      exact ⟨v, σ2, H2, J2.ofTry ok, r, q⟩
end
end Kx
namespace Kx
open PySem PySem.Spec PyProof.Rows L2 SX LamX Ms
/-- no positional value, three by name: c, b, a for a, b, c -/
def backG {α : Type} (us ws : List α) : List α := match us, ws with | [], [c, b, a] => [a, b, c] | _, _ => []
theorem kb_back {K : PySem.W.Frag} {x qual : Str} {st : Stmt} {f : Addr} {fd : FuncData} {a b c : Str} (F : Fun K x qual st f fd)
    (h : ∀ (kV doc pm : Value) (an : Option Addr) (cdv ct : Value) (u v w : Value), bindArgs (PySem.W.fnOf x qual (defArgs st) (defBody st) (defScope st) .none kV doc pm an cdv ct) ⟨[], [(c, w), (b, v), (a, u)]⟩ = pure [(a, u), (b, v), (c, w)]) :
    KBinds K fd [a, b, c] [c, b, a] backG backG := by
  obtain ⟨oc, od, kV, doc, pm, an, cdv, ct, osl, rfl, lk, hcd⟩ := F.ex
  refine ⟨fun s us ws X l => ?_, fun {vs us zs ws} r1 r2 => ?_⟩
  · match us, ws, l with
    | [], [w, v, u], _ => exact .of_eq (h kV doc pm an cdv ct u v w)
    | [], [], l => cases l
    | [], [_], l => cases l
    | [], [_, _], l => cases l
    | [], _ :: _ :: _ :: _ :: _, l => cases l
    | _ :: _, _, l => cases l
  · cases r1 with
    | cons _ _ => exact .nil
    | nil =>
      cases r2 with
      | nil => exact .nil
      | cons h1 r2 =>
        cases r2 with
        | nil => exact .nil
        | cons h2 r2 =>
          cases r2 with
          | nil => exact .nil
          | cons h3 r2 =>
            cases r2 with
            | nil => exact .cons h3 (.cons h2 (.cons h1 .nil))
            | cons _ _ => exact .nil
theorem pl_standA {s : Mst} {l : List (Int × Int)} : ∀ d ∈ standD s l, Pl 2 d := fun d m => by
  have up : ∀ {k j : Nat} {d : PyData}, Pl k d → k ≤ j → Pl j d := fun h hk => ⟨h.1, Nat.le_trans h.2 hk⟩
  have hi : ∀ i : Int, Pl 2 (.int i) := fun i => pl_int 2 i
  have hb : ∀ b : Bool, Pl 2 (.bool b) := fun b => ⟨rfl, Nat.zero_le _⟩
  unfold standD at m
  simp only [List.mem_cons, List.not_mem_nil, or_false] at m
  rcases m with rfl | rfl | rfl | rfl | rfl | rfl | rfl | rfl | rfl | rfl | rfl | rfl
  · exact hi _
  · exact hi _
  · exact hb _
  · exact hb _
  · exact hb _
  · exact hi _
  · exact hi _
  · exact hi _
  · refine Pl.tup fun d m => ?_
    obtain ⟨p, _, rfl⟩ := List.mem_map.mp m
    refine Pl.tup fun d m => ?_
    simp only [List.mem_cons, List.not_mem_nil, or_false] at m
    rcases m with rfl | rfl <;> exact pl_int 0 _
  · exact hi _
  · refine Pl.tup fun d m => ?_
    obtain ⟨i, _, rfl⟩ := List.mem_map.mp m
    exact pl_int 1 i
  · exact hb _
end Kx
namespace Kx
open PySem PySem.Spec PyProof.Rows L2 SX LamX Ms
theorem go_call {sp : Sp} {dvs : List V} {E : XK} {t : TA} {σ : L2.St} {H : Hp} {Q : VK} (h : t σ H fun vs H1 => sp (vs ++ dvs) H1 Q E) : tCall sp dvs E t σ H Q := h
end Kx
namespace Kx
open PySem PySem.Spec PyProof.Rows L2 SX LamX
theorem sub_str {K : PySem.W.Frag} {C : Addr} : PySem.W.subIn K (.type "str") (.ref C) = some false := by
  have e : fastBuiltinMro "str" = some [.type "str", .type "object"] := by decide +kernel
  show (fastBuiltinMro "str").map (·.contains (.ref C)) = some false
  rw [e]
  first
    | rfl
    | simp
theorem sub_bool {K : PySem.W.Frag} {C : Addr} : PySem.W.subIn K (.type "bool") (.ref C) = some false := by
  have e : fastBuiltinMro "bool" = some [.type "bool", .type "int", .type "object"] := by decide +kernel
  show (fastBuiltinMro "bool").map (·.contains (.ref C)) = some false
  rw [e]
  first
    | rfl
    | simp
theorem sub_dict {K : PySem.W.Frag} {C : Addr} : PySem.W.subIn K (.type "dict") (.ref C) = some false := by
  have e : fastBuiltinMro "dict" = some [.type "dict", .type "object"] := by decide +kernel
  show (fastBuiltinMro "dict").map (·.contains (.ref C)) = some false
  rw [e]
  first
    | rfl
    | simp
end Kx
namespace Ms
open PySem PySem.Spec PyProof.Rows L2 Kx SX LamX
/-- a value of a type of the language, at another place than the rack -/
inductive Od (w : Addr) (H : Hp) : V → Prop
  | non : Od w H .non
  | int (i : Int) : Od w H (.int i)
  | bl (b : Bool) : Od w H (.bl b)
  | str (s : Str) : Od w H (.str s)
  | lst {u : Addr} {xs : List V} (n : u ≠ w) (h : H u = some (.lst xs)) : Od w H (.ref u)
  | tup {u : Addr} {xs : List V} (n : u ≠ w) (h : H u = some (.tup xs)) : Od w H (.ref u)
  | dct {u : Addr} {kv : List (Key × V)} (n : u ≠ w) (h : H u = some (.dK kv)) : Od w H (.ref u)
section
variable {K : PySem.W.Frag} {w C : Addr} {H H' : Hp} {x : V}
theorem Od.mv (m : Mv w H H') (h : Od w H x) : Od w H' x := by
  cases h with
  | non => exact .non
  | int i => exact .int i
  | bl i => exact .bl i
  | str i => exact .str i
  | lst n h => exact .lst n (m _ _ n h)
  | tup n h => exact .tup n (m _ _ n h)
  | dct n h => exact .dct n (m _ _ n h)
theorem Od.kit (h : Od w H x) (h1 : PySem.W.isClsIn K C = true) (h2 : PySem.W.typeIn K (.ref C) = some (.type "type")) : ∃ t, TyX K H x t ∧ PySem.W.kitOne K t (.ref C) = some false := by
  cases h with
  | non => exact ⟨_, .base .non, kitOne_no h1 h2 sub_non⟩
  | int i => exact ⟨_, .base (.int i), kitOne_no h1 h2 sub_int⟩
  | bl i => exact ⟨_, .base (.bl i), kitOne_no h1 h2 sub_bool⟩
  | str i => exact ⟨_, .base (.str i), kitOne_no h1 h2 sub_str⟩
  | lst n h => exact ⟨_, .base (.lst h), kitOne_no h1 h2 sub_list⟩
  | tup n h => exact ⟨_, .base (.tup h), kitOne_no h1 h2 sub_tuple⟩
  | dct n h => exact ⟨_, .base (.dK h), kitOne_no h1 h2 sub_dict⟩
theorem Od.has (h : Od w H x) : HasInt K H x := by
  cases h with
  | non => exact hasInt_non
  | int i => exact hasInt_int i
  | bl i => exact hasInt_bl i
  | str i => exact hasInt_str i
  | lst n h => exact hasInt_lst (.inl (.inl h))
  | tup n h => exact hasInt_tup (.inl (.inl h))
  | dct n h => exact hasInt_dk h
theorem withinV_od {lo hi : Option Int} (h : Od w H x) (hi' : ∀ i, x = .int i → withinB i lo hi = false) : withinV x lo hi = false := by
  cases h with
  | int i => exact hi' i rfl
  | non => rfl
  | bl i => rfl
  | str i => rfl
  | lst n h => rfl
  | tup n h => rfl
  | dct n h => rfl
end
/-- no list or tuple of ints -/
inductive NoL (w : Addr) (H : Hp) : V → Prop
  | non : NoL w H .non
  | int (i : Int) : NoL w H (.int i)
  | bl (b : Bool) : NoL w H (.bl b)
  | str (s : Str) : NoL w H (.str s)
  | dct {u : Addr} {kv : List (Key × V)} (n : u ≠ w) (h : H u = some (.dK kv)) : NoL w H (.ref u)
  | lst {u : Addr} {xs : List V} (n : u ≠ w) (h : H u = some (.lst xs)) (a : xs.all isIntV = false) (o : ∀ z ∈ xs, Od w H z) (l : xs.length ≤ 100000) : NoL w H (.ref u)
  | tup {u : Addr} {xs : List V} (n : u ≠ w) (h : H u = some (.tup xs)) (a : xs.all isIntV = false) (o : ∀ z ∈ xs, Od w H z) (l : xs.length ≤ 100000) : NoL w H (.ref u)
section
variable {K : PySem.W.Frag} {w C : Addr} {H H' : Hp} {x : V}
theorem NoL.mv (m : Mv w H H') (h : NoL w H x) : NoL w H' x := by
  cases h with
  | non => exact .non
  | int i => exact .int i
  | bl i => exact .bl i
  | str i => exact .str i
  | dct n h => exact .dct n (m _ _ n h)
  | lst n h a o l => exact .lst n (m _ _ n h) a (fun z hz => (o z hz).mv m) l
  | tup n h a o l => exact .tup n (m _ _ n h) a (fun z hz => (o z hz).mv m) l
/-- what are_integers is asked of it -/
theorem NoL.ints (h : NoL w H x) : (∃ n : String, TyX K H x (.type n) ∧ PySem.W.kitAny K (.type n) [.type "list", .type "tuple"] = some false ∧ false = false) ∨
  ∃ (p : Addr) (zs : List V), x = .ref p ∧ SqQ K H p zs ∧ (∀ z ∈ zs, HasInt K H z) ∧ zs.length ≤ 100000 ∧ false = zs.all isIntV := by
  cases h with
  | non => exact .inl ⟨_, .base .non, rfl, rfl⟩
  | int i => exact .inl ⟨_, .base (.int i), rfl, rfl⟩
  | bl i => exact .inl ⟨_, .base (.bl i), rfl, rfl⟩
  | str i => exact .inl ⟨_, .base (.str i), rfl, rfl⟩
  | dct n h => exact .inl ⟨_, .base (.dK h), rfl, rfl⟩
  | lst n h a o l => exact .inr ⟨_, _, rfl, .inl (.inl (.inl h)), fun z hz => (o z hz).has, l, a.symm⟩
  | tup n h a o l => exact .inr ⟨_, _, rfl, .inr (.inl (.inl h)), fun z hz => (o z hz).has, l, a.symm⟩
end
/-- the answer to what is refused right -/
def heardD : PyData := .list [.tuple [.str "BadMachine", .str "stand"], .tuple [.str "BadNumber", .str "number"], .tuple [.str "BadHeard", .str "heard"], .none]
end Ms
namespace Ms
open PySem PySem.Spec PyProof.Rows L2 Kx SX LamX
/-! ### how far the numbers grow, told apart by words -/
def wt (n : Nat) : Nat := if n = 2 then 1 else if 4 ≤ n ∧ n < 20 then 3 else 0
def gro (n b : Nat) : Nat := if n = 6 then 2 * b else b + wt n
def wts (r : List Nat) : Nat := (r.map wt).sum
theorem wts_app (a b : List Nat) : wts (a ++ b) = wts a + wts b := by unfold wts; rw [List.map_append, List.sum_append]
theorem gro_le (n b : Nat) : b ≤ gro n b := by unfold gro; split <;> omega
theorem bd_do2 {b : Nat} {s : Mst} {n : Nat} {ns : List Int} (h : Bd b s) (hb : 3 ≤ b) (hn : ∀ i ∈ ns, Bi b i) (hl : ns.length ≤ 100000) : Bd (gro n b) (doW ns s n) := by
  by_cases h6 : n = 6
  · subst h6
    exact bd_do h hb hn hl
  by_cases hf : 4 ≤ n ∧ n < 20
  · have e : gro n b = grow n b := by
      unfold gro grow wt
      rw [if_neg h6, if_neg h6, if_neg (by omega), if_pos hf]
    rw [e]
    exact bd_do h hb hn hl
  have one : Bi b (-1) := Nat.lt_of_lt_of_le (show (-1 : Int).natAbs < 2 ^ 3 by decide) (Nat.pow_le_pow_right (by decide) hb)
  by_cases h2 : n = 2
  · subst h2
    have hg := h.mono (show b ≤ gro 2 b from gro_le 2 b)
    unfold doW
    rw [if_neg (by decide : ¬ (2 : Nat) = 0), if_neg (by decide : ¬ (2 : Nat) = 1), if_pos rfl]
    split
    · exact hg
    · refine { hg with block := ?_, low := ?_ }
      · show Bi _ (if s.tick = true then s.block + 1 else s.block)
        split
        · show (s.block + 1).natAbs < 2 ^ (b + 1)
          have h1 : s.block.natAbs < 2 ^ b := h.block
          have h3 : 1 ≤ 2 ^ b := Nat.pow_pos (by decide)
          rw [Nat.pow_succ]
          omega
        · exact hg.block
      · show -1 ≤ (if s.tick = true then s.block + 1 else s.block)
        have := h.low
        split <;> omega
  have e : gro n b = b := by
    unfold gro wt
    rw [if_neg h6, if_neg h2, if_neg hf]
    rfl
  rw [e]
  unfold doW
  rw [if_neg h2]
  split
  · exact h
  split
  · exact { h with block := one, low := Int.le_refl _ }
  split
  · exact { h with }
  split
  · exact h
  split
  · exact { h with }
  rw [if_neg (by omega)]
  exact bd_bare h (by omega)
def lastC : List Nat → Nat → Nat
  | [], b => b
  | n :: r, b => lastC r (gro n b)
theorem lastC_mono : ∀ (r : List Nat) (b : Nat), b ≤ lastC r b
  | [], b => Nat.le_refl _
  | n :: r, b => Nat.le_trans (gro_le n b) (lastC_mono r (gro n b))
theorem bd_rowC {ns : List Int} (hl : ns.length ≤ 100000) : ∀ (r : List Nat) (b : Nat) (s : Mst), Bd b s → 3 ≤ b → (∀ i ∈ ns, Bi b i) → ∀ k, Bd (lastC r b) (doR ns s (r.take k))
  | [], b, s, h, hb, hn, k => by rw [List.take_nil]; exact h
  | n :: r, b, s, h, hb, hn, 0 => h.mono (lastC_mono (n :: r) b)
  | n :: r, b, s, h, hb, hn, k + 1 => bd_rowC hl r (gro n b) (doW ns s n) (bd_do2 h hb hn hl) (Nat.le_trans hb (gro_le n b)) (fun i m => (hn i m).mono (gro_le n b)) k
theorem lastC_none : ∀ (r : List Nat) (b : Nat), 6 ∉ r → lastC r b = b + wts r
  | [], b, _ => rfl
  | n :: r, b, h => by
    have h1 : n ≠ 6 := fun e => h (by rw [e]; exact List.mem_cons_self)
    show lastC r (gro n b) = _
    rw [lastC_none r _ fun m => h (List.mem_cons_of_mem _ m)]
    unfold gro
    rw [if_neg h1]
    show b + wt n + wts r = b + (wt n + wts r)
    omega
theorem lastC_one : ∀ (r : List Nat) (b : Nat), r.count 6 ≤ 1 → 6 ∈ r → lastC r b + 6 ≤ 2 * (b + wts r)
  | [], b, _, m => nomatch m
  | n :: r, b, h, m => by
    show lastC r (gro n b) + 6 ≤ 2 * (b + (wt n + wts r))
    by_cases h1 : n = 6
    · subst h1
      have h6 : 6 ∉ r := by
        rw [List.count_cons_self] at h
        exact List.count_eq_zero.mp (by omega)
      rw [lastC_none r _ h6]
      show 2 * b + wts r + 6 ≤ 2 * (b + (3 + wts r))
      omega
    · have h6 : 6 ∈ r := by
        rcases List.mem_cons.mp m with e | m
        · exact absurd e.symm h1
        · exact m
      have hc : r.count 6 ≤ 1 := by
        rw [List.count_cons_of_ne h1] at h
        exact h
      have := lastC_one r (gro n b) hc h6
      have e : gro n b = b + wt n := by unfold gro; rw [if_neg h1]
      rw [e] at this ⊢
      omega
/-- a row of weight 92 at most, one multiply in it at most -/
theorem lastC_le {r : List Nat} {b : Nat} (h : r.count 6 ≤ 1) (hw : wts r ≤ 92) (hb : 83 ≤ b) : lastC r b ≤ 2 * (b + 89) := by
  by_cases m : 6 ∈ r
  · have := lastC_one r b h m
    omega
  · rw [lastC_none r b m]
    omega
end Ms
namespace Kx
open PySem PySem.Spec PyProof.Rows L2 SX LamX
section
variable {X : Cx} {CX : CXT} {k : Nat} {f C : Addr} {fd : FuncData} {ps : List Str} {sp : Sp} {E : L2.St → XK} {x m : Str} {p pos apos : Pos} {e o : Expr} {es : List Expr} {ta : TE} {t : TA}
/-! ### C(..) and o.m(..) within a try -/
theorem run_makeS {pins : List (Addr × Obj)} {σ : L2.St} {H : Hp} {s : Shared} {Q : VK} {us : List Value} {vs : List V} (M : Mk X.K C f) (F : FnOk X.prog X.w X.K X.mg X.base CX k f fd ps sp) (hr : Room (k + 1) X.A) (hb : Binds X.K fd ps [])
    (hx : PassesAt CX X σ (E σ)) (I : Inv X pins σ H s) (r : Vals vs us)
    (h : ∀ x dx, H x = none → H dx = none → dx ≠ x → sp (.ref x :: vs) (upd (upd H dx (.own x)) x (.ins C dx [])) (fun v H2 => v = .non ∧ Q (.ref x) H2) (E σ)) :
    wpAny (model X.prog X.w) X.A (call (.ref C) us) (EP X pins σ Q) X.xe s := by
  have hq := h (s.heap.objs.size + 1) s.heap.objs.size (I.hok.fresh (Nat.le_succ _)) (I.hok.fresh (Nat.le_refl _)) (Nat.ne_of_lt (Nat.lt_succ_self _))
  have I2 := Inv.made (C := C) I
  have r2 : Vals (V.ref (s.heap.objs.size + 1) :: vs) (Value.ref (s.heap.objs.size + 1) :: us) := .cons rfl r
  have hl : (Value.ref (s.heap.objs.size + 1) :: us ++ []).length = ps.length := by
    have e := r2.length
    rw [F.len _ _ _ _ hq] at e
    rw [List.append_nil]
    exact e.symm
  have b := hb _ (Value.ref (s.heap.objs.size + 1) :: us) I2.kIn hl
  rw [List.append_nil] at b
  refine wpAny_call (make_map (f := f) I.kIn M.makes M.init (beq_iff_eq.mp M.fn) (codeAny_mono (F.run _ X.stack _ _ ⟨Value.ref (s.heap.objs.size + 1) :: us, []⟩ (Value.ref (s.heap.objs.size + 1) :: us) _ _ (E σ) (hr.make C us [])
    (I2.env0.make C us []) b r2 hq) fun r s' hq' => ?_))
  cases r with
  | error e => exact hx pins _ _ e s' I2 hq'
  | ok fl =>
    cases fl with
    | ret u =>
      obtain ⟨v, H', I3, rv, ev, q3⟩ := I2.after hq'
      subst ev
      exact ⟨rv, ⟨V.ref (s.heap.objs.size + 1), H', I3, rfl, q3⟩⟩
    | next => exact False.elim hq'
    | brk => exact False.elim hq'
    | cont => exact False.elim hq'
def tMakeS (C : Addr) (sp : Sp) (E : L2.St → XK) (t : TA) : TE := fun σ H Q => t σ H fun vs H1 => ∀ x dx, H1 x = none → H1 dx = none → dx ≠ x →
  sp (.ref x :: vs) (upd (upd H1 dx (.own x)) x (.ins C dx [])) (fun v H2 => v = .non ∧ Q (.ref x) H2) (E σ)
theorem pe_makeS (M : Mk X.K C f) (F : FnOk X.prog X.w X.K X.mg X.base CX k f fd ps sp) (hr : Room (k + 1) X.A) (hg : Gl X x) (hm : X.mg x = some (.ref C)) (hb : Binds X.K fd ps []) (hx : ∀ σ, PassesAt CX X σ (E σ))
    (ha : PA X (e :: es) t) (hdb : (x == ("__debug__" : Str)) = false := by decide) (he : starEach (e :: es) X.env = (false, eval e X.env) :: starEach es X.env := by rfl) (hpl : (backTo pos (starEach es X.env)).any (·.1) = false := by rfl) :
    PE X (.Call (.Name x p) (e :: es) [] pos) (tMakeS C sp E t) := by
  refine ⟨fun pins s σ H Q I h => ?_⟩
  refine wpAny_Call_Name_kw (ld_glob I hg hm ?_ hdb)
  refine PySem.W.callWith_K (h₀ := X.base) I.ok.mod.kin M.kp (thn (ha.run pos pins s σ H _ I h) fun us s1 ⟨vs, H1, I1, r, q⟩ => ⟨I1.kIn, ?_⟩) he hpl
  exact run_makeS M F hr hb (hx σ) I1 r q
def tMethS (C : Addr) (m : Str) (sp : Sp) (E : L2.St → XK) (ta : TE) (t : TA) : TE := fun σ H Q => ta σ H fun x H1 => ∃ a dx fs, x = .ref a ∧ H1 a = some (.ins C dx fs) ∧ fs.lookup m = none ∧
  t σ H1 fun vs H2 => sp (x :: vs) H2 Q (E σ)
theorem pe_methS {pl : Sem Bool} (he : PE X o ta) (c : Cls X.K C) (hm : Meth X.K C m f) (F : FnOk X.prog X.w X.K X.mg X.base CX k f fd ps sp) (hr : Room k X.A) (hb : Binds X.K fd ps []) (hx : ∀ σ, PassesAt CX X σ (E σ)) (ha : PA X (e :: es) t)
    (hst : starEach (e :: es) X.env = (false, eval e X.env) :: starEach es X.env := by rfl) (hpl : (backTo pos (starEach es X.env)).any (·.1) = false := by rfl)
    (ht : eval (.Call (.Attribute o m apos) (e :: es) [] pos) X.env = (do
      let ov ← eval o X.env
      standAt apos.atName
      let (f, first) ← holding [ov] (getMethod ov m pl)
      callWith pos f first (backTo pos (starEach (e :: es) X.env)) (backToKw pos (keywordEach [] X.env))) := by rfl) :
    PE X (.Call (.Attribute o m apos) (e :: es) [] pos) (tMethS C m sp E ta t) := by
  refine ⟨fun pins s σ H Q I h => ?_⟩
  refine PySem.W.methodCall_KW (pl := pl) (thn (he.run pins s σ H _ I h) fun u s1 ⟨x, H1, I1, rx, a, dx, fs, ex, ea, l, q⟩ => ?_) ht
  subst ex
  obtain rfl : u = Value.ref a := rx
  refine getmeth_ok I1 ea c hm l ?_
  refine PySem.W.callWith_K (first := [.ref a]) (h₀ := X.base) I.ok.mod.kin hm.kp (thn (ha.run pos pins s1 σ H1 _ I1 q) fun us s2 ⟨vs, H2, I2, r, q2⟩ => ⟨I2.kIn, ?_⟩) hst hpl
  exact run_fnS (us := .ref a :: us) (vs := .ref a :: vs) F hr hb (hx σ) I2 (.cons rfl r) q2
end
section
variable {X : Cx}
/-! ### x != i of an instance with an == of its own -/
def rNeII (K : PySem.W.Frag) (C : Addr) (sp : Sp) : R2 := fun x y H Q => ∃ a dx fs i, x = .ref a ∧ H a = some (.ins C dx fs) ∧ y = .int i ∧ sp [x, y] H (fun v H' => ∃ b, v = .bl b ∧ Q (.bl (!b)) H') C8.E0
theorem op_neII {C f : Addr} {fd : FuncData} {ps : List Str} {n : Nat} {sp : Sp} (F : FnOk X.prog X.w X.K X.mg X.base C8.CX0 n f fd ps sp) (hb : Binds X.K fd ps []) (hr : Room (n + 1) X.A)
    (hs : PySem.W.findIn X.K (.ref C) "__eq__" = some (some (.ref f))) (hf : PySem.W.isFn X.K (.ref f) = true) (hm : PySem.W.mroIn X.K C (.type "object") = some true) (hne : PySem.W.findIn X.K (.ref C) "__ne__" = some (some (.builtin "object.__ne__"))) :
    OpR X (compareOp .NotEq) (rNeII X.K C sp) := by
  intro pins s σ H x y v u Q I rx ry hq
  obtain ⟨a, dx, fs, i, rfl, ha, rfl, h⟩ := hq
  cases rx
  obtain ⟨t, rfl⟩ := (show ∃ t, u = Value.int i t from ry)
  obtain ⟨mA, J, _⟩ := ins_get I.hok ha
  obtain ⟨od, J, _⟩ := J.look
  have lk : PySem.W.Looks (model X.prog X.w) s.heap (typeOf (Value.int i t)) (.type "int") := .now
  have nf : PySem.W.notFirst X.K C (.type "int") = true := by
    unfold PySem.W.notFirst
    rw [sub_int]
    rfl
  show wpAny (model X.prog X.w) X.A (richCompare .NotEq (.ref a) (.int i t)) _ _ s
  refine rich_ne hr.in1.units0 I.kIn J lk nf hm hs hf hne ?_
  have e0 : Env0 X.prog X.w X.K X.mg X.base X.A.in1 X.stack s H := by
    have e := I.env0
    exact ⟨by exact e.frames, e.mod, e.bs, e.bsz, e.funs, e.frf, e.hok, e.bare⟩
  have hl := F.len _ _ _ _ h
  have r2 : Vals [V.ref a, V.int i] [Value.ref a, Value.int i t] := .cons rfl (.cons ⟨_, rfl⟩ .nil)
  refine wpAny_call (codeAny_mono (F.run X.A.in1 X.stack s H ⟨[.ref a, .int i t], []⟩ [.ref a, .int i t] [.ref a, .int i] _ C8.E0 hr.in1 e0 (by
    have := hb s [.ref a, .int i t] I.kIn (by simpa using hl)
    simpa using this) r2 h) fun r s' hq => ?_)
  match r, hq with
  | .error e, hq => exact (show False from hq).elim
  | .ok (.ret w), hq =>
    obtain ⟨z, H', I', rz, c, rfl, q⟩ := I.after hq
    cases rz
    exact ⟨c, rfl, .bl (!c), H', I', rfl, q⟩
  | .ok .next, hq => exact False.elim hq
  | .ok .brk, hq => exact False.elim hq
  | .ok .cont, hq => exact False.elim hq
end
end Kx
namespace K28
open PySem PySem.Spec PyProof.Rows L2 Kx SX LamX Ms
def topS (i : Nat) : Stmt := PySem.Challenge.pw_anyletter_k28_words_and_stands.main.body.getD i (.Pass ⟨0, 0, 0, 0⟩)
abbrev s_is_list : Stmt := topS 2
theorem sc_is_list : FnScope ["value"] ["value"] (defScope s_is_list) := ⟨rfl, rfl, rfl, by decide +kernel, rfl, by decide +kernel, by decide +kernel⟩
abbrev s_is_integer : Stmt := topS 3
theorem sc_is_integer : FnScope ["value"] ["value"] (defScope s_is_integer) := ⟨rfl, rfl, rfl, by decide +kernel, rfl, by decide +kernel, by decide +kernel⟩
abbrev s_is_within : Stmt := topS 4
theorem sc_is_within : FnScope ["value", "least", "most"] ["value", "least", "most"] (defScope s_is_within) := ⟨rfl, rfl, rfl, by decide +kernel, rfl, by decide +kernel, by decide +kernel⟩
abbrev s_are_integers : Stmt := topS 5
theorem sc_are_integers : FnScope ["value", "number"] ["value"] (defScope s_are_integers) := ⟨rfl, rfl, rfl, by decide +kernel, rfl, by decide +kernel, by decide +kernel⟩
abbrev s_are_letters : Stmt := topS 6
theorem sc_are_letters : FnScope ["text"] ["text"] (defScope s_are_letters) := ⟨rfl, rfl, rfl, by decide +kernel, rfl, by decide +kernel, by decide +kernel⟩
abbrev s_is_word : Stmt := topS 7
theorem sc_is_word : FnScope ["value"] ["value"] (defScope s_is_word) := ⟨rfl, rfl, rfl, by decide +kernel, rfl, by decide +kernel, by decide +kernel⟩
abbrev s_Work_init : Stmt := inClass (topS 10) 0
theorem sc_Work_init : FnScope ["self", "numbers"] ["self", "numbers"] (defScope s_Work_init) := ⟨rfl, rfl, rfl, by decide +kernel, rfl, by decide +kernel, by decide +kernel⟩
abbrev s_are_words : Stmt := topS 19
theorem sc_are_words : FnScope ["value", "most", "word"] ["value", "most"] (defScope s_are_words) := ⟨rfl, rfl, rfl, by decide +kernel, rfl, by decide +kernel, by decide +kernel⟩
abbrev s_Book_init : Stmt := inClass (topS 20) 0
theorem sc_Book_init : FnScope ["self", "words"] ["self", "words"] (defScope s_Book_init) := ⟨rfl, rfl, rfl, by decide +kernel, rfl, by decide +kernel, by decide +kernel⟩
abbrev s_Book_eq : Stmt := inClass (topS 20) 1
theorem sc_Book_eq : FnScope ["self", "other"] ["self", "other"] (defScope s_Book_eq) := ⟨rfl, rfl, rfl, by decide +kernel, rfl, by decide +kernel, by decide +kernel⟩
abbrev s_Book_number : Stmt := inClass (topS 20) 2
theorem sc_Book_number : FnScope ["self", "word"] ["self", "word"] (defScope s_Book_number) := ⟨rfl, rfl, rfl, by decide +kernel, rfl, by decide +kernel, by decide +kernel⟩
abbrev s_plain_words : Stmt := topS 23
theorem sc_plain_words : FnScope [] [] (defScope s_plain_words) := ⟨rfl, rfl, rfl, by decide +kernel, rfl, by decide +kernel, by decide +kernel⟩
abbrev s_plain_book : Stmt := topS 24
theorem sc_plain_book : FnScope [] [] (defScope s_plain_book) := ⟨rfl, rfl, rfl, by decide +kernel, rfl, by decide +kernel, by decide +kernel⟩
abbrev s_is_truth : Stmt := topS 26
theorem sc_is_truth : FnScope ["value"] ["value"] (defScope s_is_truth) := ⟨rfl, rfl, rfl, by decide +kernel, rfl, by decide +kernel, by decide +kernel⟩
abbrev s_is_pair : Stmt := topS 27
theorem sc_is_pair : FnScope ["value"] ["value"] (defScope s_is_pair) := ⟨rfl, rfl, rfl, by decide +kernel, rfl, by decide +kernel, by decide +kernel⟩
abbrev s_are_cells : Stmt := topS 28
theorem sc_are_cells : FnScope ["value", "pair", "at"] ["value"] (defScope s_are_cells) := ⟨rfl, rfl, rfl, by decide +kernel, rfl, by decide +kernel, by decide +kernel⟩
abbrev s_attributes_of : Stmt := topS 29
theorem sc_attributes_of : FnScope ["stand"] ["stand"] (defScope s_attributes_of) := ⟨rfl, rfl, rfl, by decide +kernel, rfl, by decide +kernel, by decide +kernel⟩
abbrev s_Stand_init : Stmt := inClass (topS 30) 0
theorem sc_Stand_init : FnScope ["self", "block", "room", "tick", "flag", "test", "mode", "first", "second", "cells", "heard", "said", "is_done", "part", "fits", "pair"] ["self", "block", "room", "tick", "flag", "test", "mode", "first", "second", "cells", "heard", "said", "is_done"] (defScope s_Stand_init) := ⟨rfl, rfl, rfl, by decide +kernel, rfl, by decide +kernel, by decide +kernel⟩
abbrev s_Stand_eq : Stmt := inClass (topS 30) 1
theorem sc_Stand_eq : FnScope ["self", "other"] ["self", "other"] (defScope s_Stand_eq) := ⟨rfl, rfl, rfl, by decide +kernel, rfl, by decide +kernel, by decide +kernel⟩
abbrev s_Stand_cell : Stmt := inClass (topS 30) 2
theorem sc_Stand_cell : FnScope ["self", "place", "known", "number"] ["self", "place"] (defScope s_Stand_cell) := ⟨rfl, rfl, rfl, by decide +kernel, rfl, by decide +kernel, by decide +kernel⟩
abbrev s_stand_of : Stmt := topS 31
theorem sc_stand_of : FnScope ["work", "place"] ["work"] (defScope s_stand_of) := ⟨rfl, rfl, rfl, by decide +kernel, rfl, by decide +kernel, by decide +kernel⟩
abbrev s_begun : Stmt := topS 32
theorem sc_begun : FnScope [] [] (defScope s_begun) := ⟨rfl, rfl, rfl, by decide +kernel, rfl, by decide +kernel, by decide +kernel⟩
abbrev s_law_shelf : Stmt := topS 34
theorem sc_law_shelf : FnScope ["script", "cell"] ["script"] (defScope s_law_shelf) := ⟨rfl, rfl, rfl, by decide +kernel, rfl, by decide +kernel, by decide +kernel⟩
abbrev s_law_deal : Stmt := topS 35
theorem sc_law_deal : FnScope ["shelf", "many", "left", "turn", "cell", "mixed"] ["shelf", "many"] (defScope s_law_deal) := ⟨rfl, rfl, rfl, by decide +kernel, rfl, by decide +kernel, by decide +kernel⟩
abbrev s_law_pick : Stmt := topS 36
theorem sc_law_pick : FnScope ["shelf", "some"] ["shelf", "some"] (defScope s_law_pick) := ⟨rfl, rfl, rfl, by decide +kernel, rfl, by decide +kernel, by decide +kernel⟩
abbrev s_law_words : Stmt := topS 37
theorem sc_law_words : FnScope ["one", "other"] [] (defScope s_law_words) := ⟨rfl, rfl, rfl, by decide +kernel, rfl, by decide +kernel, by decide +kernel⟩
abbrev s_law_number : Stmt := topS 38
theorem sc_law_number : FnScope ["shelf"] ["shelf"] (defScope s_law_number) := ⟨rfl, rfl, rfl, by decide +kernel, rfl, by decide +kernel, by decide +kernel⟩
abbrev s_law_parts : Stmt := topS 39
theorem sc_law_parts : FnScope ["shelf", "cells", "at", "turn", "said", "found"] ["shelf"] (defScope s_law_parts) := ⟨rfl, rfl, rfl, by decide +kernel, rfl, by decide +kernel, by decide +kernel⟩
abbrev s_law_made : Stmt := topS 40
theorem sc_law_made : FnScope ["parts", "found", "error"] ["parts"] (defScope s_law_made) := ⟨rfl, rfl, rfl, by decide +kernel, rfl, by decide +kernel, by decide +kernel⟩
abbrev s_law_named : Stmt := topS 41
theorem sc_law_named : FnScope ["parts"] ["parts"] (defScope s_law_named) := ⟨rfl, rfl, rfl, by decide +kernel, rfl, by decide +kernel, by decide +kernel⟩
abbrev s_law_seen : Stmt := topS 42
theorem sc_law_seen : FnScope ["stand", "gears"] ["stand"] (defScope s_law_seen) := ⟨rfl, rfl, rfl, by decide +kernel, rfl, by decide +kernel, by decide +kernel⟩
abbrev s_law_spoilt : Stmt := topS 43
theorem sc_law_spoilt : FnScope ["shelf", "at", "far"] ["shelf", "at"] (defScope s_law_spoilt) := ⟨rfl, rfl, rfl, by decide +kernel, rfl, by decide +kernel, by decide +kernel⟩
abbrev s_law_changed : Stmt := topS 44
theorem sc_law_changed : FnScope ["part", "place"] ["part", "place"] (defScope s_law_changed) := ⟨rfl, rfl, rfl, by decide +kernel, rfl, by decide +kernel, by decide +kernel⟩
abbrev s_law_stands_right : Stmt := topS 45
theorem sc_law_stands_right : FnScope ["shelf", "names", "parts", "pair", "due", "before", "stand", "known", "place", "at", "to", "bent", "other"] ["shelf"] (defScope s_law_stands_right) := ⟨rfl, rfl, rfl, by decide +kernel, rfl, by decide +kernel, by decide +kernel⟩
abbrev s_law_no_cell : Stmt := topS 46
theorem sc_law_no_cell : FnScope ["shelf", "told", "error"] ["shelf"] (defScope s_law_no_cell) := ⟨rfl, rfl, rfl, by decide +kernel, rfl, by decide +kernel, by decide +kernel⟩
abbrev s_law : Stmt := topS 47
theorem sc_law : FnScope ["script", "shelf", "words", "book", "at", "turn"] ["script"] (defScope s_law) := ⟨rfl, rfl, rfl, by decide +kernel, rfl, by decide +kernel, by decide +kernel⟩
abbrev s_BadNumber_init : Stmt := inClass (topS 13) 0
theorem sc_BadNumber_init : FnScope ["self", "part"] ["self", "part"] (defScope s_BadNumber_init) := ⟨rfl, rfl, rfl, by decide +kernel, rfl, by decide +kernel, by decide +kernel⟩
theorem in_BadNumber : IsInit s_BadNumber_init := ⟨_, _, _, _, rfl, sc_BadNumber_init, rfl, rfl⟩
abbrev s_BadWord_init : Stmt := inClass (topS 14) 0
theorem sc_BadWord_init : FnScope ["self", "part"] ["self", "part"] (defScope s_BadWord_init) := ⟨rfl, rfl, rfl, by decide +kernel, rfl, by decide +kernel, by decide +kernel⟩
theorem in_BadWord : IsInit s_BadWord_init := ⟨_, _, _, _, rfl, sc_BadWord_init, rfl, rfl⟩
abbrev s_BadBook_init : Stmt := inClass (topS 15) 0
theorem sc_BadBook_init : FnScope ["self", "part"] ["self", "part"] (defScope s_BadBook_init) := ⟨rfl, rfl, rfl, by decide +kernel, rfl, by decide +kernel, by decide +kernel⟩
theorem in_BadBook : IsInit s_BadBook_init := ⟨_, _, _, _, rfl, sc_BadBook_init, rfl, rfl⟩
abbrev s_BadMachine_init : Stmt := inClass (topS 16) 0
theorem sc_BadMachine_init : FnScope ["self", "part"] ["self", "part"] (defScope s_BadMachine_init) := ⟨rfl, rfl, rfl, by decide +kernel, rfl, by decide +kernel, by decide +kernel⟩
theorem in_BadMachine : IsInit s_BadMachine_init := ⟨_, _, _, _, rfl, sc_BadMachine_init, rfl, rfl⟩
structure Tx (K : PySem.W.Frag) (mg : Str → Option Value) where
  f_is_list : Addr
  fd_is_list : FuncData
  F_is_list : Fun K "is_list" "is_list" s_is_list f_is_list fd_is_list
  g_is_list : mg "is_list" = some (.ref f_is_list)
  b_is_list : Binds K fd_is_list ["value"] []
  f_is_integer : Addr
  fd_is_integer : FuncData
  F_is_integer : Fun K "is_integer" "is_integer" s_is_integer f_is_integer fd_is_integer
  g_is_integer : mg "is_integer" = some (.ref f_is_integer)
  b_is_integer : Binds K fd_is_integer ["value"] []
  f_is_within : Addr
  fd_is_within : FuncData
  F_is_within : Fun K "is_within" "is_within" s_is_within f_is_within fd_is_within
  g_is_within : mg "is_within" = some (.ref f_is_within)
  b_is_within : Binds K fd_is_within ["value", "least", "most"] []
  f_are_integers : Addr
  fd_are_integers : FuncData
  F_are_integers : Fun K "are_integers" "are_integers" s_are_integers f_are_integers fd_are_integers
  g_are_integers : mg "are_integers" = some (.ref f_are_integers)
  b_are_integers : Binds K fd_are_integers ["value"] []
  f_are_letters : Addr
  fd_are_letters : FuncData
  F_are_letters : Fun K "are_letters" "are_letters" s_are_letters f_are_letters fd_are_letters
  g_are_letters : mg "are_letters" = some (.ref f_are_letters)
  b_are_letters : Binds K fd_are_letters ["text"] []
  f_is_word : Addr
  fd_is_word : FuncData
  F_is_word : Fun K "is_word" "is_word" s_is_word f_is_word fd_is_word
  g_is_word : mg "is_word" = some (.ref f_is_word)
  b_is_word : Binds K fd_is_word ["value"] []
  f_are_words : Addr
  fd_are_words : FuncData
  F_are_words : Fun K "are_words" "are_words" s_are_words f_are_words fd_are_words
  g_are_words : mg "are_words" = some (.ref f_are_words)
  b_are_words : Binds K fd_are_words ["value", "most"] []
  f_plain_words : Addr
  fd_plain_words : FuncData
  F_plain_words : Fun K "plain_words" "plain_words" s_plain_words f_plain_words fd_plain_words
  g_plain_words : mg "plain_words" = some (.ref f_plain_words)
  b_plain_words : Binds K fd_plain_words [] []
  f_plain_book : Addr
  fd_plain_book : FuncData
  F_plain_book : Fun K "plain_book" "plain_book" s_plain_book f_plain_book fd_plain_book
  g_plain_book : mg "plain_book" = some (.ref f_plain_book)
  b_plain_book : Binds K fd_plain_book [] []
  f_is_truth : Addr
  fd_is_truth : FuncData
  F_is_truth : Fun K "is_truth" "is_truth" s_is_truth f_is_truth fd_is_truth
  g_is_truth : mg "is_truth" = some (.ref f_is_truth)
  b_is_truth : Binds K fd_is_truth ["value"] []
  f_is_pair : Addr
  fd_is_pair : FuncData
  F_is_pair : Fun K "is_pair" "is_pair" s_is_pair f_is_pair fd_is_pair
  g_is_pair : mg "is_pair" = some (.ref f_is_pair)
  b_is_pair : Binds K fd_is_pair ["value"] []
  f_are_cells : Addr
  fd_are_cells : FuncData
  F_are_cells : Fun K "are_cells" "are_cells" s_are_cells f_are_cells fd_are_cells
  g_are_cells : mg "are_cells" = some (.ref f_are_cells)
  b_are_cells : Binds K fd_are_cells ["value"] []
  f_attributes_of : Addr
  fd_attributes_of : FuncData
  F_attributes_of : Fun K "attributes_of" "attributes_of" s_attributes_of f_attributes_of fd_attributes_of
  g_attributes_of : mg "attributes_of" = some (.ref f_attributes_of)
  b_attributes_of : Binds K fd_attributes_of ["stand"] []
  f_stand_of : Addr
  fd_stand_of : FuncData
  F_stand_of : Fun K "stand_of" "stand_of" s_stand_of f_stand_of fd_stand_of
  g_stand_of : mg "stand_of" = some (.ref f_stand_of)
  b_stand_of : Binds K fd_stand_of ["work"] []
  f_begun : Addr
  fd_begun : FuncData
  F_begun : Fun K "begun" "begun" s_begun f_begun fd_begun
  g_begun : mg "begun" = some (.ref f_begun)
  b_begun : Binds K fd_begun [] []
  f_law_shelf : Addr
  fd_law_shelf : FuncData
  F_law_shelf : Fun K "_law_shelf" "_law_shelf" s_law_shelf f_law_shelf fd_law_shelf
  g_law_shelf : mg "_law_shelf" = some (.ref f_law_shelf)
  b_law_shelf : Binds K fd_law_shelf ["script"] []
  f_law_deal : Addr
  fd_law_deal : FuncData
  F_law_deal : Fun K "_law_deal" "_law_deal" s_law_deal f_law_deal fd_law_deal
  g_law_deal : mg "_law_deal" = some (.ref f_law_deal)
  b_law_deal : Binds K fd_law_deal ["shelf", "many"] []
  f_law_pick : Addr
  fd_law_pick : FuncData
  F_law_pick : Fun K "_law_pick" "_law_pick" s_law_pick f_law_pick fd_law_pick
  g_law_pick : mg "_law_pick" = some (.ref f_law_pick)
  b_law_pick : Binds K fd_law_pick ["shelf", "some"] []
  f_law_words : Addr
  fd_law_words : FuncData
  F_law_words : Fun K "_law_words" "_law_words" s_law_words f_law_words fd_law_words
  g_law_words : mg "_law_words" = some (.ref f_law_words)
  b_law_words : Binds K fd_law_words [] []
  f_law_number : Addr
  fd_law_number : FuncData
  F_law_number : Fun K "_law_number" "_law_number" s_law_number f_law_number fd_law_number
  g_law_number : mg "_law_number" = some (.ref f_law_number)
  b_law_number : Binds K fd_law_number ["shelf"] []
  f_law_parts : Addr
  fd_law_parts : FuncData
  F_law_parts : Fun K "_law_parts" "_law_parts" s_law_parts f_law_parts fd_law_parts
  g_law_parts : mg "_law_parts" = some (.ref f_law_parts)
  b_law_parts : Binds K fd_law_parts ["shelf"] []
  f_law_made : Addr
  fd_law_made : FuncData
  F_law_made : Fun K "_law_made" "_law_made" s_law_made f_law_made fd_law_made
  g_law_made : mg "_law_made" = some (.ref f_law_made)
  b_law_made : Binds K fd_law_made ["parts"] []
  f_law_named : Addr
  fd_law_named : FuncData
  F_law_named : Fun K "_law_named" "_law_named" s_law_named f_law_named fd_law_named
  g_law_named : mg "_law_named" = some (.ref f_law_named)
  b_law_named : Binds K fd_law_named ["parts"] []
  f_law_seen : Addr
  fd_law_seen : FuncData
  F_law_seen : Fun K "_law_seen" "_law_seen" s_law_seen f_law_seen fd_law_seen
  g_law_seen : mg "_law_seen" = some (.ref f_law_seen)
  b_law_seen : Binds K fd_law_seen ["stand"] []
  f_law_spoilt : Addr
  fd_law_spoilt : FuncData
  F_law_spoilt : Fun K "_law_spoilt" "_law_spoilt" s_law_spoilt f_law_spoilt fd_law_spoilt
  g_law_spoilt : mg "_law_spoilt" = some (.ref f_law_spoilt)
  b_law_spoilt : Binds K fd_law_spoilt ["shelf", "at"] []
  f_law_changed : Addr
  fd_law_changed : FuncData
  F_law_changed : Fun K "_law_changed" "_law_changed" s_law_changed f_law_changed fd_law_changed
  g_law_changed : mg "_law_changed" = some (.ref f_law_changed)
  b_law_changed : Binds K fd_law_changed ["part", "place"] []
  f_law_stands_right : Addr
  fd_law_stands_right : FuncData
  F_law_stands_right : Fun K "_law_stands_right" "_law_stands_right" s_law_stands_right f_law_stands_right fd_law_stands_right
  g_law_stands_right : mg "_law_stands_right" = some (.ref f_law_stands_right)
  b_law_stands_right : Binds K fd_law_stands_right ["shelf"] []
  f_law_no_cell : Addr
  fd_law_no_cell : FuncData
  F_law_no_cell : Fun K "_law_no_cell" "_law_no_cell" s_law_no_cell f_law_no_cell fd_law_no_cell
  g_law_no_cell : mg "_law_no_cell" = some (.ref f_law_no_cell)
  b_law_no_cell : Binds K fd_law_no_cell ["shelf"] []
  f_law : Addr
  fd_law : FuncData
  F_law : Fun K "law" "law" s_law f_law fd_law
  g_law : mg "law" = some (.ref f_law)
  b_law : Binds K fd_law ["script"] []
  f_Work_init : Addr
  fd_Work_init : FuncData
  F_Work_init : Fun K "__init__" "Work.__init__" s_Work_init f_Work_init fd_Work_init
  b_Work_init : Binds K fd_Work_init ["self", "numbers"] []
  f_Book_init : Addr
  fd_Book_init : FuncData
  F_Book_init : Fun K "__init__" "Book.__init__" s_Book_init f_Book_init fd_Book_init
  b_Book_init : Binds K fd_Book_init ["self", "words"] []
  f_Book_eq : Addr
  fd_Book_eq : FuncData
  F_Book_eq : Fun K "__eq__" "Book.__eq__" s_Book_eq f_Book_eq fd_Book_eq
  b_Book_eq : Binds K fd_Book_eq ["self", "other"] []
  f_Book_number : Addr
  fd_Book_number : FuncData
  F_Book_number : Fun K "number" "Book.number" s_Book_number f_Book_number fd_Book_number
  b_Book_number : Binds K fd_Book_number ["self", "word"] []
  f_Stand_init : Addr
  fd_Stand_init : FuncData
  F_Stand_init : Fun K "__init__" "Stand.__init__" s_Stand_init f_Stand_init fd_Stand_init
  b_Stand_init : Binds K fd_Stand_init ["self", "block", "room", "tick", "flag", "test", "mode", "first", "second", "cells", "heard", "said", "is_done"] []
  f_Stand_eq : Addr
  fd_Stand_eq : FuncData
  F_Stand_eq : Fun K "__eq__" "Stand.__eq__" s_Stand_eq f_Stand_eq fd_Stand_eq
  b_Stand_eq : Binds K fd_Stand_eq ["self", "other"] []
  f_Stand_cell : Addr
  fd_Stand_cell : FuncData
  F_Stand_cell : Fun K "cell" "Stand.cell" s_Stand_cell f_Stand_cell fd_Stand_cell
  b_Stand_cell : Binds K fd_Stand_cell ["self", "place"] []
  C_Stand : Addr
  gC_Stand : mg "Stand" = some (.ref C_Stand)
  cl_Stand : Cls K C_Stand
  mk_Stand : Mk K C_Stand f_Stand_init
  ob_Stand : PySem.W.mroIn K C_Stand (.type "object") = some true
  ne_Stand : PySem.W.findIn K (.ref C_Stand) "__ne__" = some (some (.builtin "object.__ne__"))
  oc_Stand : PySem.W.findIn K (.ref C_Stand) "__class__" = some (some (.builtin "object.__class__"))
  on_Stand : PySem.W.specialIn K (.builtin "object.__class__") "__get__" = some (some (.builtin "getset_descriptor.__get__"))
  ot_Stand : PySem.W.takesIn K (.builtin "object.__class__") = some true
  kc_Stand : PySem.W.isClsIn K C_Stand = true
  kt_Stand : PySem.W.typeIn K (.ref C_Stand) = some (.type "type")
  na_Stand_block : NoAttr K C_Stand "block"
  na_Stand_room : NoAttr K C_Stand "room"
  na_Stand_tick : NoAttr K C_Stand "tick"
  na_Stand_flag : NoAttr K C_Stand "flag"
  na_Stand_test : NoAttr K C_Stand "test"
  na_Stand_mode : NoAttr K C_Stand "mode"
  na_Stand_first : NoAttr K C_Stand "first"
  na_Stand_second : NoAttr K C_Stand "second"
  na_Stand_cells : NoAttr K C_Stand "cells"
  na_Stand_heard : NoAttr K C_Stand "heard"
  na_Stand_said : NoAttr K C_Stand "said"
  na_Stand_is_done : NoAttr K C_Stand "is_done"
  C_Work : Addr
  gC_Work : mg "Work" = some (.ref C_Work)
  cl_Work : Cls K C_Work
  mk_Work : Mk K C_Work f_Work_init
  ob_Work : PySem.W.mroIn K C_Work (.type "object") = some true
  ne_Work : PySem.W.findIn K (.ref C_Work) "__ne__" = some (some (.builtin "object.__ne__"))
  oc_Work : PySem.W.findIn K (.ref C_Work) "__class__" = some (some (.builtin "object.__class__"))
  on_Work : PySem.W.specialIn K (.builtin "object.__class__") "__get__" = some (some (.builtin "getset_descriptor.__get__"))
  ot_Work : PySem.W.takesIn K (.builtin "object.__class__") = some true
  kc_Work : PySem.W.isClsIn K C_Work = true
  kt_Work : PySem.W.typeIn K (.ref C_Work) = some (.type "type")
  na_Work_numbers : NoAttr K C_Work "numbers"
  na_Work_block : NoAttr K C_Work "block"
  na_Work_room : NoAttr K C_Work "room"
  na_Work_tick : NoAttr K C_Work "tick"
  na_Work_flag : NoAttr K C_Work "flag"
  na_Work_test : NoAttr K C_Work "test"
  na_Work_mode : NoAttr K C_Work "mode"
  na_Work_first : NoAttr K C_Work "first"
  na_Work_second : NoAttr K C_Work "second"
  na_Work_cells : NoAttr K C_Work "cells"
  na_Work_heard : NoAttr K C_Work "heard"
  na_Work_said : NoAttr K C_Work "said"
  na_Work_is_done : NoAttr K C_Work "is_done"
  C_Book : Addr
  gC_Book : mg "Book" = some (.ref C_Book)
  cl_Book : Cls K C_Book
  mk_Book : Mk K C_Book f_Book_init
  ob_Book : PySem.W.mroIn K C_Book (.type "object") = some true
  ne_Book : PySem.W.findIn K (.ref C_Book) "__ne__" = some (some (.builtin "object.__ne__"))
  oc_Book : PySem.W.findIn K (.ref C_Book) "__class__" = some (some (.builtin "object.__class__"))
  on_Book : PySem.W.specialIn K (.builtin "object.__class__") "__get__" = some (some (.builtin "getset_descriptor.__get__"))
  ot_Book : PySem.W.takesIn K (.builtin "object.__class__") = some true
  kc_Book : PySem.W.isClsIn K C_Book = true
  kt_Book : PySem.W.typeIn K (.ref C_Book) = some (.type "type")
  na_Book_words : NoAttr K C_Book "words"
  me_Book_eq : Meth K C_Book "__eq__" f_Book_eq
  me_Book_number : Meth K C_Book "number" f_Book_number
  me_Stand_eq : Meth K C_Stand "__eq__" f_Stand_eq
  me_Stand_cell : Meth K C_Stand "cell" f_Stand_cell
  k_BadNumber : Addr
  gk_BadNumber : mg "BadNumber" = some (.ref k_BadNumber)
  kc_BadNumber : PySem.W.isClsIn K k_BadNumber = true
  kt_BadNumber : PySem.W.typeIn K (.ref k_BadNumber) = some (.type "type")
  k_BadWord : Addr
  gk_BadWord : mg "BadWord" = some (.ref k_BadWord)
  kc_BadWord : PySem.W.isClsIn K k_BadWord = true
  kt_BadWord : PySem.W.typeIn K (.ref k_BadWord) = some (.type "type")
  k_BadBook : Addr
  gk_BadBook : mg "BadBook" = some (.ref k_BadBook)
  kc_BadBook : PySem.W.isClsIn K k_BadBook = true
  kt_BadBook : PySem.W.typeIn K (.ref k_BadBook) = some (.type "type")
  k_BadMachine : Addr
  gk_BadMachine : mg "BadMachine" = some (.ref k_BadMachine)
  kc_BadMachine : PySem.W.isClsIn K k_BadMachine = true
  kt_BadMachine : PySem.W.typeIn K (.ref k_BadMachine) = some (.type "type")
  su_Stand_Stand : PySem.W.subIn K (.ref C_Stand) (.ref C_Stand) = some true
  su_Book_Book : PySem.W.subIn K (.ref C_Book) (.ref C_Book) = some true
  su_BadNumber_BadNumber : PySem.W.subIn K (.ref k_BadNumber) (.ref k_BadNumber) = some true
  su_BadNumber_BadWord : PySem.W.subIn K (.ref k_BadNumber) (.ref k_BadWord) = some false
  su_BadNumber_BadBook : PySem.W.subIn K (.ref k_BadNumber) (.ref k_BadBook) = some false
  su_BadNumber_BadMachine : PySem.W.subIn K (.ref k_BadNumber) (.ref k_BadMachine) = some false
  su_BadWord_BadNumber : PySem.W.subIn K (.ref k_BadWord) (.ref k_BadNumber) = some false
  su_BadWord_BadWord : PySem.W.subIn K (.ref k_BadWord) (.ref k_BadWord) = some true
  su_BadWord_BadBook : PySem.W.subIn K (.ref k_BadWord) (.ref k_BadBook) = some false
  su_BadWord_BadMachine : PySem.W.subIn K (.ref k_BadWord) (.ref k_BadMachine) = some false
  su_BadBook_BadNumber : PySem.W.subIn K (.ref k_BadBook) (.ref k_BadNumber) = some false
  su_BadBook_BadWord : PySem.W.subIn K (.ref k_BadBook) (.ref k_BadWord) = some false
  su_BadBook_BadBook : PySem.W.subIn K (.ref k_BadBook) (.ref k_BadBook) = some true
  su_BadBook_BadMachine : PySem.W.subIn K (.ref k_BadBook) (.ref k_BadMachine) = some false
  su_BadMachine_BadNumber : PySem.W.subIn K (.ref k_BadMachine) (.ref k_BadNumber) = some false
  su_BadMachine_BadWord : PySem.W.subIn K (.ref k_BadMachine) (.ref k_BadWord) = some false
  su_BadMachine_BadBook : PySem.W.subIn K (.ref k_BadMachine) (.ref k_BadBook) = some false
  su_BadMachine_BadMachine : PySem.W.subIn K (.ref k_BadMachine) (.ref k_BadMachine) = some true
  m_isinstance : mg "isinstance" = none
  m_list : mg "list" = none
  m_tuple : mg "tuple" = none
  m_int : mg "int" = none
  m_bool : mg "bool" = none
  m_all : mg "all" = none
  m_str : mg "str" = none
  m_len : mg "len" = none
  m_set : mg "set" = none
  m_range : mg "range" = none
  m_sorted : mg "sorted" = none
  m_abs : mg "abs" = none
  m_dict : mg "dict" = none
  m_repr : mg "repr" = none
  m_min : mg "min" = none
  e_BadNumber : Er K mg "BadNumber" "BadNumber.__init__" s_BadNumber_init "LetterError"
  e_BadWord : Er K mg "BadWord" "BadWord.__init__" s_BadWord_init "LetterError"
  e_BadBook : Er K mg "BadBook" "BadBook.__init__" s_BadBook_init "LetterError"
  e_BadMachine : Er K mg "BadMachine" "BadMachine.__init__" s_BadMachine_init "LetterError"
  D_PLAIN_WORDS : Addr
  gD_PLAIN_WORDS : mg "PLAIN_WORDS" = some (.ref D_PLAIN_WORDS)
  tD_PLAIN_WORDS : ∀ H : Hp, SqT K H D_PLAIN_WORDS [.str "outset", .str "uplift", .str "advance", .str "prepare", .str "augment", .str "lessen", .str "multiply", .str "portion", .str "exchange", .str "inquire", .str "proclaim", .str "obtain", .str "cipher", .str "single", .str "couple", .str "tripled", .str "quarter", .str "fivefold", .str "hexagon", .str "weekday", .str "nothing", .str "duplicate", .str "deposit", .str "whether", .str "negative", .str "granted", .str "otherwise", .str "anyway", .str "journey", .str "finish"]
  nD_PLAIN_WORDS : ∃ o, K.lookup D_PLAIN_WORDS = some o ∧ o.cls = .type "tuple" ∧ o.dict = none
  t_MODE_ANYWAY : Tok
  c_MODE_ANYWAY : mg "MODE_ANYWAY" = some (.int 2 t_MODE_ANYWAY)
  t_MOST_LETTERS : Tok
  c_MOST_LETTERS : mg "MOST_LETTERS" = some (.int 12 t_MOST_LETTERS)
  t_MOST_WORDS : Tok
  c_MOST_WORDS : mg "MOST_WORDS" = some (.int 40 t_MOST_WORDS)
end K28
namespace K28
open PySem PySem.Spec PyProof.Rows L2 Kx SX LamX Ms
section
variable {P : Program} {w : World} {K : PySem.W.Frag} {mg : Str → Option Value} {base : Heap} (T : Tx K mg)
/-! ### checks -/
def sp_is_list (K : PySem.W.Frag) : Sp := fun vs H Q _ => ∃ (x : V) (n : String) (b : Bool), vs = [x] ∧ TyX K H x (.type n) ∧ PySem.W.kitAny K (.type n) [.type "list", .type "tuple"] = some b ∧ ∀ H', Same H H' → Q (.bl b) H'
theorem ok_is_list : FnOk P w K mg base CX0 1 T.f_is_list T.fd_is_list ["value"] (sp_is_list K) := by
  refine T.F_is_list.ok sc_is_list (fun vs H Q E h => ?_) (fun cdv A outer s H vs Q E hr h => ?_)
  · obtain ⟨x, n, b, rfl, _⟩ := h
    rfl
  · obtain ⟨x, n, b, rfl, ht, hk, q⟩ := h
    refine ⟨_, (pss_one (ps_ret (pe_callB call_isiT (by rfl) T.m_isinstance (by decide +kernel) (pa_cons (pv 0) (pa_cons (pe_tup (pa_cons (pe_bltn (v := .ty "list") (by rfl) T.m_list (by decide +kernel) rfl) (pa_cons (pe_bltn (v := .ty "tuple") (by rfl) T.m_tuple (by decide +kernel) rfl) pa_nil))) pa_nil))))), ?_⟩
    refine ⟨x, rfl, by show 2 ≤ sizeLine; decide, fun p np => ?_⟩
    exact ⟨x, p, _, _, _, b, rfl, upd_same, .cons (.ty _) (.cons (.ty _) .nil), tyx_same (same_new np) ht, hk, q _ (same_new np)⟩
def sp_is_integer (K : PySem.W.Frag) : Sp := fun vs H Q _ => ∃ (x : V) (n : String) (a b : Bool), vs = [x] ∧ TyX K H x (.type n) ∧ kitB n "int" = some a ∧ kitB n "bool" = some b ∧ Q (.bl (a && !b)) H
theorem ok_is_integer : FnOk P w K mg base CX0 1 T.f_is_integer T.fd_is_integer ["value"] (sp_is_integer K) := by
  refine T.F_is_integer.ok sc_is_integer (fun vs H Q E h => ?_) (fun cdv A outer s H vs Q E hr h => ?_)
  · obtain ⟨x, n, a, b, rfl, _⟩ := h
    rfl
  · obtain ⟨x, n, a, b, rfl, ht, h1, h2, q⟩ := h
    refine ⟨_, (pss_one (ps_ret (pe_and (pe_callB call_isi (by rfl) T.m_isinstance (by decide +kernel) (pa_cons (pv 0) (pa_cons (pe_bltn (v := .ty "int") (by rfl) T.m_int (by decide +kernel) rfl) pa_nil))) (pe_one (pe_not (pe_callB call_isi (by rfl) T.m_isinstance (by decide +kernel) (pa_cons (pv 0) (pa_cons (pe_bltn (v := .ty "bool") (by rfl) T.m_bool (by decide +kernel) rfl) pa_nil)))))))), ?_⟩
    refine ⟨x, rfl, x, _, _, _, a, rfl, .ty _, ht, kit_ty h1, a, rfl, iteC (fun e => ?_) (fun e => ?_)⟩
    · refine ⟨x, rfl, x, _, _, _, b, rfl, .ty _, ht, kit_ty h2, b, rfl, ?_⟩
      rw [e] at q
      exact q
    · rw [e] at q
      exact q
def sp_is_within (K : PySem.W.Frag) : Sp := fun vs H Q _ => ∃ (x : V) (lo hi : Option Int), vs = [x, bdV lo, bdV hi] ∧ HasInt K H x ∧ Q (.bl (withinV x lo hi)) H
theorem ok_is_within : FnOk P w K mg base CX0 2 T.f_is_within T.fd_is_within ["value", "least", "most"] (sp_is_within K) := by
  refine T.F_is_within.ok sc_is_within (fun vs H Q E h => ?_) (fun cdv A outer s H vs Q E hr h => ?_)
  · obtain ⟨i, lo, hi, rfl, _⟩ := h
    rfl
  · obtain ⟨x, lo, hi, rfl, ⟨n, a, b, ht, k1, k2, e⟩, q⟩ := h
    refine ⟨_, (pss_cons (ps_if (pt_not (pt_val (pe_call (ok_is_integer T) (hr.mono (by decide)) (by rfl) T.g_is_integer T.F_is_integer.kp T.b_is_integer .nil pass0 (pa_cons (pv 0) pa_nil))))
      (pss_one (ps_ret pe_bl))
      pss_nil)
    (pss_one (ps_ret (pe_and (pe_or (pe_cmpR op_isN (pv 1) pe_non (nomark _)) (pe_one (pe_cmpR op_ge (pv 0) (pv 1) (nomark _)))) (pe_one (pe_or (pe_cmpR op_isN (pv 2) pe_non (nomark _)) (pe_one (pe_cmpR op_le (pv 0) (pv 2) (nomark _))))))))), ?_⟩
    refine ⟨_, rfl, x, n, a, b, rfl, ht, k1, k2, _, rfl, ?_⟩
    rw [e]
    cases x with
    | int i =>
      refine iteF ⟨_, rfl, rfl, _, rfl, ?_⟩
      cases lo with
      | none =>
        refine iteT ⟨_, rfl, iteT ⟨_, rfl, rfl, _, rfl, ?_⟩⟩
        cases hi with
        | none => exact iteT q
        | some h => exact iteF ⟨_, rfl, _, rfl, _, _, rfl, rfl, q⟩
      | some l =>
        have q' : Q (.bl (decide (l ≤ i) && hiB i hi)) H := q
        refine iteF ⟨_, rfl, _, rfl, _, _, rfl, rfl, _, rfl, iteC (fun e => ?_) (fun e => ?_)⟩
        · rw [e] at q'
          refine ⟨_, rfl, rfl, _, rfl, ?_⟩
          cases hi with
          | none => exact iteT q'
          | some h => exact iteF ⟨_, rfl, _, rfl, _, _, rfl, rfl, q'⟩
        · rw [e] at q'
          exact q'
    | _ => exact iteT q
/-- a list or tuple of ints, or not -/
def IntsV (K : PySem.W.Frag) (H : Hp) (x : V) (b : Bool) : Prop := (∃ n : String, TyX K H x (.type n) ∧ PySem.W.kitAny K (.type n) [.type "list", .type "tuple"] = some false ∧ b = false) ∨
  ∃ (p : Addr) (zs : List V), x = .ref p ∧ SqQ K H p zs ∧ (∀ z ∈ zs, HasInt K H z) ∧ zs.length ≤ 100000 ∧ b = zs.all isIntV
theorem intsV_of {H : Hp} {p : Addr} {l : List Int} (h : SqQ K H p (l.map V.int)) (hl : l.length ≤ 100000) : IntsV K H (.ref p) true :=
  .inr ⟨p, _, rfl, h, fun z m => by obtain ⟨i, _, rfl⟩ := List.mem_map.mp m; exact hasInt_int i, by rw [List.length_map]; exact hl, by rw [List.all_map]; exact (List.all_eq_true.mpr fun _ _ => rfl).symm⟩
def sp_are_integers (K : PySem.W.Frag) : Sp := fun vs H Q _ => ∃ (x : V) (b : Bool), vs = [x] ∧ IntsV K H x b ∧ ∀ H', Same H H' → Q (.bl b) H'
theorem ok_are_integers : FnOk P w K mg base CX0 2 T.f_are_integers T.fd_are_integers ["value"] (sp_are_integers K) := by
  refine T.F_are_integers.ok sc_are_integers (fun vs H Q E h => ?_) (fun cdv A outer s H vs Q E hr h => ?_)
  · obtain ⟨x, b, rfl, _⟩ := h
    rfl
  · obtain ⟨x, b, rfl, h, q⟩ := h
    refine ⟨_, (pss_one (ps_ret (pe_and (pe_call (ok_is_list T) (hr.mono (by decide)) (by rfl) T.g_is_list T.F_is_list.kp T.b_is_list .nil pass0 (pa_cons (pv 0) pa_nil)) (pe_one (pe_callB (cr_all rfl) (by rfl) T.m_all (by decide +kernel) (pa_cons (pe_lc (own := [("number", 1)]) rfl sc_are_integers.nd (pi_seq (pv 0)) (blkOk_by (own := [("number", 1)]) (N := ["value", "number"]) (sc := defScope s_are_integers) (by decide +kernel)) (fun _ _ _ _ _ => (pg_name (i := 1) sc_are_integers.nd rfl (.inl rfl))) (fun _ _ _ _ _ => pts_nil) (fun _ _ _ _ _ => (pe_call (ok_is_integer T) (hr.mono (by decide)) (by rfl) T.g_is_integer T.F_is_integer.kp T.b_is_integer .nil pass0 (pa_cons (pv 1) pa_nil)))) pa_nil)))))), ?_⟩
    rcases h with ⟨n, ht, hk, rfl⟩ | ⟨p, zs, rfl, hz, hi, hl, rfl⟩
    · exact go_ret (go_and ⟨_, rfl, _, n, false, rfl, ht, hk, fun H1 e1 => ⟨_, rfl, iteF (A := _) (q H1 e1)⟩⟩)
    · obtain ⟨n, ht, hk⟩ := isl_q hz
      refine go_ret (go_and ⟨_, rfl, _, n, true, rfl, ht, hk, fun H1 e1 => ⟨_, rfl, iteT (B := _) ?_⟩⟩)
      refine go_cb (go_cons (lc_seqmap (a := p) (xs := zs) (fun v => .bl (isIntV v)) (by exact rfl) (Same.q e1 hz) hl (fun i v Hc Q' R' hv e2 q' => ?_) (fun D Hc e2 hD => ?_)))
      · obtain ⟨n2, a, b, t2, k1, k2, e⟩ := hi v (List.mem_of_getElem? hv)
        refine ⟨rfl, ?_⟩
        refine iteT (B := True) ?_
        refine ⟨_, rfl, v, n2, a, b, rfl, tyx_same (e1.trans e2) t2, k1, k2, ?_⟩
        rw [e]
        exact q' Hc (Same.refl _)
      · refine go_nil ⟨D, zs.map isIntV, rfl, .inl (.inl (by rw [hD, List.map_map]; rfl)), ?_⟩
        rw [show ((zs.map isIntV).all id) = zs.all isIntV by rw [List.all_map]; rfl]
        exact q Hc (e1.trans e2)
def sp_is_truth (K : PySem.W.Frag) : Sp := fun vs H Q _ => ∃ (x : V) (n : String) (b : Bool), vs = [x] ∧ TyX K H x (.type n) ∧ kitB n "bool" = some b ∧ Q (.bl b) H
theorem ok_is_truth : FnOk P w K mg base CX0 1 T.f_is_truth T.fd_is_truth ["value"] (sp_is_truth K) := by
  refine T.F_is_truth.ok sc_is_truth (fun vs H Q E h => ?_) (fun cdv A outer s H vs Q E hr h => ?_)
  · obtain ⟨x, n, b, rfl, _⟩ := h
    rfl
  · obtain ⟨x, n, b, rfl, ht, h2, q⟩ := h
    refine ⟨_, (pss_one (ps_ret (pe_callB call_isi (by rfl) T.m_isinstance (by decide +kernel) (pa_cons (pv 0) (pa_cons (pe_bltn (v := .ty "bool") (by rfl) T.m_bool (by decide +kernel) rfl) pa_nil))))), ?_⟩
    exact ⟨_, rfl, x, _, _, _, b, rfl, .ty _, ht, kit_ty h2, q⟩
theorem pair_at {H : Hp} {q : Addr} {x y : V} {Q : VK} (h : SqQ K H q [x, y]) (h1 : Q y H) : rIx K (.ref q) (.int 1) H Q := ix_q h (show atI [x, y] ((1 : Nat) : Int) = some y from rfl) h1
theorem pair_at0 {H : Hp} {q : Addr} {x y : V} {Q : VK} (h : SqQ K H q [x, y]) (h1 : Q x H) : rIx K (.ref q) (.int 0) H Q := ix_q h (show atI [x, y] ((0 : Nat) : Int) = some x from rfl) h1
/-- two ints, the second not 0; or what is no such pair -/
def PairV (K : PySem.W.Frag) (H : Hp) (x : V) (b : Bool) : Prop := (IntsV K H x false ∧ b = false) ∨
  ∃ (q : Addr) (zs : List Int), x = .ref q ∧ SqQ K H q (zs.map V.int) ∧ zs.length ≤ 1000 ∧ b = (decide (zs.length = 2) && !decide (zs.getD 1 0 = 0))
theorem IntsV.same {H H' : Hp} {x : V} {b : Bool} (h : IntsV K H x b) (e : Same H H') : IntsV K H' x b := by
  rcases h with ⟨n, h1, h2, h3⟩ | ⟨p, zs, rfl, h1, h2, h3, h4⟩
  · exact .inl ⟨n, tyx_same e h1, h2, h3⟩
  · exact .inr ⟨p, zs, rfl, Same.q e h1, fun z m => (h2 z m).same e, h3, h4⟩
theorem PairV.same {H H' : Hp} {x : V} {b : Bool} (h : PairV K H x b) (e : Same H H') : PairV K H' x b := by
  rcases h with ⟨h, r⟩ | ⟨q, zs, rfl, h, r⟩
  · exact .inl ⟨h.same e, r⟩
  · exact .inr ⟨q, zs, rfl, Same.q e h, r⟩
def sp_is_pair (K : PySem.W.Frag) : Sp := fun vs H Q _ => ∃ (x : V) (b : Bool), vs = [x] ∧ PairV K H x b ∧ ∀ H', Same H H' → Q (.bl b) H'
theorem dec_int (x y : Int) : decide (V.int x = V.int y) = decide (x = y) := by
  by_cases z : x = y
  · rw [z]; simp
  · rw [decide_eq_false z, decide_eq_false (fun y => z (V.int.inj y))]
theorem ok_is_pair : FnOk P w K mg base CX0 3 T.f_is_pair T.fd_is_pair ["value"] (sp_is_pair K) := by
  refine T.F_is_pair.ok sc_is_pair (fun vs H Q E h => ?_) (fun cdv A outer s H vs Q E hr h => ?_)
  · obtain ⟨q, p, rfl, _⟩ := h
    rfl
  · obtain ⟨x, b, rfl, h, q⟩ := h
    refine ⟨_, (pss_one (ps_ret (pe_and (pe_call (ok_are_integers T) (hr.mono (by decide)) (by rfl) T.g_are_integers T.F_are_integers.kp T.b_are_integers .nil pass0 (pa_cons (pv 0) pa_nil)) (pe_and (pe_cmpR op_eq (pe_callB call_len_seq (by rfl) T.m_len PySem.boot_len (pa_cons (pv 0) pa_nil)) pe_int (nomark _)) (pe_one (pe_cmpR op_ne (pe_ix ix_seq (pv 0) pe_int (fun _ _ => rfl)) pe_int (nomark _))))))), ?_⟩
    rcases h with ⟨h, rfl⟩ | ⟨a, zs, rfl, hz, hl, rfl⟩
    · exact go_ret (go_and ⟨_, rfl, x, false, rfl, h, fun H1 e1 => ⟨_, rfl, iteF (A := _) (q H1 e1)⟩⟩)
    refine go_ret (go_and ⟨_, rfl, .ref a, true, rfl, intsV_of hz (by omega), fun H1 e1 => ⟨_, rfl, iteT (B := _) ?_⟩⟩)
    refine go_and (go_op (go_cb (go_cons (go_var rfl (go_nil ⟨a, _, rfl, Same.q e1 hz, rfl, _, rfl, ?_⟩)))))
    rw [List.length_map, dec_int]
    by_cases e2 : zs.length = 2
    · rw [decide_eq_true (show (zs.length : Int) = 2 by omega)]
      rw [decide_eq_true e2] at q
      refine iteT (B := True) ?_
      refine go_op (go_op (go_var rfl ?_))
      have a1 : atI (zs.map V.int) ((1 : Nat) : Int) = some (.int (zs.getD 1 0)) := by
        match zs, e2 with
        | [x, y], _ => rfl
      refine ix_q (Same.q e1 hz) a1 ?_
      refine ⟨rfl, ?_⟩
      rw [dec_int]
      exact q H1 e1
    · rw [decide_eq_false (show ¬ (zs.length : Int) = 2 by omega)]
      rw [decide_eq_false e2] at q
      exact iteF (A := True) (q H1 e1)
end
end K28
namespace K28
open PySem PySem.Spec PyProof.Rows L2 Kx SX LamX Ms
section
variable {P : Program} {w : World} {K : PySem.W.Frag} {mg : Str → Option Value} {base : Heap} (T : Tx K mg)
/-! ### draws -/
def sp_law_deal (K : PySem.W.Frag) : Sp := fun vs H Q _ => ∃ (a c : Addr) (m : Int) (n : Nat), vs = [.ref a, .int m] ∧ 0 < m ∧ m ≤ 1000000 ∧ Wh H a c n ∧ n < 1000000 ∧ ∀ (r : Int) (H' : Hp), 0 ≤ r → r < m → Mv a H H' → Wh H' a c (n + 1) → Q (.int r) H'
theorem ok_law_deal : FnOk P w K mg base CX0 1 T.f_law_deal T.fd_law_deal ["shelf", "many"] (sp_law_deal K) := by
  refine T.F_law_deal.ok sc_law_deal (fun vs H Q E h => ?_) (fun cdv A outer s H vs Q E hr h => ?_)
  · obtain ⟨a, c, m, n, rfl, _⟩ := h
    rfl
  · obtain ⟨a, c, m, n, rfl, hm, hM, ⟨cs, t, l, h1, h2, h3, h4, h5⟩, hn, q⟩ := h
    refine ⟨_, (pss_cons (ps_if (pt_cmpR op_gt (pe_ix ix_list (pv 0) pe_int (fun _ _ => rfl)) pe_int (nomark _))
      (pss_cons (ps_set (i := 2) sc_law_deal.nd rfl (.inl rfl) (pe_callTy call_int1 (by rfl) T.m_int (by decide +kernel) (pa_cons (pe_ix ix_list (pv 0) pe_int (fun _ _ => rfl)) pa_nil)))
      (pss_cons (ps_asg (pe_op op_fdivN (pv 2) (pv 1)) (pg_sub (pv 0) pe_int set_list))
      (pss_one (ps_ret (pe_op op_modN (pe_callTy call_int1 (by rfl) T.m_int (by decide +kernel) (pa_cons (pv 2) pa_nil)) (pv 1))))))
      pss_nil)
    (pss_cons (ps_set (i := 3) sc_law_deal.nd rfl (.inl rfl) (pe_ix ix_list (pv 0) pe_int (fun _ _ => rfl)))
    (pss_cons (ps_asg (pe_op op_add (pv 3) pe_int) (pg_sub (pv 0) pe_int set_list))
    (pss_cons (ps_set (i := 4) sc_law_deal.nd rfl (.inl rfl) (pe_op op_add (pe_op op_mul pe_int (pv 3)) pe_int))
    (pss_cons (ps_if (pt_cmpR (op_neD hr.units) (pe_ix ix_list (pv 0) pe_int (fun _ _ => rfl)) (pe_lst pa_nil) (nomark _))
      (pss_one (ps_set (i := 4) sc_law_deal.nd rfl (.inl rfl) (pe_ix ix_list (pe_ix ix_list (pv 0) pe_int (fun _ _ => rfl)) (pe_op op_modN (pe_callTy call_int1 (by rfl) T.m_int (by decide +kernel) (pa_cons (pv 3) pa_nil)) (pe_callB call_len_seq (by rfl) T.m_len PySem.boot_len (pa_cons (pe_ix ix_list (pv 0) pe_int (fun _ _ => rfl)) pa_nil))) (fun _ _ => rfl))))
      pss_nil)
    (pss_cons (ps_if (PW.pt (pw_and (pt_cmpR op_lt (pv 3) (pe_callB call_len_seq (by rfl) T.m_len PySem.boot_len (pa_cons (pe_ix ix_list (pv 0) pe_int (fun _ _ => rfl)) pa_nil)) (nomark _)) (pw_and1 (pt_cmpR op_ge (pe_callB call_abs (by rfl) T.m_abs (by decide +kernel) (pa_cons (pv 4) pa_nil)) (pe_op op_pow pe_int pe_int) (nomark _)))))
      (pss_cons (ps_set (i := 2) sc_law_deal.nd rfl (.inl rfl) (pe_op op_add (pe_op op_mul pe_int (pe_op op_sub (pe_callB call_abs (by rfl) T.m_abs (by decide +kernel) (pa_cons (pe_callTy call_int1 (by rfl) T.m_int (by decide +kernel) (pa_cons (pv 4) pa_nil)) pa_nil)) (pe_op op_pow pe_int pe_int))) (pe_callTy call_int1 (by rfl) T.m_int (by decide +kernel) (pa_cons (pe_cmpR op_lt (pv 4) pe_int (nomark _)) pa_nil))))
      (pss_cons (ps_asg (pe_op op_fdivN (pv 2) (pv 1)) (pg_sub (pv 0) pe_int set_list))
      (pss_one (ps_ret (pe_op op_modN (pe_callTy call_int1 (by rfl) T.m_int (by decide +kernel) (pa_cons (pv 2) pa_nil)) (pv 1))))))
      pss_nil)
    (pss_cons (ps_set (i := 5) sc_law_deal.nd rfl (.inl rfl) (pe_op op_modN (pe_callTy call_int1 (by rfl) T.m_int (by decide +kernel) (pa_cons (pe_op op_pow (pe_op op_add (pe_op op_add (pe_op op_modN (pe_callTy call_int1 (by rfl) T.m_int (by decide +kernel) (pa_cons (pv 4) pa_nil)) pe_int) (pe_op op_mul pe_int (pv 3))) pe_int) pe_int) pa_nil)) pe_int))
    (pss_cons (ps_set (i := 5) sc_law_deal.nd rfl (.inl rfl) (pe_op op_modN (pe_callTy call_int1 (by rfl) T.m_int (by decide +kernel) (pa_cons (pe_op op_pow (pe_op op_add (pe_op op_add (pe_op op_mul (pv 5) (pe_op op_add (pe_op op_mul pe_int (pv 3)) pe_int)) (pe_op op_mul (pe_op op_mul pe_int (pv 3)) (pv 3))) pe_int) pe_int) pa_nil)) pe_int))
    (pss_one (ps_ret (pe_op op_modN (pe_callTy call_int1 (by rfl) T.m_int (by decide +kernel) (pa_cons (pe_op op_fdivN (pv 5) pe_int) pa_nil)) (pv 1)))))))))))), ?_⟩
    have hac := wh_ac h1 h2
    have m0 : m ≠ 0 := by omega
    have mS : m.natAbs < 1073741824 := by omega
    have fin : ∀ (x y z : Int) (H' : Hp), Mv a H H' → H' a = some (.lst [.ref c, .int y, .int z]) → 0 ≤ y → y ≤ n + 1 → Q (.int (x.fmod m)) H' := fun x y z H' mv ha y0 y1 =>
      q _ _ (Int.fmod_nonneg_of_pos _ hm) (Int.fmod_lt_of_pos _ hm) mv ⟨cs, y, z, ha, mv c _ (fun e => hac e.symm) h2, h3, y0, by omega⟩
    refine ⟨_, rfl, a, _, 2, .int l, rfl, rfl, .inl (.inl h1), rfl, _, _, rfl, rfl, _, rfl, iteC (fun e => ?_) (fun e => ?_)⟩
    · refine ⟨_, rfl, a, _, 2, .int l, rfl, rfl, .inl (.inl h1), rfl, .inl ⟨l, rfl, ?_⟩⟩
      refine ⟨_, rfl, _, rfl, l, m, rfl, rfl, ⟨m0, mS⟩, _, rfl, a, _, 2, 2, rfl, rfl, h1, rfl, ?_⟩
      refine ⟨_, rfl, .inl ⟨l, rfl, _, rfl, l, m, rfl, rfl, m0, ?_⟩⟩
      exact fin _ t (l.fdiv m) _ (Mv.upd _ _ _) upd_same h4 (by omega)
    · clear e
      refine ⟨_, rfl, a, _, 1, .int t, rfl, rfl, .inl (.inl h1), rfl, ?_⟩
      refine ⟨_, rfl, t, 1, rfl, rfl, _, rfl, a, _, 1, 1, rfl, rfl, h1, rfl, ?_⟩
      refine ⟨_, rfl, _, t, rfl, rfl, .inl ⟨by decide, by decide⟩, _, _, rfl, rfl, ?_⟩
      refine genI (P := fun v => gName 4 v _ _ _) (fun c0 => ?_)
      generalize hH1 : upd H a (HO.lst ([V.ref c, .int t, .int l].set 1 (.int (t + 1)))) = H1
      have a1 : H1 a = some (.lst [.ref c, .int (t + 1), .int l]) := by rw [← hH1]; exact upd_same
      have c1 : H1 c = some (.lst (cs.map V.int)) := by rw [← hH1, upd_ne (fun e => hac e.symm)]; exact h2
      have mv1 : Mv a H H1 := by rw [← hH1]; exact Mv.upd _ _ _
      refine ⟨_, rfl, a, _, 0, .ref c, rfl, rfl, .inl (.inl a1), rfl, Nat.zero_le _, fun p np => ne_nil (.inl (.inl (same_new np _ _ c1))) upd_same ?_⟩
      generalize hH2 : upd H1 p (HO.lst []) = H2
      have s2 : Same H1 H2 := by rw [← hH2]; exact same_new np
      have a2 := s2 _ _ a1
      have c2 := s2 _ _ c1
      have mv2 : Mv a H H2 := mv1.trans (Mv.of s2)
      refine ⟨_, rfl, cutI (R := fun z => tNext _ (List.set _ 4 (some (V.int z))) H2) c0 (fun _ r => r) (fun key e => ?_) (fun cell => ?_)⟩
      · obtain ⟨v, hv, ev⟩ : ∃ v, v ∈ cs.map V.int ∧ atI (cs.map V.int) (t.fmod ((cs.map V.int).length : Int)) = some v := by
          have z : (0 : Int) < (cs.map V.int).length := by
            cases cs with
            | nil => cases e
            | cons x xs => simp
          exact at_lt (Int.fmod_nonneg_of_pos _ z) (Int.fmod_lt_of_pos _ z)
        obtain ⟨i, _, rfl⟩ := List.mem_map.mp hv
        have z : ((cs.map V.int).length : Int) ≠ 0 := by
          cases cs with
          | nil => cases e
          | cons x xs => simp; omega
        refine ⟨_, rfl, a, _, 0, .ref c, rfl, rfl, .inl (.inl a2), rfl, ?_⟩
        refine ⟨_, rfl, .inl ⟨t, rfl, ?_⟩⟩
        refine ⟨_, rfl, a, _, 0, .ref c, rfl, rfl, .inl (.inl a2), rfl, c, _, rfl, .inl (.inl (.inl c2)), ?_⟩
        exact ⟨t, _, rfl, rfl, z, c, _, _, _, rfl, rfl, .inl (.inl c2), ev, key i⟩
      · refine ⟨_, rfl, _, rfl, a, _, 0, .ref c, rfl, rfl, .inl (.inl a2), rfl, c, _, rfl, .inl (.inl (.inl c2)), _, _, rfl, rfl, _, rfl, cutP (fun _ r => iteF r) (fun r e => ?_) ?_⟩
        · refine ⟨_, rfl, cell, rfl, _, _, rfl, rfl, ⟨by decide, by decide, by decide⟩, _, _, rfl, rfl, _, rfl, iteC (fun e2 => ?_) (fun e2 => r)⟩
          refine ⟨_, rfl, .inl ⟨cell, rfl, cell, rfl, _, _, rfl, rfl, ⟨by decide, by decide, by decide⟩, _, _, rfl, rfl, _, _, rfl, rfl, .inl ⟨by decide, by decide⟩, _, rfl, _, _, rfl, rfl, .inr ⟨_, rfl, _, _, rfl, rfl, ?_⟩⟩⟩
          refine genI (P := fun v => gName 2 v _ _ _) (fun rest => ?_)
          refine ⟨_, rfl, _, rfl, _, _, rfl, rfl, ⟨m0, mS⟩, _, rfl, a, _, 2, 2, rfl, rfl, a2, rfl, ?_⟩
          refine ⟨_, rfl, .inl ⟨rest, rfl, _, rfl, _, _, rfl, rfl, m0, ?_⟩⟩
          exact fin _ (t + 1) _ _ (mv2.trans (Mv.upd _ _ _)) upd_same (by omega) (by omega)
        · refine ⟨_, rfl, .inl ⟨cell, rfl, _, _, rfl, rfl, (by show (_ : Int) ≠ 0; decide), _, rfl, _, _, rfl, rfl, .inl ⟨by decide, by decide⟩, _, _, rfl, rfl, _, _, rfl, rfl, _, _, rfl, rfl, ⟨by decide, by decide, bnd5 (by decide) (by decide) h4 (by omega) (by decide) (by decide) (by decide) (by decide)⟩, .inl ⟨_, rfl, _, _, rfl, rfl, (by show (_ : Int) ≠ 0; decide), ?_⟩⟩⟩
          refine genIB (P := fun v => gName 5 v _ _ _) (by decide) (fun m1 m1a m1b => ?_)
          have m1c : m1 ≤ 4294967296 := Int.le_trans (Int.le_of_lt m1b) (by decide)
          refine ⟨_, rfl, _, rfl, _, _, rfl, rfl, .inl ⟨by decide, by decide⟩, _, _, rfl, rfl, _, _, rfl, rfl, .inl ⟨by omega, by omega⟩, _, rfl, _, _, rfl, rfl, .inl ⟨by decide, by decide⟩, _, rfl, _, _, rfl, rfl, .inr ⟨by omega, by omega⟩, _, _, rfl, rfl, _, _, rfl, rfl, _, _, rfl, rfl, ⟨by decide, by decide, bnd3 m1a m1c h4 (by omega) (by decide) (by decide) (by decide) (by decide) (by decide) (by decide)⟩, .inl ⟨_, rfl, _, _, rfl, rfl, (by show (_ : Int) ≠ 0; decide), ?_⟩⟩
          refine genI (P := fun v => gName 5 v _ _ _) (fun m2 => ?_)
          refine ⟨_, rfl, _, _, rfl, rfl, ⟨by decide, by decide⟩, .inl ⟨_, rfl, _, rfl, _, _, rfl, rfl, m0, ?_⟩⟩
          exact fin _ (t + 1) _ _ mv2 a2 (by omega) (by omega)
/-- one of some things -/
def sp_law_pick (K : PySem.W.Frag) : Sp := fun vs H Q _ => ∃ (a b c : Addr) (xs : List V) (n : Nat), vs = [.ref a, .ref b] ∧ SqL K H b xs ∧ xs ≠ [] ∧ xs.length ≤ 1000000 ∧ Wh H a c n ∧ n < 1000000 ∧ (∀ H', Mv a H H' → SqL K H' b xs) ∧ ∀ (v : V) (H' : Hp), v ∈ xs → Mv a H H' → Wh H' a c (n + 1) → Q v H'
theorem ok_law_pick : FnOk P w K mg base CX0 2 T.f_law_pick T.fd_law_pick ["shelf", "some"] (sp_law_pick K) := by
  refine T.F_law_pick.ok sc_law_pick (fun vs H Q E h => ?_) (fun cdv A outer s H vs Q E hr h => ?_)
  · obtain ⟨a, b, c, xs, n, rfl, _⟩ := h
    rfl
  · obtain ⟨a, b, c, xs, n, rfl, hs, hx, hl, hw, hn, hm, q⟩ := h
    refine ⟨_, (pss_one (ps_ret (pe_ix ix_list (pv 1) (pe_call (ok_law_deal T) (hr.mono (by decide)) (by rfl) T.g_law_deal T.F_law_deal.kp T.b_law_deal .nil pass0 (pa_cons (pv 0) (pa_cons (pe_callB call_len_seq (by rfl) T.m_len PySem.boot_len (pa_cons (pv 1) pa_nil)) pa_nil))) (fun _ _ => rfl)))), ?_⟩
    have z : 0 < xs.length := by
      cases xs with
      | nil => exact absurd rfl hx
      | cons x t => simp
    refine ⟨_, rfl, _, rfl, _, rfl, b, xs, rfl, .inl hs, a, c, _, n, rfl, by omega, by omega, hw, hn, fun r H' r0 r1 mv w' => ?_⟩
    obtain ⟨v, hv, ev⟩ := at_lt r0 r1
    exact ⟨b, xs, r, v, rfl, rfl, hm _ mv, ev, q v H' hv mv w'⟩
def sp_law_shelf (K : PySem.W.Frag) : Sp := fun vs H Q _ => ∃ (b : Addr) (xs : List Int), vs = [.ref b] ∧ SqL K H b (xs.map V.int) ∧ ∀ (a c : Addr) (H' : Hp), H a = none → Same H H' → Wh H' a c 0 → Q (.ref a) H'
theorem ok_law_shelf : FnOk P w K mg base CX0 1 T.f_law_shelf T.fd_law_shelf ["script"] (sp_law_shelf K) := by
  refine T.F_law_shelf.ok sc_law_shelf (fun vs H Q E h => ?_) (fun cdv A outer s H vs Q E hr h => ?_)
  · obtain ⟨b, xs, rfl, _⟩ := h
    rfl
  · obtain ⟨b, xs, rfl, hs, q⟩ := h
    refine ⟨_, (pss_one (ps_ret (pe_lst (pa_cons (pe_lc (own := [("cell", 1)]) rfl sc_law_shelf.nd (pi_list (pe_slice sl_list (pv 0) po_none (po_some pe_int))) (blkOk_by (own := [("cell", 1)]) (N := ["script", "cell"]) (sc := defScope s_law_shelf) (by decide +kernel)) (fun _ _ _ _ _ => (pg_name (i := 1) sc_law_shelf.nd rfl (.inl rfl))) (fun _ _ _ _ _ => pts_nil) (fun _ _ _ _ _ => (pe_callTy call_int1 (by rfl) T.m_int (by decide +kernel) (pa_cons (pv 1) pa_nil)))) (pa_cons pe_int (pa_cons pe_int pa_nil)))))), ?_⟩
    refine ⟨_, rfl, _, rfl, b, _, rfl, hs, fun p np => ?_⟩
    have hc : cutV (xs.map V.int) none (some 58) = (xs.take 58).map V.int := by
      rw [List.map_take]
      exact cut_to _ 58
    rw [hc]
    refine ⟨p, rfl, ⟨_, .inl (.inl upd_same)⟩, fun D nD => lc_mapL id (.inl (.inl upd_same)) nD (by rw [List.length_map, List.length_take]; omega) (fun i x Hc Q' R' hx e1 q' => ?_) (fun Hc e1 hD => ?_)⟩
    · obtain ⟨j, _, rfl⟩ := List.mem_map.mp (List.mem_of_getElem? hx)
      refine ⟨rfl, ?_⟩
      refine iteT (B := True) ?_
      exact ⟨_, rfl, .inl ⟨j, rfl, q' Hc (Same.refl _)⟩⟩
    · rw [List.map_id] at hD
      have s0 := (same_new np).trans e1
      refine ⟨by show 3 ≤ sizeLine; decide, fun a na => q a D _ (s0.free na) (s0.trans (same_new na)) ⟨xs.take 58, 0, 0, upd_same, (same_new na) _ _ hD, ?_, by omega, by omega⟩⟩
      rw [List.length_take]
      omega
end
end K28
namespace K28
open PySem PySem.Spec PyProof.Rows L2 Kx SX LamX Ms
section
variable {P : Program} {w : World} {K : PySem.W.Frag} {mg : Str → Option Value} {base : Heap} (T : Tx K mg)
theorem pq_get {H : Hp} {ps : List Addr} {l : List (Int × Int)} {i : Nat} {v : V} (hp : Paired (fun (q : Addr) (p : Int × Int) => SqQ K H q [.int p.1, .int p.2]) ps l) (h : (ps.map V.ref)[i]? = some v) : ∃ q p, v = .ref q ∧ l[i]? = some p ∧ SqQ K H q [.int p.1, .int p.2] := by
  obtain ⟨q, hq, rfl⟩ := map_at h
  have hl := hp.length
  obtain ⟨p, hp'⟩ : ∃ p, l[i]? = some p := ⟨_, List.getElem?_eq_getElem (by have := (List.getElem?_eq_some_iff.mp hq).1; omega)⟩
  exact ⟨q, p, rfl, hp', paired_at hp hq hp'⟩
def ltAt (l : List (Int × Int)) (j : Nat) : Bool := decide ((l.getD j (0, 0)).1 < (l.getD (j + 1) (0, 0)).1)
def chainB (l : List (Int × Int)) : Bool := ((List.range (l.length - 1)).map (ltAt l)).all id
theorem chain_up {l : List (Int × Int)} (h : l.Pairwise (fun p q => p.1 < q.1)) : chainB l = true := by
  unfold chainB
  rw [List.all_map, List.all_eq_true]
  intro j hj
  have hj := List.mem_range.mp hj
  have := List.pairwise_iff_getElem.mp h j (j + 1) (by omega) (by omega) (by omega)
  show decide _ = true
  rw [decide_eq_true_eq, List.getD_eq_getElem?_getD, List.getD_eq_getElem?_getD, List.getElem?_eq_getElem (by omega), List.getElem?_eq_getElem (by omega)]
  exact this
/-- what is told as cells, and whether it is right -/
def CellsV (K : PySem.W.Frag) (H : Hp) (x : V) (b : Bool) : Prop := (b = false ∧ ∃ n : String, TyX K H x (.type n) ∧ PySem.W.kitAny K (.type n) [.type "list", .type "tuple"] = some false) ∨
  (∃ (c : Addr) (xs : List V) (g : V → Bool), x = .ref c ∧ SqQ K H c xs ∧ xs.length ≤ 1000 ∧ (∀ v ∈ xs, PairV K H v (g v)) ∧ xs.all g = false ∧ b = false) ∨
  ∃ (c : Addr) (l : List (Int × Int)), x = .ref c ∧ PairsQ K H c l ∧ l.length ≤ 90000 ∧ (∀ p ∈ l, p.2 ≠ 0) ∧ b = chainB l
theorem CellsV.same {H H' : Hp} {x : V} {b : Bool} (h : CellsV K H x b) (e : Same H H') : CellsV K H' x b := by
  rcases h with ⟨h1, n, h2, h3⟩ | ⟨c, xs, g, rfl, h1, h2, h3, h4⟩ | ⟨c, l, rfl, h1, h2⟩
  · exact .inl ⟨h1, n, tyx_same e h2, h3⟩
  · exact .inr (.inl ⟨c, xs, g, rfl, Same.q e h1, h2, fun v m => (h3 v m).same e, h4⟩)
  · exact .inr (.inr ⟨c, l, rfl, h1.same e, h2⟩)
def sp_are_cells (K : PySem.W.Frag) : Sp := fun vs H Q _ => ∃ (x : V) (b : Bool), vs = [x] ∧ CellsV K H x b ∧ ∀ H', Same H H' → Q (.bl b) H'
theorem ok_are_cells : FnOk P w K mg base CX0 4 T.f_are_cells T.fd_are_cells ["value"] (sp_are_cells K) := by
  refine T.F_are_cells.ok sc_are_cells (fun vs H Q E h => ?_) (fun cdv A outer s H vs Q E hr h => ?_)
  · obtain ⟨c, l, rfl, _⟩ := h
    rfl
  · obtain ⟨x, b, rfl, h, q⟩ := h
    refine ⟨_, (pss_cons (ps_if (PW.pt (pw_or (pt_not (pt_val (pe_call (ok_is_list T) (hr.mono (by decide)) (by rfl) T.g_is_list T.F_is_list.kp T.b_is_list .nil pass0 (pa_cons (pv 0) pa_nil)))) (pw_or1 (pt_not (pt_val (pe_callB (cr_all rfl) (by rfl) T.m_all (by decide +kernel) (pa_cons (pe_lc (own := [("pair", 1)]) rfl sc_are_cells.nd (pi_seq (pv 0)) (blkOk_by (own := [("pair", 1)]) (N := ["value", "pair", "at"]) (sc := defScope s_are_cells) (by decide +kernel)) (fun _ _ _ _ _ => (pg_name (i := 1) sc_are_cells.nd rfl (.inl rfl))) (fun _ _ _ _ _ => pts_nil) (fun _ _ _ _ _ => (pe_call (ok_is_pair T) (hr.mono (by decide)) (by rfl) T.g_is_pair T.F_is_pair.kp T.b_is_pair .nil pass0 (pa_cons (pv 1) pa_nil)))) pa_nil)))))))
      (pss_one (ps_ret pe_bl))
      pss_nil)
    (pss_one (ps_ret (pe_callB (cr_all rfl) (by rfl) T.m_all (by decide +kernel) (pa_cons (pe_lc (own := [("at", 2)]) rfl sc_are_cells.nd (pi_range1 (by rfl) T.m_range (pa_cons (pe_op op_sub (pe_callB call_len_seq (by rfl) T.m_len PySem.boot_len (pa_cons (pv 0) pa_nil)) pe_int) pa_nil)) (blkOk_by (own := [("at", 2)]) (N := ["value", "pair", "at"]) (sc := defScope s_are_cells) (by decide +kernel)) (fun _ _ _ _ _ => (pg_name (i := 2) sc_are_cells.nd rfl (.inl rfl))) (fun _ _ _ _ _ => pts_nil) (fun _ _ _ _ _ => (pe_cmpR op_lt (pe_ix (inK_ix_seq (K := K) rfl) (pe_ix (inK_ix_seq (K := K) rfl) (pv 0) (pv 2) (fun _ _ => rfl)) pe_int (fun _ _ => rfl)) (pe_ix (inK_ix_seq (K := K) rfl) (pe_ix (inK_ix_seq (K := K) rfl) (pv 0) (pe_op op_add (pv 2) pe_int) (fun _ _ => rfl)) pe_int (fun _ _ => rfl)) (nomark _)))) pa_nil))))), ?_⟩
    rcases h with ⟨rfl, n, ht, hk⟩ | ⟨c, xs, g, rfl, hz, hl, hg, ha, rfl⟩ | ⟨c, l, rfl, ⟨ps, hz, hp⟩, hl, hn, rfl⟩
    · exact go_seq (go_if (go_or2 (go_not (go_b ⟨_, rfl, _, n, false, rfl, ht, hk, fun H1 e1 => ⟨_, rfl, iteT (B := _) (iteT (B := _) (go_ret (go_c (q H1 e1))))⟩⟩))))
    · obtain ⟨n, ht, hk⟩ := isl_q hz
      refine go_seq (go_if (go_or2 (go_not (go_b ⟨_, rfl, _, n, true, rfl, ht, hk, fun H1 e1 => ⟨_, rfl, iteF (A := _) ?_⟩⟩))))
      refine go_not (go_b (go_cb (go_cons (lc_seqmap (a := c) (xs := xs) (fun v => .bl (g v)) (by exact rfl) (Same.q e1 hz) (by omega) (fun i v Hc Q' R' hv e2 q' => ?_) (fun D Hc e2 hD => ?_)))))
      · refine ⟨rfl, ?_⟩
        refine iteT (B := True) ?_
        exact ⟨_, rfl, v, g v, rfl, (hg v (List.mem_of_getElem? hv)).same (e1.trans e2), fun H3 e3 => q' H3 e3⟩
      refine go_nil ⟨D, xs.map g, rfl, .inl (.inl (by rw [hD]; simp only [List.map_map]; rfl)), ?_⟩
      rw [show (xs.map g).all id = false by rw [List.all_map]; exact ha]
      exact ⟨_, rfl, iteT (B := _) (go_ret (go_c (q _ (e1.trans e2))))⟩
    have lp : ps.length = l.length := hp.length
    have lv : (ps.map V.ref).length = l.length := by rw [List.length_map, lp]
    obtain ⟨n, ht, hk⟩ := isl_q hz
    refine go_seq (go_if (go_or2 (go_not (go_b ⟨_, rfl, _, n, true, rfl, ht, hk, fun H1 e1 => ⟨_, rfl, iteF (A := _) ?_⟩⟩))))
    refine go_not (go_b (go_cb (go_cons (lc_seqmap (a := c) (xs := ps.map V.ref) (fun v => .bl true) (by exact rfl) (Same.q e1 hz) (by omega) (fun i v Hc Q' R' hv e2 q' => ?_) (fun D Hc e2 hD => ?_)))))
    · obtain ⟨y, p, rfl, hp1, hy⟩ := pq_get hp hv
      refine ⟨rfl, ?_⟩
      refine iteT (B := True) ?_
      refine ⟨_, rfl, .ref y, true, rfl, .inr ⟨y, [p.1, p.2], rfl, Same.q (e1.trans e2) hy, show 2 ≤ 1000 by decide, ?_⟩, fun H3 e3 => q' H3 e3⟩
      show true = (decide ((2 : Nat) = 2) && !decide (p.2 = 0))
      rw [decide_eq_false (hn p (List.mem_of_getElem? hp1))]
      rfl
    refine go_nil ⟨D, (ps.map V.ref).map fun _ => true, rfl, .inl (.inl (by rw [hD]; simp only [List.map_map]; rfl)), ?_⟩
    rw [show (((ps.map V.ref).map fun _ => true).all id) = true by rw [List.all_map, List.all_eq_true]; exact fun _ _ => rfl]
    refine ⟨_, rfl, iteF (A := _) ?_⟩
    dsimp only [tNext]
    have e12 := e1.trans e2
    clear e1 e2 hD ht hk
    refine go_ret (go_cb (go_cons ?_))
    obtain ⟨zs, hzs⟩ : ∃ zs, zs = (List.range (l.length - 1)).map fun j => V.bl (ltAt l j) := ⟨_, rfl⟩
    have e0 : (((ps.map V.ref).length : Int) - 1 - 0).toNat = l.length - 1 := by rw [lv]; omega
    refine ⟨_, rfl, c, _, rfl, Same.q e12 hz, _, _, rfl, rfl, _, rfl, by omega, by omega, fun D3 nD3 => lc_out walk_range zs (by rw [hzs, List.length_map, List.length_range]; omega) nD3 (by omega) (fun _ _ => trivial) (fun j y z Hd Hx Q' R' hj hz2 e1 hy q' => ?_) (fun H10 e10 hD3 => ?_)⟩
    · obtain ⟨rfl, rfl⟩ := hy
      have hj' : j + 1 < l.length := by omega
      have hjp : j < ps.length := by omega
      have e1' := e12.trans e1
      have zt : z = .bl (ltAt l j) := by
        rw [hzs] at hz2
        obtain ⟨i, hi, rfl⟩ := map_at hz2
        rw [List.getElem?_range (by omega)] at hi
        cases hi
        rfl
      subst zt
      have g0 := List.getElem?_eq_getElem (show j < (ps.map V.ref).length by omega)
      have g1 := List.getElem?_eq_getElem (show j + 1 < (ps.map V.ref).length by omega)
      obtain ⟨y0, p0, v0, k0, s0⟩ := pq_get hp g0
      obtain ⟨y1, p1, v1, k1, s1⟩ := pq_get hp g1
      have a0 : atI (ps.map V.ref) (0 + (j : Int)) = some (.ref y0) := by
        rw [Int.zero_add, at_nat (by omega), v0]
      have a1 : atI (ps.map V.ref) (0 + (j : Int) + 1) = some (.ref y1) := by
        rw [show (0 + (j : Int) + 1) = ((j + 1 : Nat) : Int) by omega, at_nat (by omega), v1]
      have lt : decide (p0.1 < p1.1) = ltAt l j := by
        unfold ltAt
        rw [List.getD_eq_getElem?_getD, List.getD_eq_getElem?_getD, k0, k1]
        rfl
      refine ⟨rfl, ?_⟩
      refine iteT (B := True) ?_
      refine go_op (go_op (go_op (go_var rfl (go_var rfl (ix_q (Same.q e1' hz) a0 (pair_at0 (Same.q e1' s0) ?_))))))
      refine go_op (go_op (go_var rfl (go_op (go_var rfl ⟨_, _, rfl, rfl, ix_q (Same.q e1' hz) a1 (pair_at0 (Same.q e1' s1) ?_)⟩))))
      refine ⟨_, _, rfl, rfl, ?_⟩
      show Q' (.bl (decide (p0.1 < p1.1))) Hx
      rw [lt]
      exact q' Hx (Same.refl _)
    · refine go_nil ⟨D3, (List.range (l.length - 1)).map (ltAt l), rfl, .inl (.inl (by rw [hD3, hzs, List.map_map]; rfl)), ?_⟩
      exact q _ (e12.trans e10)
end
end K28
namespace K28
open PySem PySem.Spec PyProof.Rows L2 Kx SX LamX Ms
section
variable {P : Program} {w : World} {K : PySem.W.Frag} {mg : Str → Option Value} {base : Heap} (T : Tx K mg)
def sp_Work_init (K : PySem.W.Frag) (CW : Addr) : Sp := fun vs H Q _ => ∃ (p dx nl : Addr), vs = [.ref p, .ref nl] ∧ H p = some (.ins CW dx []) ∧
  ∀ (H' : Hp) (pc ps : Addr), H pc = none → H ps = none → Mv p H H' → H' p = some (.ins CW dx (workF startM nl pc ps)) → H' pc = some (.dK []) → H' ps = some (.lst []) → Q .non H'
theorem ok_Work_init : FnOk P w K mg base CX0 1 T.f_Work_init T.fd_Work_init ["self", "numbers"] (sp_Work_init K T.C_Work) := by
  refine T.F_Work_init.ok sc_Work_init (fun vs H Q E h => ?_) (fun cdv A outer s H vs Q E hr h => ?_)
  · obtain ⟨p, dx, nl, rfl, _⟩ := h
    rfl
  · obtain ⟨p, dx, nl, rfl, hp, q⟩ := h
    refine ⟨_, (pss_cons (ps_fld (pv 0) (pv 1) rfl)
    (pss_cons (ps_fld (pv 0) (pe_un un_neg pe_int) rfl)
    (pss_cons (ps_fld (pv 0) pe_int rfl)
    (pss_cons (ps_fld (pv 0) pe_bl rfl)
    (pss_cons (ps_fld (pv 0) pe_bl rfl)
    (pss_cons (ps_fld (pv 0) pe_bl rfl)
    (pss_cons (ps_fld (pv 0) (pe_glob (v := .int 2) (by rfl) T.c_MODE_ANYWAY ⟨_, rfl⟩) rfl)
    (pss_cons (ps_fld (pv 0) pe_int rfl)
    (pss_cons (ps_fld (pv 0) pe_int rfl)
    (pss_cons (ps_fld (pv 0) pe_dnewK rfl)
    (pss_cons (ps_fld (pv 0) pe_int rfl)
    (pss_cons (ps_fld (pv 0) (pe_lst pa_nil) rfl)
    (pss_one (ps_fld (pv 0) pe_bl rfl)))))))))))))), ?_⟩
    refine go_seq (go_sfld (go_var rfl (set_end (K := K) rfl hp (Mv.refl p H) T.cl_Work T.na_Work_numbers (by show 0 < 1000; decide) fun H0 m0 h0 => ?_)))
    dsimp only
    refine go_seq (go_sfld ⟨_, rfl, set_end (K := K) rfl h0 (m0) T.cl_Work T.na_Work_block (by show 1 < 1000; decide) fun H1 m1 h1 => ?_⟩)
    dsimp only
    refine go_seq (go_sfld (set_end (K := K) rfl h1 (m1) T.cl_Work T.na_Work_room (by show 2 < 1000; decide) fun H2 m2 h2 => ?_))
    dsimp only
    refine go_seq (go_sfld (set_end (K := K) rfl h2 (m2) T.cl_Work T.na_Work_tick (by show 3 < 1000; decide) fun H3 m3 h3 => ?_))
    dsimp only
    refine go_seq (go_sfld (set_end (K := K) rfl h3 (m3) T.cl_Work T.na_Work_flag (by show 4 < 1000; decide) fun H4 m4 h4 => ?_))
    dsimp only
    refine go_seq (go_sfld (set_end (K := K) rfl h4 (m4) T.cl_Work T.na_Work_test (by show 5 < 1000; decide) fun H5 m5 h5 => ?_))
    dsimp only
    refine go_seq (go_sfld (set_end (K := K) rfl h5 (m5) T.cl_Work T.na_Work_mode (by show 6 < 1000; decide) fun H6 m6 h6 => ?_))
    dsimp only
    refine go_seq (go_sfld (set_end (K := K) rfl h6 (m6) T.cl_Work T.na_Work_first (by show 7 < 1000; decide) fun H7 m7 h7 => ?_))
    dsimp only
    refine go_seq (go_sfld (set_end (K := K) rfl h7 (m7) T.cl_Work T.na_Work_second (by show 8 < 1000; decide) fun H8 m8 h8 => ?_))
    dsimp only
    refine go_seq (go_sfld fun pc npc => set_end (K := K) rfl (same_new npc _ _ h8) (Mv.refl p _) T.cl_Work T.na_Work_cells (by show 9 < 1000; decide) fun H9 m9 h9 => ?_)
    have pcp : pc ≠ p := fun e => by
      rw [e, h8] at npc
      cases npc
    have c9 := m9 _ _ pcp (upd_same (H := H8) (a := pc) (o := HO.dK []))
    have t9 : Mv p H H9 := m8.trans ((Mv.of (same_new npc)).trans m9)
    have n0 := m8.none pcp npc
    clear m9
    dsimp only
    refine go_seq (go_sfld (set_end (K := K) rfl h9 (Mv.refl p _) T.cl_Work T.na_Work_heard (by show 10 < 1000; decide) fun H10 m10 h10 => ?_))
    have c10 := m10 _ _ pcp c9
    have t10 := t9.trans m10
    dsimp only
    refine go_seq (go_sfld (go_lst (go_nil ⟨Nat.zero_le _, fun ps nps => set_end (K := K) rfl (same_new nps _ _ h10) (Mv.refl p _) T.cl_Work T.na_Work_said (by show 11 < 1000; decide) fun H11 m11 h11 => ?_⟩)))
    have psp : ps ≠ p := fun e => by
      rw [e, h10] at nps
      cases nps
    have s11 := m11 _ _ psp (upd_same (H := H10) (a := ps) (o := HO.lst []))
    have c11 := m11 _ _ pcp (same_new nps _ _ c10)
    have t11 : Mv p H H11 := t10.trans ((Mv.of (same_new nps)).trans m11)
    have n1 := t10.none psp nps
    dsimp only
    exact go_sfld (set_end (K := K) rfl h11 (Mv.refl p _) T.cl_Work T.na_Work_is_done (by show 12 < 1000; decide) fun H12 m12 h12 => q H12 pc ps n0 n1 (t11.trans m12) h12 (m12 _ _ pcp c11) (m12 _ _ psp s11))
end
end K28
namespace K28
open PySem PySem.Spec PyProof.Rows L2 Kx SX LamX Ms
section
variable {P : Program} {w : World} {K : PySem.W.Frag} {mg : Str → Option Value} {base : Heap} (T : Tx K mg)
/-- a part of a stand, and whether it fits -/
def TbL (H : Hp) (vs : List V) (ps : List (Str × Bool)) : Prop := vs.length = ps.length ∧ ∀ (i : Nat) (v : V), vs[i]? = some v → ∃ (t : Addr) (nm : Str) (b : Bool), v = .ref t ∧ H t = some (.tup [.str nm, .bl b]) ∧ ps[i]? = some (nm, b)
theorem TbL.same {H H' : Hp} {vs : List V} {ps : List (Str × Bool)} (h : TbL H vs ps) (e : Same H H') : TbL H' vs ps := ⟨h.1, fun i v hv => by
  obtain ⟨t, nm, b, h1, h2, h3⟩ := h.2 i v hv
  exact ⟨t, nm, b, h1, e _ _ h2, h3⟩⟩
theorem TbL.nil {H : Hp} : TbL H [] [] := ⟨rfl, fun i v h => by simp at h⟩
theorem TbL.app {H H' : Hp} {vs : List V} {ps : List (Str × Bool)} {t : Addr} {nm : Str} {b : Bool} (h : TbL H vs ps) (e : Same H H') (k : H' t = some (.tup [.str nm, .bl b])) : TbL H' (vs ++ [.ref t]) (ps ++ [(nm, b)]) := by
  refine ⟨by rw [List.length_append, List.length_append, h.1]; rfl, fun i v hv => ?_⟩
  by_cases hi : i < vs.length
  · rw [List.getElem?_append_left hi] at hv
    obtain ⟨t, nm, b, h1, h2, h3⟩ := h.2 i v hv
    exact ⟨t, nm, b, h1, e _ _ h2, by rw [List.getElem?_append_left (by rw [← h.1]; exact hi)]; exact h3⟩
  · rw [List.getElem?_append_right (by omega)] at hv
    obtain ⟨j, hj⟩ : ∃ j, i - vs.length = j := ⟨_, rfl⟩
    rw [hj] at hv
    cases j with
    | succ j => simp at hv
    | zero =>
      cases hv
      exact ⟨t, nm, b, rfl, k, by rw [List.getElem?_append_right (by rw [← h.1]; omega), ← h.1, hj]; rfl⟩
def standV (s : Mst) (c sd : Addr) : List V := [.int s.block, .int s.room, .bl s.tick, .bl s.flag, .bl s.test, .int s.mode, .int s.first, .int s.second, .ref c, .int (s.heard : Nat), .ref sd, .bl s.isd]
/-- what a stand is made of -/
structure MadeS (K : PySem.W.Frag) (H : Hp) (s : Mst) (c sd : Addr) (l : List (Int × Int)) : Prop where
  cat : PairsQ K H c l
  isC : IsC l s.cells
  len : l.length ≤ 90000
  sat : SqQ K H sd (s.said.map V.int)
  sln : s.said.length ≤ 90000
  low : -1 ≤ s.block
  mode : 0 ≤ s.mode ∧ s.mode ≤ 2
theorem MadeS.same {H H' : Hp} {s : Mst} {c sd : Addr} {l : List (Int × Int)} (h : MadeS K H s c sd l) (e : Same H H') : MadeS K H' s c sd l := { h with cat := h.cat.same e, sat := Same.q e h.sat }
def FitsV (K : PySem.W.Frag) (H : Hp) (x0 x1 x2 x3 x4 x5 x6 x7 x8 x9 x10 x11 : V) (b0 b1 b2 b3 b4 b5 b6 b7 b8 b9 b10 b11 : Bool) : Prop := (HasInt K H x0 ∧ withinV x0 (some (-1)) none = b0) ∧ (HasInt K H x1 ∧ isIntV x1 = b1) ∧ (∃ n : String, TyX K H x2 (.type n) ∧ kitB n "bool" = some b2) ∧ (∃ n : String, TyX K H x3 (.type n) ∧ kitB n "bool" = some b3) ∧ (∃ n : String, TyX K H x4 (.type n) ∧ kitB n "bool" = some b4) ∧ (HasInt K H x5 ∧ withinV x5 (some 0) (some 2) = b5) ∧ (HasInt K H x6 ∧ isIntV x6 = b6) ∧ (HasInt K H x7 ∧ isIntV x7 = b7) ∧ CellsV K H x8 b8 ∧ (HasInt K H x9 ∧ withinV x9 (some 0) none = b9) ∧ IntsV K H x10 b10 ∧ (∃ n : String, TyX K H x11 (.type n) ∧ kitB n "bool" = some b11)
def partN : List Str := ["block", "room", "tick", "flag", "test", "mode", "first", "second", "cells", "heard", "said", "is_done"]
/-- the first part that does not fit -/
def FirstNo (bs : List Bool) (nm : Str) : Prop := ∃ k, k < 12 ∧ partN[k]? = some nm ∧ bs[k]? = some false ∧ ∀ j, j < k → bs[j]? = some true
theorem fits_good {H : Hp} {s : Mst} {c sd : Addr} {l : List (Int × Int)} (hM : MadeS K H s c sd l) : FitsV K H (.int s.block) (.int s.room) (.bl s.tick) (.bl s.flag) (.bl s.test) (.int s.mode) (.int s.first) (.int s.second) (.ref c) (.int (s.heard : Nat)) (.ref sd) (.bl s.isd) true true true true true true true true true true true true := by
  have m0 := hM.mode
  refine ⟨⟨hasInt_int _, ?_⟩, ⟨hasInt_int _, rfl⟩, ⟨"bool", .base (.bl _), by decide +kernel⟩, ⟨"bool", .base (.bl _), by decide +kernel⟩, ⟨"bool", .base (.bl _), by decide +kernel⟩, ⟨hasInt_int _, ?_⟩, ⟨hasInt_int _, rfl⟩, ⟨hasInt_int _, rfl⟩, .inr (.inr ⟨c, l, rfl, hM.cat, hM.len, fun p m => ((hM.isC.mem p.1 p.2).mp m).2, (chain_up hM.isC.up).symm⟩), ⟨hasInt_int _, ?_⟩, intsV_of hM.sat (Nat.le_trans hM.sln (by decide)), ⟨"bool", .base (.bl _), by decide +kernel⟩⟩
  · show (decide ((-1 : Int) ≤ s.block) && true) = true
    rw [decide_eq_true hM.low]
    rfl
  · show (decide ((0 : Int) ≤ s.mode) && decide (s.mode ≤ 2)) = true
    rw [decide_eq_true m0.1, decide_eq_true m0.2]
    rfl
  · show (decide ((0 : Int) ≤ (s.heard : Int)) && true) = true
    rw [decide_eq_true (Int.natCast_nonneg _)]
    rfl
def sp_Stand_init (K : PySem.W.Frag) (CS EM : Addr) : Sp := fun vs H Q E => ∃ (p dx : Addr) (x0 x1 x2 x3 x4 x5 x6 x7 x8 x9 x10 x11 : V) (b0 b1 b2 b3 b4 b5 b6 b7 b8 b9 b10 b11 : Bool), vs = [.ref p, x0, x1, x2, x3, x4, x5, x6, x7, x8, x9, x10, x11] ∧ H p = some (.ins CS dx []) ∧ FitsV K H x0 x1 x2 x3 x4 x5 x6 x7 x8 x9 x10 x11 b0 b1 b2 b3 b4 b5 b6 b7 b8 b9 b10 b11 ∧
  ((∃ (c sd : Addr) (s : Mst) (l : List (Int × Int)), [x0, x1, x2, x3, x4, x5, x6, x7, x8, x9, x10, x11] = standV s c sd ∧ (∀ b ∈ [b0, b1, b2, b3, b4, b5, b6, b7, b8, b9, b10, b11], b = true) ∧ MadeS K H s c sd l ∧ ∀ H' t u, Mv p H H' → StandAt K CS H' p s l dx t u → Q .non H') ∨
    ∃ nm, FirstNo [b0, b1, b2, b3, b4, b5, b6, b7, b8, b9, b10, b11] nm ∧ RaisedPart E EM H nm)
theorem ok_Stand_init : FnOk P w K mg base (L2.CX P w) 5 T.f_Stand_init T.fd_Stand_init ["self", "block", "room", "tick", "flag", "test", "mode", "first", "second", "cells", "heard", "said", "is_done"] (sp_Stand_init K T.C_Stand T.e_BadMachine.C) := by
  refine T.F_Stand_init.okX sc_Stand_init (fun vs H Q E h => ?_) (fun cdv A outer s H vs Q E hr h => ?_)
  · obtain ⟨p, dx, x0, x1, x2, x3, x4, x5, x6, x7, x8, x9, x10, x11, b0, b1, b2, b3, b4, b5, b6, b7, b8, b9, b10, b11, rfl, _⟩ := h
    rfl
  · obtain ⟨p, dx, x0, x1, x2, x3, x4, x5, x6, x7, x8, x9, x10, x11, b0, b1, b2, b3, b4, b5, b6, b7, b8, b9, b10, b11, rfl, hp, ⟨f0, f1, f2, f3, f4, f5, f6, f7, f8, f9, f10, f11⟩, h⟩ := h
    refine ⟨_, (pss_cons (ps_for (passes_of rfl) rfl (pi_tup (pe_tup (pa_cons (pe_tup (pa_cons pe_str (pa_cons (pe_call (ok_is_within T) (hr.mono (by decide)) (by rfl) T.g_is_within T.F_is_within.kp T.b_is_within .nil pass0 (pa_cons (pv 1) (pa_cons (pe_un un_neg pe_int) (pa_cons pe_non pa_nil)))) pa_nil))) (pa_cons (pe_tup (pa_cons pe_str (pa_cons (pe_call (ok_is_integer T) (hr.mono (by decide)) (by rfl) T.g_is_integer T.F_is_integer.kp T.b_is_integer .nil pass0 (pa_cons (pv 2) pa_nil)) pa_nil))) (pa_cons (pe_tup (pa_cons pe_str (pa_cons (pe_call (ok_is_truth T) (hr.mono (by decide)) (by rfl) T.g_is_truth T.F_is_truth.kp T.b_is_truth .nil pass0 (pa_cons (pv 3) pa_nil)) pa_nil))) (pa_cons (pe_tup (pa_cons pe_str (pa_cons (pe_call (ok_is_truth T) (hr.mono (by decide)) (by rfl) T.g_is_truth T.F_is_truth.kp T.b_is_truth .nil pass0 (pa_cons (pv 4) pa_nil)) pa_nil))) (pa_cons (pe_tup (pa_cons pe_str (pa_cons (pe_call (ok_is_truth T) (hr.mono (by decide)) (by rfl) T.g_is_truth T.F_is_truth.kp T.b_is_truth .nil pass0 (pa_cons (pv 5) pa_nil)) pa_nil))) (pa_cons (pe_tup (pa_cons pe_str (pa_cons (pe_call (ok_is_within T) (hr.mono (by decide)) (by rfl) T.g_is_within T.F_is_within.kp T.b_is_within .nil pass0 (pa_cons (pv 6) (pa_cons pe_int (pa_cons pe_int pa_nil)))) pa_nil))) (pa_cons (pe_tup (pa_cons pe_str (pa_cons (pe_call (ok_is_integer T) (hr.mono (by decide)) (by rfl) T.g_is_integer T.F_is_integer.kp T.b_is_integer .nil pass0 (pa_cons (pv 7) pa_nil)) pa_nil))) (pa_cons (pe_tup (pa_cons pe_str (pa_cons (pe_call (ok_is_integer T) (hr.mono (by decide)) (by rfl) T.g_is_integer T.F_is_integer.kp T.b_is_integer .nil pass0 (pa_cons (pv 8) pa_nil)) pa_nil))) (pa_cons (pe_tup (pa_cons pe_str (pa_cons (pe_call (ok_are_cells T) (hr.mono (by decide)) (by rfl) T.g_are_cells T.F_are_cells.kp T.b_are_cells .nil pass0 (pa_cons (pv 9) pa_nil)) pa_nil))) (pa_cons (pe_tup (pa_cons pe_str (pa_cons (pe_call (ok_is_within T) (hr.mono (by decide)) (by rfl) T.g_is_within T.F_is_within.kp T.b_is_within .nil pass0 (pa_cons (pv 10) (pa_cons pe_int (pa_cons pe_non pa_nil)))) pa_nil))) (pa_cons (pe_tup (pa_cons pe_str (pa_cons (pe_call (ok_are_integers T) (hr.mono (by decide)) (by rfl) T.g_are_integers T.F_are_integers.kp T.b_are_integers .nil pass0 (pa_cons (pv 11) pa_nil)) pa_nil))) (pa_cons (pe_tup (pa_cons pe_str (pa_cons (pe_call (ok_is_truth T) (hr.mono (by decide)) (by rfl) T.g_is_truth T.F_is_truth.kp T.b_is_truth .nil pass0 (pa_cons (pv 12) pa_nil)) pa_nil))) pa_nil)))))))))))))) (pg_tup rfl (pgs_cons (pg_name (i := 13) sc_Stand_init.nd rfl (.inl rfl)) (pgs_cons (pg_name (i := 14) sc_Stand_init.nd rfl (.inl rfl)) pgs_nil)))
      (pss_one (ps_if (pt_not (pt_val (pv 14)))
        (pss_one (ps_raise rfl (takes_of rfl rfl rfl rfl) (pmk_oex T.e_BadMachine.oex T.e_BadMachine.iC T.e_BadMachine.tI (ok_init T.e_BadMachine in_BadMachine) (hr.mono (by decide)) T.e_BadMachine.b .nil pass0 (by rfl) T.e_BadMachine.gC (pa_cons (pv 13) pa_nil))))
        pss_nil)))
    (pss_cons (ps_fld (pv 0) (pv 1) rfl)
    (pss_cons (ps_fld (pv 0) (pv 2) rfl)
    (pss_cons (ps_fld (pv 0) (pv 3) rfl)
    (pss_cons (ps_fld (pv 0) (pv 4) rfl)
    (pss_cons (ps_fld (pv 0) (pv 5) rfl)
    (pss_cons (ps_fld (pv 0) (pv 6) rfl)
    (pss_cons (ps_fld (pv 0) (pv 7) rfl)
    (pss_cons (ps_fld (pv 0) (pv 8) rfl)
    (pss_cons (ps_fld (pv 0) (pe_callTy call_tuple_of (by rfl) T.m_tuple (by decide +kernel) (pa_cons (pe_lc (own := [("pair", 15)]) rfl sc_Stand_init.nd (pi_seq (pv 9)) (blkOk_by (own := [("pair", 15)]) (N := ["self", "block", "room", "tick", "flag", "test", "mode", "first", "second", "cells", "heard", "said", "is_done", "part", "fits", "pair"]) (sc := defScope s_Stand_init) (by decide +kernel)) (fun _ _ _ _ _ => (pg_name (i := 15) sc_Stand_init.nd rfl (.inl rfl))) (fun _ _ _ _ _ => pts_nil) (fun _ _ _ _ _ => (pe_callTy (inK_call_tuple_of (K := K) rfl) (by rfl) T.m_tuple (by decide +kernel) (pa_cons (pv 15) pa_nil)))) pa_nil)) rfl)
    (pss_cons (ps_fld (pv 0) (pv 10) rfl)
    (pss_cons (ps_fld (pv 0) (pe_callTy call_tuple_of (by rfl) T.m_tuple (by decide +kernel) (pa_cons (pv 11) pa_nil)) rfl)
    (pss_one (ps_fld (pv 0) (pv 12) rfl)))))))))))))), ?_⟩
    have e0 := Same.refl H
    have A := TbL.nil (H := H)
    refine go_seq ?_
    generalize hD : Ends.mk _ _ _ _ = D0
    dsimp only [tFor, iTup]
    refine go_tup ?_
    refine go_cons (go_tup (go_cons (go_c (go_cons ?_))))
    refine ⟨_, rfl, _, rfl, x0, (some (-1)), none, rfl, f0.1.same e0, ?_⟩
    rw [f0.2]
    refine go_nil ⟨sz2, fun t1 n1 => ?_⟩
    have s1 := same_new (o := HO.tup [V.str "block", V.bl b0]) n1
    replace A := A.app s1 (upd_same (H := H) (a := t1) (o := HO.tup [V.str "block", V.bl b0]))
    have e1 := e0.trans s1
    clear e0 n1
    generalize upd _ t1 (HO.tup [V.str "block", V.bl b0]) = H1 at A s1 e1 ⊢
    clear s1
    refine go_cons (go_tup (go_cons (go_c (go_cons ?_))))
    obtain ⟨n1', k1a, k1b, k1t, k11, k12, k1e⟩ := f1.1
    refine ⟨_, rfl, x1, n1', k1a, k1b, rfl, tyx_same e1 k1t, k11, k12, ?_⟩
    rw [k1e, f1.2]
    refine go_nil ⟨sz2, fun t2 n2 => ?_⟩
    have s2 := same_new (o := HO.tup [V.str "room", V.bl b1]) n2
    replace A := A.app s2 (upd_same (H := H1) (a := t2) (o := HO.tup [V.str "room", V.bl b1]))
    have e2 := e1.trans s2
    clear e1 n2
    generalize upd _ t2 (HO.tup [V.str "room", V.bl b1]) = H2 at A s2 e2 ⊢
    clear s2
    refine go_cons (go_tup (go_cons (go_c (go_cons ?_))))
    obtain ⟨n2', k2t, k21⟩ := f2
    refine ⟨_, rfl, x2, n2', b2, rfl, tyx_same e2 k2t, k21, ?_⟩
    refine go_nil ⟨sz2, fun t3 n3 => ?_⟩
    have s3 := same_new (o := HO.tup [V.str "tick", V.bl b2]) n3
    replace A := A.app s3 (upd_same (H := H2) (a := t3) (o := HO.tup [V.str "tick", V.bl b2]))
    have e3 := e2.trans s3
    clear e2 n3
    generalize upd _ t3 (HO.tup [V.str "tick", V.bl b2]) = H3 at A s3 e3 ⊢
    clear s3
    refine go_cons (go_tup (go_cons (go_c (go_cons ?_))))
    obtain ⟨n3', k3t, k31⟩ := f3
    refine ⟨_, rfl, x3, n3', b3, rfl, tyx_same e3 k3t, k31, ?_⟩
    refine go_nil ⟨sz2, fun t4 n4 => ?_⟩
    have s4 := same_new (o := HO.tup [V.str "flag", V.bl b3]) n4
    replace A := A.app s4 (upd_same (H := H3) (a := t4) (o := HO.tup [V.str "flag", V.bl b3]))
    have e4 := e3.trans s4
    clear e3 n4
    generalize upd _ t4 (HO.tup [V.str "flag", V.bl b3]) = H4 at A s4 e4 ⊢
    clear s4
    refine go_cons (go_tup (go_cons (go_c (go_cons ?_))))
    obtain ⟨n4', k4t, k41⟩ := f4
    refine ⟨_, rfl, x4, n4', b4, rfl, tyx_same e4 k4t, k41, ?_⟩
    refine go_nil ⟨sz2, fun t5 n5 => ?_⟩
    have s5 := same_new (o := HO.tup [V.str "test", V.bl b4]) n5
    replace A := A.app s5 (upd_same (H := H4) (a := t5) (o := HO.tup [V.str "test", V.bl b4]))
    have e5 := e4.trans s5
    clear e4 n5
    generalize upd _ t5 (HO.tup [V.str "test", V.bl b4]) = H5 at A s5 e5 ⊢
    clear s5
    refine go_cons (go_tup (go_cons (go_c (go_cons ?_))))
    refine ⟨_, rfl, x5, (some 0), (some 2), rfl, f5.1.same e5, ?_⟩
    rw [f5.2]
    refine go_nil ⟨sz2, fun t6 n6 => ?_⟩
    have s6 := same_new (o := HO.tup [V.str "mode", V.bl b5]) n6
    replace A := A.app s6 (upd_same (H := H5) (a := t6) (o := HO.tup [V.str "mode", V.bl b5]))
    have e6 := e5.trans s6
    clear e5 n6
    generalize upd _ t6 (HO.tup [V.str "mode", V.bl b5]) = H6 at A s6 e6 ⊢
    clear s6
    refine go_cons (go_tup (go_cons (go_c (go_cons ?_))))
    obtain ⟨n6', k6a, k6b, k6t, k61, k62, k6e⟩ := f6.1
    refine ⟨_, rfl, x6, n6', k6a, k6b, rfl, tyx_same e6 k6t, k61, k62, ?_⟩
    rw [k6e, f6.2]
    refine go_nil ⟨sz2, fun t7 n7 => ?_⟩
    have s7 := same_new (o := HO.tup [V.str "first", V.bl b6]) n7
    replace A := A.app s7 (upd_same (H := H6) (a := t7) (o := HO.tup [V.str "first", V.bl b6]))
    have e7 := e6.trans s7
    clear e6 n7
    generalize upd _ t7 (HO.tup [V.str "first", V.bl b6]) = H7 at A s7 e7 ⊢
    clear s7
    refine go_cons (go_tup (go_cons (go_c (go_cons ?_))))
    obtain ⟨n7', k7a, k7b, k7t, k71, k72, k7e⟩ := f7.1
    refine ⟨_, rfl, x7, n7', k7a, k7b, rfl, tyx_same e7 k7t, k71, k72, ?_⟩
    rw [k7e, f7.2]
    refine go_nil ⟨sz2, fun t8 n8 => ?_⟩
    have s8 := same_new (o := HO.tup [V.str "second", V.bl b7]) n8
    replace A := A.app s8 (upd_same (H := H7) (a := t8) (o := HO.tup [V.str "second", V.bl b7]))
    have e8 := e7.trans s8
    clear e7 n8
    generalize upd _ t8 (HO.tup [V.str "second", V.bl b7]) = H8 at A s8 e8 ⊢
    clear s8
    refine go_cons (go_tup (go_cons (go_c (go_cons ?_))))
    refine ⟨_, rfl, x8, b8, rfl, f8.same e8, fun H9' e9' => ?_⟩
    replace e8 := e8.trans e9'
    replace A := A.same e9'
    clear e9'
    refine go_nil ⟨sz2, fun t9 n9 => ?_⟩
    have s9 := same_new (o := HO.tup [V.str "cells", V.bl b8]) n9
    replace A := A.app s9 (upd_same (H := H9') (a := t9) (o := HO.tup [V.str "cells", V.bl b8]))
    have e9 := e8.trans s9
    clear e8 n9
    generalize upd _ t9 (HO.tup [V.str "cells", V.bl b8]) = H9 at A s9 e9 ⊢
    clear s9
    refine go_cons (go_tup (go_cons (go_c (go_cons ?_))))
    refine ⟨_, rfl, x9, (some 0), none, rfl, f9.1.same e9, ?_⟩
    rw [f9.2]
    refine go_nil ⟨sz2, fun t10 n10 => ?_⟩
    have s10 := same_new (o := HO.tup [V.str "heard", V.bl b9]) n10
    replace A := A.app s10 (upd_same (H := H9) (a := t10) (o := HO.tup [V.str "heard", V.bl b9]))
    have e10 := e9.trans s10
    clear e9 n10
    generalize upd _ t10 (HO.tup [V.str "heard", V.bl b9]) = H10 at A s10 e10 ⊢
    clear s10
    refine go_cons (go_tup (go_cons (go_c (go_cons ?_))))
    refine ⟨_, rfl, x10, b10, rfl, f10.same e10, fun H11' e11' => ?_⟩
    replace e10 := e10.trans e11'
    replace A := A.same e11'
    clear e11'
    refine go_nil ⟨sz2, fun t11 n11 => ?_⟩
    have s11 := same_new (o := HO.tup [V.str "said", V.bl b10]) n11
    replace A := A.app s11 (upd_same (H := H11') (a := t11) (o := HO.tup [V.str "said", V.bl b10]))
    have e11 := e10.trans s11
    clear e10 n11
    generalize upd _ t11 (HO.tup [V.str "said", V.bl b10]) = H11 at A s11 e11 ⊢
    clear s11
    refine go_cons (go_tup (go_cons (go_c (go_cons ?_))))
    obtain ⟨n11', k11t, k111⟩ := f11
    refine ⟨_, rfl, x11, n11', b11, rfl, tyx_same e11 k11t, k111, ?_⟩
    refine go_nil ⟨sz2, fun t12 n12 => ?_⟩
    have s12 := same_new (o := HO.tup [V.str "is_done", V.bl b11]) n12
    replace A := A.app s12 (upd_same (H := H11) (a := t12) (o := HO.tup [V.str "is_done", V.bl b11]))
    have e12 := e11.trans s12
    clear e11 n12
    generalize upd _ t12 (HO.tup [V.str "is_done", V.bl b11]) = H12 at A s12 e12 ⊢
    clear s12
    obtain ⟨xs, hxs⟩ : ∃ xs, xs = [V.ref t1, V.ref t2, V.ref t3, V.ref t4, V.ref t5, V.ref t6, V.ref t7, V.ref t8, V.ref t9, V.ref t10, V.ref t11, V.ref t12] := ⟨_, rfl⟩
    have A2 : TbL H12 xs [("block", b0), ("room", b1), ("tick", b2), ("flag", b3), ("test", b4), ("mode", b5), ("first", b6), ("second", b7), ("cells", b8), ("heard", b9), ("said", b10), ("is_done", b11)] := by rw [hxs]; exact A
    have lx : xs.length = 12 := by rw [hxs]; rfl
    refine go_nil ⟨show 12 ≤ sizeLine by decide, fun tt nt => ?_⟩
    rw [← hxs]
    have s13 := same_new (o := HO.tup xs) nt
    have e13 := e12.trans s13
    have A3 := A2.same s13
    have htt := upd_same (H := H12) (a := tt) (o := HO.tup xs)
    have hp3 := e13 _ _ hp
    have m3 : Mv p H (upd H12 tt (HO.tup xs)) := Mv.of e13
    clear A A2 hxs e12 nt s13
    generalize upd H12 tt (HO.tup xs) = H13 at A3 htt hp3 m3 e13 ⊢
    rcases h with ⟨c, sd, s, l, hv, hb, hM, q⟩ | ⟨nm, ⟨k, k12, kn, kb, kj⟩, hE⟩
    · unfold standV at hv
      simp only [List.cons.injEq, and_true] at hv
      obtain ⟨rfl, rfl, rfl, rfl, rfl, rfl, rfl, rfl, rfl, rfl, rfl, rfl⟩ := hv
      refine ⟨tt, rfl, ⟨_, .inl (.inl htt)⟩, for_tup (fun i σ H' => H' = H13 ∧ ∃ (o13 o14 o15 : Option V), σ = [some (.ref p), some (.int s.block), some (.int s.room), some (.bl s.tick), some (.bl s.flag), some (.bl s.test), some (.int s.mode), some (.int s.first), some (.int s.second), some (.ref c), some (.int (s.heard : Nat)), some (.ref sd), some (.bl s.isd), o13, o14, o15]) ⟨rfl, none, none, none, rfl⟩ (fun i σ' H' _ h => by rw [h.1]; exact .inl (.inl htt)) (fun i v σ' Hd hv h => ?_) (fun σ' Hd h => ?_)⟩
      · obtain ⟨rfl, o13, o14, o15, rfl⟩ := h
        obtain ⟨t, nm, b, rfl, ht, hps⟩ := A3.2 i v hv
        have bt : b = true := by
          refine hb b ?_
          have := List.mem_map_of_mem (f := Prod.snd) (List.mem_of_getElem? hps)
          simpa using this
        subst bt
        refine ⟨t, _, rfl, .inl (.inl ht), rfl, _, _, rfl, _, _, rfl, rfl, ?_⟩
        refine go_if (go_not (go_b (go_var rfl ⟨_, rfl, iteF (A := _) ?_⟩)))
        exact ⟨rfl, _, _, _, rfl⟩
      · obtain ⟨rfl, o13, o14, o15, rfl⟩ := h
        subst hD
        dsimp only
        refine go_seq (go_sfld (go_var rfl (set_end (K := K) rfl hp3 m3 T.cl_Stand T.na_Stand_block (by show 0 < 1000; decide) fun G0 m20 h0 => ?_)))
        dsimp only
        refine go_seq (go_sfld (go_var rfl (set_end (K := K) rfl h0 m20 T.cl_Stand T.na_Stand_room (by show 1 < 1000; decide) fun G1 m21 h1 => ?_)))
        dsimp only
        refine go_seq (go_sfld (go_var rfl (set_end (K := K) rfl h1 m21 T.cl_Stand T.na_Stand_tick (by show 2 < 1000; decide) fun G2 m22 h2 => ?_)))
        dsimp only
        refine go_seq (go_sfld (go_var rfl (set_end (K := K) rfl h2 m22 T.cl_Stand T.na_Stand_flag (by show 3 < 1000; decide) fun G3 m23 h3 => ?_)))
        dsimp only
        refine go_seq (go_sfld (go_var rfl (set_end (K := K) rfl h3 m23 T.cl_Stand T.na_Stand_test (by show 4 < 1000; decide) fun G4 m24 h4 => ?_)))
        dsimp only
        refine go_seq (go_sfld (go_var rfl (set_end (K := K) rfl h4 m24 T.cl_Stand T.na_Stand_mode (by show 5 < 1000; decide) fun G5 m25 h5 => ?_)))
        dsimp only
        refine go_seq (go_sfld (go_var rfl (set_end (K := K) rfl h5 m25 T.cl_Stand T.na_Stand_first (by show 6 < 1000; decide) fun G6 m26 h6 => ?_)))
        dsimp only
        refine go_seq (go_sfld (go_var rfl (set_end (K := K) rfl h6 m26 T.cl_Stand T.na_Stand_second (by show 7 < 1000; decide) fun G7 m27 h7 => ?_)))
        dsimp only
        clear h0 h1 h2 h3 h4 h5 h6 m20 m21 m22 m23 m24 m25 m26 A3 htt hp3 m3 e13 lx
        obtain ⟨ps, c1, c2⟩ := hM.cat.mv hp (fun _ z => by cases z) (fun _ z => by cases z) (fun _ _ z => by cases z) m27
        have lc2 : ps.length = l.length := c2.length
        have lln := hM.len
        have sln := hM.sln
        refine go_seq (go_sfld (go_cb (go_cons (lc_seqit (TupsP K G7 l) (by exact rfl) c1 (fun D nD => TupsP.new nD) (fun D i Hc nD h => h.choose_spec.2.2) (fun D i x Hc nD hx h => ?_) (fun D Hc nD h => ?_)))))
        · obtain ⟨q0, p0, rfl, k1, k2⟩ := pq_get c2 hx
          have k3 := Same.q h.choose_spec.2.2 k2
          refine ⟨rfl, ?_⟩
          refine iteT (B := True) ?_
          rcases k3 with k3 | k3
          · exact ⟨_, rfl, q0, _, rfl, .inl ⟨k3, fun t nt => h.app nD k1 (same_new nt) (.inl (.inl upd_same)) (by omega)⟩⟩
          · exact ⟨_, rfl, q0, _, rfl, .inr ⟨k3, h.app nD k1 (Same.refl _) k3 (by omega)⟩⟩
        obtain ⟨qs, g1, g2, g3⟩ := h
        rw [List.length_map, lc2, List.take_length] at g2
        refine go_nil ⟨D, _, rfl, .inl ⟨.inl (.inl g1), fun t nt => ?_⟩⟩
        have st := same_new (o := HO.tup (qs.map V.ref)) nt
        have hT : PairsT K (upd Hc t (.tup (qs.map V.ref))) t l := ⟨qs, .inl (.inl upd_same), Paired.mapP g2 fun _ _ z => Same.t st z⟩
        have h8 := (g3.trans st) _ _ h7
        have m28 := m27.trans (Mv.of (g3.trans st))
        generalize upd Hc t (.tup (qs.map V.ref)) = G8 at hT h8 m28 ⊢
        clear st nt g1 g2 g3 nD c1 c2 lc2 h7 m27
        refine set_end (K := K) rfl h8 (Mv.refl p _) T.cl_Stand T.na_Stand_cells (by show 8 < 1000; decide) fun G9 m29 h9 => ?_
        have hT9 := hT.mv h8 (fun _ z => by cases z) (fun _ _ z => by cases z) m29
        have m30 := m28.trans m29
        clear h8 hT m28 m29
        dsimp only
        refine go_seq (go_sfld (go_var rfl (set_end (K := K) rfl h9 (Mv.refl p _) T.cl_Stand T.na_Stand_heard (by show 9 < 1000; decide) fun G10 m31 h10 => ?_)))
        have hT10 := hT9.mv h9 (fun _ z => by cases z) (fun _ _ z => by cases z) m31
        have m32 := m30.trans m31
        clear h9 hT9 m30 m31
        dsimp only
        have fin : ∀ (u : Addr) (Hx : Hp), Same G10 Hx → SqT K Hx u (s.said.map V.int) → (tVar 0) [some (.ref p), some (.int s.block), some (.int s.room), some (.bl s.tick), some (.bl s.flag), some (.bl s.test), some (.int s.mode), some (.int s.first), some (.int s.second), some (.ref c), some (.int (s.heard : Nat)), some (.ref sd), some (.bl s.isd), o13, o14, o15] Hx fun x H2 => ∃ a C dx fs, x = .ref a ∧ H2 a = some (.ins C dx fs) ∧ Cls K C ∧ NoAttr K C "said" ∧ fs.length < 1000 ∧ sFld K (tVar 0) (tVar 12) "is_done" { nx := fun x H' => Q V.non H', rt := Q } [some (.ref p), some (.int s.block), some (.int s.room), some (.bl s.tick), some (.bl s.flag), some (.bl s.test), some (.int s.mode), some (.int s.first), some (.int s.second), some (.ref c), some (.int (s.heard : Nat)), some (.ref sd), some (.bl s.isd), o13, o14, o15] (upd H2 a (.ins C dx (putF "said" (.ref u) fs))) := fun u Hx ex hu => by
          have h11 := ex _ _ h10
          refine set_end (K := K) (D := { nx := fun σ H => sFld K (tVar 0) (tVar 12) "is_done" { nx := fun x H' => Q V.non H', rt := Q } σ H, rt := Q }) rfl h11 (Mv.refl p _) T.cl_Stand T.na_Stand_said (by show 10 < 1000; decide) fun G11 m33 h12 => ?_
          refine go_sfld (go_var rfl (set_end (K := K) rfl h12 (Mv.refl p _) T.cl_Stand T.na_Stand_is_done (by show 11 < 1000; decide) fun G12 m34 h13 => ?_))
          have hT11 := ((hT10.same ex).mv h11 (fun _ z => by cases z) (fun _ _ z => by cases z) m33).mv h12 (fun _ z => by cases z) (fun _ _ z => by cases z) m34
          have hu11 := sqT_mv h12 (fun _ z => by cases z) (fun _ _ z => by cases z) m34 (sqT_mv h11 (fun _ z => by cases z) (fun _ _ z => by cases z) m33 hu)
          exact q G12 t u (m32.trans ((Mv.of ex).trans (m33.trans m34))) ⟨h13, hT11, hu11, hM.isC⟩
        have hs10 := sqQ_mv hp (fun _ z => by cases z) (fun _ z => by cases z) (fun _ _ z => by cases z) m32 hM.sat
        refine go_seq (go_sfld (go_cb (go_cons (go_var rfl (go_nil ?_)))))
        rcases hs10 with hs10 | hs10
        · exact ⟨sd, _, rfl, .inl ⟨hs10, fun u nu => fin u _ (same_new nu) (.inl (.inl upd_same))⟩⟩
        · exact ⟨sd, _, rfl, .inr ⟨hs10, fin sd _ (Same.refl _) hs10⟩⟩
    · refine ⟨tt, rfl, ⟨_, .inl (.inl htt)⟩, for_tup (fun i σ H' => H' = H13 ∧ i ≤ k ∧ ∃ (o13 o14 o15 : Option V), σ = [some (.ref p), some x0, some x1, some x2, some x3, some x4, some x5, some x6, some x7, some x8, some x9, some x10, some x11, o13, o14, o15]) ⟨rfl, Nat.zero_le _, none, none, none, rfl⟩ (fun i σ' H' _ h => by rw [h.1]; exact .inl (.inl htt)) (fun i v σ' Hd hv h => ?_) (fun σ' Hd h => ?_)⟩
      · obtain ⟨rfl, ik, o13, o14, o15, rfl⟩ := h
        obtain ⟨t, nm', b, rfl, ht, hps⟩ := A3.2 i v hv
        have hb2 : [b0, b1, b2, b3, b4, b5, b6, b7, b8, b9, b10, b11][i]? = some b := by
          have := congrArg (Option.map Prod.snd) hps
          rw [← List.getElem?_map] at this
          exact this
        have hn2 : partN[i]? = some nm' := by
          have := congrArg (Option.map Prod.fst) hps
          rw [← List.getElem?_map] at this
          exact this
        refine ⟨t, _, rfl, .inl (.inl ht), rfl, _, _, rfl, _, _, rfl, rfl, ?_⟩
        refine go_if (go_not (go_b (go_var rfl ⟨_, rfl, ?_⟩)))
        by_cases e : i = k
        · subst e
          rw [kb] at hb2
          cases hb2
          rw [kn] at hn2
          cases hn2
          refine iteT (B := _) ?_
          exact ⟨_, rfl, mk_part (σ := []) T.e_BadMachine.oex T.e_BadMachine.np fun d H' e2 hd => hE d H' (e13.trans e2) hd⟩
        · rw [kj i (by omega)] at hb2
          cases hb2
          refine iteF (A := _) ?_
          exact ⟨rfl, by omega, _, _, _, rfl⟩
      · obtain ⟨_, h, _⟩ := h
        omega
end
end K28
namespace K28
open PySem PySem.Spec PyProof.Rows L2 Kx SX LamX Ms
section
variable {P : Program} {w : World} {K : PySem.W.Frag} {mg : Str → Option Value} {base : Heap} (T : Tx K mg)
theorem stand_new {E : XK} {CS EM x dx c sd : Addr} {H : Hp} {s : Mst} {l : List (Int × Int)} {P : VK} (nx : H x = none) (ndx : H dx = none) (hM : MadeS K H s c sd l)
    (q : ∀ H' t u, Same H H' → StandAt K CS H' x s l dx t u → P .non H') : sp_Stand_init K CS EM (.ref x :: standV s c sd) (upd (upd H dx (.own x)) x (.ins CS dx [])) P E := by
  have s1 : Same H (upd (upd H dx (.own x)) x (.ins CS dx [])) := fun b u h => by
    rw [upd_ne (ne_of_none h nx), upd_ne (ne_of_none h ndx)]
    exact h
  exact ⟨x, dx, _, _, _, _, _, _, _, _, _, _, _, _, true, true, true, true, true, true, true, true, true, true, true, true, rfl, upd_same, fits_good (hM.same s1), .inl ⟨c, sd, s, l, rfl, by simp, hM.same s1, fun H' t u m hS => q H' t u (fun b u h => m b u (ne_of_none h nx) (s1 _ _ h)) hS⟩⟩
def sp_stand_of (K : PySem.W.Frag) (CW CS : Addr) : Sp := fun vs H Q _ => ∃ (w nl : Addr) (ns : List Int) (s : Mst) (m : Nat) (dx pc ps : Addr) (es : List (Int × Int)) (H0 : Hp), vs = [.ref w] ∧ WorkAt K CW H0 H w nl ns s m dx pc ps es ∧ m ≤ 90000 ∧ -1 ≤ s.block ∧ (0 ≤ s.mode ∧ s.mode ≤ 2) ∧
  ∀ (p : Addr) (l : List (Int × Int)) (dx t u : Addr) (H' : Hp), l.length ≤ m → StandAt K CS H' p s l dx t u → Same H H' → Q (.ref p) H'
theorem ok_stand_of : FnOk P w K mg base CX0 7 T.f_stand_of T.fd_stand_of ["work"] (sp_stand_of K T.C_Work T.C_Stand) := by
  refine T.F_stand_of.ok sc_stand_of (fun vs H Q E h => ?_) (fun cdv A outer s H vs Q E hr h => ?_)
  · obtain ⟨w, nl, ns, s, m, dx, pc, ps, es, H0, rfl, _⟩ := h
    rfl
  · obtain ⟨w, nl, ns, s, m, dx, pc, ps, es, H0, rfl, hw, m9, lo, md, q⟩ := h
    refine ⟨_, (pss_one (ps_ret (pe_make T.mk_Stand (ok_Stand_init T) (hr.mono (by decide)) (by rfl) T.gC_Stand T.b_Stand_init .nil passF (pa_cons (pe_fld (pv 0) rfl) (pa_cons (pe_fld (pv 0) rfl) (pa_cons (pe_fld (pv 0) rfl) (pa_cons (pe_fld (pv 0) rfl) (pa_cons (pe_fld (pv 0) rfl) (pa_cons (pe_fld (pv 0) rfl) (pa_cons (pe_fld (pv 0) rfl) (pa_cons (pe_fld (pv 0) rfl) (pa_cons (pe_callB cr_sortedPO (by rfl) T.m_sorted (by decide +kernel) (pa_cons (pe_lock (pe_lc (own := [("place", 1)]) rfl sc_stand_of.nd (pi_keys (pe_fld (pv 0) rfl)) (blkOk_by (own := [("place", 1)]) (N := ["work", "place"]) (sc := defScope s_stand_of) (by decide +kernel)) (fun _ _ _ _ _ => (pg_name (i := 1) sc_stand_of.nd rfl (.inl rfl))) (fun _ _ _ _ _ => pts_nil) (fun _ _ _ _ _ => (pe_tup (pa_cons (pv 1) (pa_cons (pe_dget (Nat.lt_of_le_of_lt (Nat.add_le_add_left (show 1 ≤ 64 by decide) _) hr.units) (inK_pe_fld (K := K) rfl (pv 0) rfl) (pv 1) (fun _ _ => rfl)) pa_nil)))))) pa_nil)) (pa_cons (pe_fld (pv 0) rfl) (pa_cons (pe_fld (pv 0) rfl) (pa_cons (pe_fld (pv 0) rfl) pa_nil))))))))))))))), ?_⟩
    refine go_ret (go_make ?_)
    refine go_cons (rdW (K := K) rfl hw T.cl_Work T.na_Work_block rfl (go_cons (rdW (K := K) rfl hw T.cl_Work T.na_Work_room rfl (go_cons (rdW (K := K) rfl hw T.cl_Work T.na_Work_tick rfl (go_cons (rdW (K := K) rfl hw T.cl_Work T.na_Work_flag rfl (go_cons (rdW (K := K) rfl hw T.cl_Work T.na_Work_test rfl (go_cons (rdW (K := K) rfl hw T.cl_Work T.na_Work_mode rfl (go_cons (rdW (K := K) rfl hw T.cl_Work T.na_Work_first rfl (go_cons (rdW (K := K) rfl hw T.cl_Work T.na_Work_second rfl (go_cons (go_cb (go_cons ?_))))))))))))))))))
    refine ⟨pc, _, hw.cat, True.intro, fun od => ?_⟩
    have hwL : upd H pc (.frz od (.dK (kvI es))) w = some (.ins T.C_Work dx (workF s nl pc ps)) := by rw [upd_ne hw.wc.symm]; exact hw.at_
    have cn := hw.cn
    refine ⟨_, rfl, w, T.C_Work, dx, _, .ref pc, rfl, hwL, T.cl_Work, T.na_Work_cells, rfl, pc, od, rfl, .inl ⟨kvI es, upd_same, fun D nD => lc_it walk_keys (PnsP (upd H pc (.frz od (.dK (kvI es)))) es D) (PnsP.new nD) (fun i Hc hi h => h.choose_spec.2.2 _ _ upd_same) (fun i x Hc Hx hi h y => ?_) (fun Hc h => ?_)⟩⟩
    · obtain ⟨rfl, k, v, hkv, rfl⟩ := y
      obtain ⟨p, hp, rfl, rfl⟩ := kvI_get hkv
      have e := h.choose_spec.2.2
      refine ⟨rfl, ?_⟩
      refine iteT (B := True) ?_
      refine iteT (B := _) ?_
      refine go_tup (go_cons ?_)
      refine ⟨_, rfl, ?_⟩
      refine go_cons ?_
      refine ⟨_, rfl, w, T.C_Work, dx, _, .ref pc, rfl, e _ _ hwL, T.cl_Work, T.na_Work_cells, rfl, _, rfl, pc, .int p.2, rfl, .inl ⟨kvI es, .inl p.1, .inr ⟨od, e _ _ upd_same⟩, rfl, kvI_val hw.cl.nd hp⟩, ?_⟩
      refine go_nil ⟨sz2, fun t nt => ?_⟩
      exact h.app nD hp (same_new nt) upd_same (by omega)
    · obtain ⟨ts, hD, hP, e⟩ := h
      rw [kvI_len, List.take_length] at hP
      have hfr := e _ _ (upd_same (H := H) (a := pc) (o := HO.frz od (.dK (kvI es))))
      have s1 := lock_same hw.cat Hc e
      have hDp : D ≠ pc := fun z => by
        rw [z, upd_same] at nD
        cases nD
      have hD1 : upd Hc pc (.dK (kvI es)) D = some (.lst (ts.map V.ref)) := by rw [upd_ne hDp]; exact hD
      have hP1 : Paired (Pn (upd Hc pc (.dK (kvI es)))) ts es := Paired.mapP hP fun t p z => by
        unfold Pn at z ⊢
        rw [upd_ne (ne_of_two z hfr (fun z => by cases z))]
        exact z
      refine ⟨hfr, ?_⟩
      generalize upd Hc pc (.dK (kvI es)) = H1 at s1 hD1 hP1 ⊢
      clear hD hP e hfr nD hDp
      refine go_nil (sorted_cells hP1 hD1 hw.cl.nd hw.cl.mem fun p l us np hC hl hus => ?_)
      have s2 := s1.trans (same_new (o := HO.lst (us.map V.ref)) np)
      have hPQ := pairsQ_of (K := K) hus (same_new (o := HO.lst (us.map V.ref)) np) upd_same
      have hw2 := hw.same s2
      generalize upd H1 p (HO.lst (us.map V.ref)) = H2 at s2 hPQ hw2 ⊢
      have sn := hw.sn
      clear hD1 hP1 hus np s1 hwL
      refine go_cons (rdW (K := K) rfl hw2 T.cl_Work T.na_Work_heard rfl (go_cons (rdW (K := K) rfl hw2 T.cl_Work T.na_Work_said rfl (go_cons (rdW (K := K) rfl hw2 T.cl_Work T.na_Work_is_done rfl (go_nil fun x dx2 nx ndx _ => ?_))))))
      refine stand_new nx ndx (s := s) (c := p) (sd := ps) (l := l) ⟨hPQ, hC, by omega, .inl (.inl (.inl hw2.sat)), by omega, lo, md⟩ fun H' t u e3 hS => ⟨rfl, q x l dx2 t u H' (by omega) hS (s2.trans e3)⟩
end
end K28
namespace K28
open PySem PySem.Spec PyProof.Rows L2 Kx SX LamX Ms
section
variable {P : Program} {w : World} {K : PySem.W.Frag} {mg : Str → Option Value} {base : Heap} (T : Tx K mg)
theorem rdS {CS p dx t u : Addr} {H : Hp} {s : Mst} {l : List (Int × Int)} {i : Nat} {σ : L2.St} {f : Str} {v : V} {Q : VK} (hi : σ[i]? = some (some (.ref p))) (h : StandAt K CS H p s l dx t u) (c : Cls K CS) (na : NoAttr K CS f) (e : (standF s t u).lookup f = some v) (q : Q v H) : tFld K (tVar i) f σ H Q := ⟨_, hi, p, CS, dx, _, v, rfl, h.at_, c, na, e, q⟩
def sp_attributes_of (K : PySem.W.Frag) (CS : Addr) : Sp := fun vs H Q _ => ∃ (p : Addr) (s : Mst) (l : List (Int × Int)) (dx t u : Addr), vs = [.ref p] ∧ StandAt K CS H p s l dx t u ∧ ∀ (q : Addr) (H' : Hp), Same H H' → H' q = some (.tup (standL s t u)) → Q (.ref q) H'
theorem ok_attributes_of : FnOk P w K mg base CX0 1 T.f_attributes_of T.fd_attributes_of ["stand"] (sp_attributes_of K T.C_Stand) := by
  refine T.F_attributes_of.ok sc_attributes_of (fun vs H Q E h => ?_) (fun cdv A outer s H vs Q E hr h => ?_)
  · obtain ⟨p, s, l, dx, t, u, rfl, _⟩ := h
    rfl
  · obtain ⟨p, s, l, dx, t, u, rfl, hS, q⟩ := h
    refine ⟨_, (pss_one (ps_ret (pe_tup (pa_cons (pe_fld (pv 0) rfl) (pa_cons (pe_fld (pv 0) rfl) (pa_cons (pe_fld (pv 0) rfl) (pa_cons (pe_fld (pv 0) rfl) (pa_cons (pe_fld (pv 0) rfl) (pa_cons (pe_fld (pv 0) rfl) (pa_cons (pe_fld (pv 0) rfl) (pa_cons (pe_fld (pv 0) rfl) (pa_cons (pe_fld (pv 0) rfl) (pa_cons (pe_fld (pv 0) rfl) (pa_cons (pe_fld (pv 0) rfl) (pa_cons (pe_fld (pv 0) rfl) pa_nil))))))))))))))), ?_⟩
    refine go_ret (go_tup (go_cons (rdS (K := K) rfl hS T.cl_Stand T.na_Stand_block rfl (go_cons (rdS (K := K) rfl hS T.cl_Stand T.na_Stand_room rfl (go_cons (rdS (K := K) rfl hS T.cl_Stand T.na_Stand_tick rfl (go_cons (rdS (K := K) rfl hS T.cl_Stand T.na_Stand_flag rfl (go_cons (rdS (K := K) rfl hS T.cl_Stand T.na_Stand_test rfl (go_cons (rdS (K := K) rfl hS T.cl_Stand T.na_Stand_mode rfl (go_cons (rdS (K := K) rfl hS T.cl_Stand T.na_Stand_first rfl (go_cons (rdS (K := K) rfl hS T.cl_Stand T.na_Stand_second rfl (go_cons (rdS (K := K) rfl hS T.cl_Stand T.na_Stand_cells rfl (go_cons (rdS (K := K) rfl hS T.cl_Stand T.na_Stand_heard rfl (go_cons (rdS (K := K) rfl hS T.cl_Stand T.na_Stand_said rfl (go_cons (rdS (K := K) rfl hS T.cl_Stand T.na_Stand_is_done rfl (go_nil ⟨show 12 ≤ sizeLine by decide, fun r nr => ?_⟩))))))))))))))))))))))))))
    exact q _ _ (same_new nr) upd_same
/-- what is no stand -/
def NotS (K : PySem.W.Frag) (CS : Addr) (H : Hp) (x : V) : Prop := ∃ t, TyX K H x t ∧ PySem.W.kitOne K t (.ref CS) = some false
def sp_Stand_eq (K : PySem.W.Frag) (CS : Addr) : Sp := fun vs H Q _ => ∃ (p : Addr) (y : V) (s : Mst) (l : List (Int × Int)) (dx t u : Addr) (r : Bool), vs = [.ref p, y] ∧ StandAt K CS H p s l dx t u ∧
  ((∃ (p2 : Addr) (s2 : Mst) (l2 : List (Int × Int)) (dx2 t2 u2 : Addr), y = .ref p2 ∧ StandAt K CS H p2 s2 l2 dx2 t2 u2 ∧ r = PyData.eqv (.tuple (standD s l)) (.tuple (standD s2 l2))) ∨ (NotS K CS H y ∧ r = false)) ∧ ∀ H', Same H H' → Q (.bl r) H'
theorem ok_Stand_eq : FnOk P w K mg base CX0 2 T.f_Stand_eq T.fd_Stand_eq ["self", "other"] (sp_Stand_eq K T.C_Stand) := by
  refine T.F_Stand_eq.ok sc_Stand_eq (fun vs H Q E h => ?_) (fun cdv A outer s H vs Q E hr h => ?_)
  · obtain ⟨p, y, s, l, dx, t, u, r, rfl, _⟩ := h
    rfl
  · obtain ⟨p, y, s, l, dx, t, u, r, rfl, h1, hy, q⟩ := h
    refine ⟨_, (pss_one (ps_ret (pe_and (pe_callB call_isi (by rfl) T.m_isinstance (by decide +kernel) (pa_cons (pv 1) (pa_cons (pe_glob (v := .ref T.C_Stand) (by rfl) T.gC_Stand rfl) pa_nil))) (pe_one (pe_cmpR (op_eqD hr.units) (pe_call (ok_attributes_of T) (hr.mono (by decide)) (by rfl) T.g_attributes_of T.F_attributes_of.kp T.b_attributes_of .nil pass0 (pa_cons (pv 0) pa_nil)) (pe_call (ok_attributes_of T) (hr.mono (by decide)) (by rfl) T.g_attributes_of T.F_attributes_of.kp T.b_attributes_of .nil pass0 (pa_cons (pv 1) pa_nil)) (nomark _)))))), ?_⟩
    rcases hy with ⟨p2, s2, l2, dx2, t2, u2, rfl, h2, rfl⟩ | ⟨⟨ty, h3, h4⟩, rfl⟩
    · refine go_ret (go_and ?_)
      refine ⟨_, rfl, .ref p2, .ref T.C_Stand, _, _, true, rfl, .own _, .base (.ins h2.at_ T.cl_Stand T.oc_Stand T.on_Stand T.ot_Stand T.ob_Stand), kitOne_self, _, rfl, iteT (B := _) ?_⟩
      refine go_op ?_
      refine ⟨_, rfl, p, s, l, dx, t, u, rfl, h1, fun a H1 e1 ha => ?_⟩
      refine ⟨_, rfl, p2, s2, l2, dx2, t2, u2, rfl, h2.same e1, fun b H2 e2 hb => ?_⟩
      have k1 := h1.same (e1.trans e2)
      have k2 := h2.same (e1.trans e2)
      refine ⟨.tuple (standD s l), .tuple (standD s2 l2), .tup (.inl (.inl (e2 _ _ ha))) (dp_standA k1.cat k1.sat), .tup (.inl (.inl hb)) (dp_standA k2.cat k2.sat), (Pl.tup pl_standA).shaped (by decide), (Pl.tup pl_standA).shaped (by decide), ?_⟩
      exact q H2 (e1.trans e2)
    · refine go_ret (go_and ?_)
      exact ⟨_, rfl, y, .ref T.C_Stand, _, _, false, rfl, .own _, h3, h4, _, rfl, iteF (A := _) (q H (Same.refl _))⟩
theorem eqv_self {s : Mst} {l : List (Int × Int)} : PyData.eqv (.tuple (standD s l)) (.tuple (standD s l)) = true := SeqAt.eqv_refl _ (Pl.tup pl_standA).1
def sp_begun (K : PySem.W.Frag) (CS : Addr) : Sp := fun vs H Q _ => vs = [] ∧ ∀ (p : Addr) (l : List (Int × Int)) (dx t u : Addr) (H' : Hp), l.length ≤ 0 → StandAt K CS H' p startM l dx t u → Same H H' → Q (.ref p) H'
theorem ok_begun : FnOk P w K mg base CX0 8 T.f_begun T.fd_begun [] (sp_begun K T.C_Stand) := by
  refine T.F_begun.ok sc_begun (fun vs H Q E h => ?_) (fun cdv A outer s H vs Q E hr h => ?_)
  · obtain ⟨rfl, _⟩ := h
    rfl
  · obtain ⟨rfl, q⟩ := h
    refine ⟨_, (pss_one (ps_ret (pe_call (ok_stand_of T) (hr.mono (by decide)) (by rfl) T.g_stand_of T.F_stand_of.kp T.b_stand_of .nil pass0 (pa_cons (pe_make T.mk_Work (ok_Work_init T) (hr.mono (by decide)) (by rfl) T.gC_Work T.b_Work_init .nil pass0 (pa_cons (pe_tup pa_nil) pa_nil)) pa_nil)))), ?_⟩
    refine go_ret (go_call (go_cons (go_make (go_cons (go_tup (go_nil ⟨Nat.zero_le _, fun nl nnl => ?_⟩))))))
    have e1 := same_new (o := HO.tup []) nnl
    have hn : SqQ K (upd H nl (.tup [])) nl (([] : List Int).map V.int) := .inr (.inl (.inl upd_same))
    generalize upd H nl (.tup []) = H1 at e1 hn ⊢
    refine go_nil fun x wx nx ndx _ => work_new (sp := sp_Work_init K T.C_Work) (fun _ _ _ _ h => h) nx ndx hn fun H2 pc ps hw => ⟨rfl, ?_⟩
    refine go_nil ⟨x, nl, [], startM, 0, wx, pc, ps, [], H1, rfl, hw, by decide, by decide, by decide, fun p l dx t u H3 ll hS e3 => q p l dx t u H3 ll hS (e1.trans (hw.old.trans e3))⟩
theorem find_at {α : Type} (f : α → Bool) : ∀ (l : List α) {i : Nat} {x : α}, l[i]? = some x → f x = true → (∀ j q, j < i → l[j]? = some q → f q = false) → l.find? f = some x
  | [], i, x, h, _, _ => by cases h
  | y :: r, 0, x, h, hx, _ => by
    cases h
    rw [List.find?_cons_of_pos hx]
  | y :: r, i + 1, x, h, hx, hj => by
    rw [List.find?_cons_of_neg (by rw [hj 0 y (by omega) rfl]; exact Bool.false_ne_true)]
    exact find_at f r h hx fun j q hji hq => hj (j + 1) q (by omega) hq
theorem pt_get {H : Hp} {ps : List Addr} {l : List (Int × Int)} {i : Nat} {v : V} (hp : Paired (fun (q : Addr) (p : Int × Int) => SqT K H q [.int p.1, .int p.2]) ps l) (h : (ps.map V.ref)[i]? = some v) : ∃ q p, v = .ref q ∧ l[i]? = some p ∧ SqT K H q [.int p.1, .int p.2] := by
  obtain ⟨q, hq, rfl⟩ := map_at h
  have hl := hp.length
  obtain ⟨p, hp'⟩ : ∃ p, l[i]? = some p := ⟨_, List.getElem?_eq_getElem (by have := (List.getElem?_eq_some_iff.mp hq).1; omega)⟩
  exact ⟨q, p, rfl, hp', paired_at hp hq hp'⟩
/-- what stands at a place -/
def cellOf (l : List (Int × Int)) (k : Int) : Int := match l.find? (fun p => p.1 == k) with
  | some p => p.2
  | none => 0
def sp_Stand_cell (K : PySem.W.Frag) (CS EN : Addr) : Sp := fun vs H Q E => ∃ (p : Addr) (x : V) (s : Mst) (l : List (Int × Int)) (dx t u : Addr), vs = [.ref p, x] ∧ StandAt K CS H p s l dx t u ∧ HasInt K H x ∧
  ((isIntV x = false ∧ RaisedPart E EN H "place") ∨ ∃ k, x = .int k ∧ Q (.int (cellOf l k)) H)
theorem ok_Stand_cell : FnOk P w K mg base (L2.CX P w) 4 T.f_Stand_cell T.fd_Stand_cell ["self", "place"] (sp_Stand_cell K T.C_Stand T.e_BadNumber.C) := by
  refine T.F_Stand_cell.okX sc_Stand_cell (fun vs H Q E h => ?_) (fun cdv A outer s H vs Q E hr h => ?_)
  · obtain ⟨p, x, s, l, dx, t, u, rfl, _⟩ := h
    rfl
  · obtain ⟨p, x, s, l, dx, t, u, rfl, hS, ⟨n, a, b, ht, k1, k2, e⟩, h⟩ := h
    refine ⟨_, (pss_cons (ps_if (pt_not (pt_val (pe_call (ok_is_integer T) (hr.mono (by decide)) (by rfl) T.g_is_integer T.F_is_integer.kp T.b_is_integer .nil pass0 (pa_cons (pv 1) pa_nil))))
      (pss_one (ps_raise rfl (takes_of rfl rfl rfl rfl) (pmk_oex T.e_BadNumber.oex T.e_BadNumber.iC T.e_BadNumber.tI (ok_init T.e_BadNumber in_BadNumber) (hr.mono (by decide)) T.e_BadNumber.b .nil pass0 (by rfl) T.e_BadNumber.gC (pa_cons pe_str pa_nil))))
      pss_nil)
    (pss_cons (ps_for (passes_of rfl) rfl (pi_tup (pe_fld (pv 0) rfl)) (pg_tup rfl (pgs_cons (pg_name (i := 2) sc_Stand_cell.nd rfl (.inl rfl)) (pgs_cons (pg_name (i := 3) sc_Stand_cell.nd rfl (.inl rfl)) pgs_nil)))
      (pss_one (ps_if (pt_cmpR op_eq (pv 2) (pv 1) (nomark _))
        (pss_one (ps_ret (pv 3)))
        pss_nil)))
    (pss_one (ps_ret pe_int)))), ?_⟩
    refine go_seq (go_if (go_not (go_b ⟨_, rfl, x, n, a, b, rfl, ht, k1, k2, _, rfl, ?_⟩)))
    rw [e]
    rcases h with ⟨hi, hE⟩ | ⟨k, rfl, q⟩
    · rw [hi]
      refine iteT (B := _) ?_
      exact mk_part T.e_BadNumber.oex T.e_BadNumber.np hE
    refine iteF (A := _) ?_
    dsimp only [tNext]
    obtain ⟨ps, c1, c2⟩ := hS.cat
    refine go_seq ?_
    generalize hD : Ends.mk _ _ _ _ = D0
    dsimp only [tFor, iTup]
    refine rdS (K := K) rfl hS T.cl_Stand T.na_Stand_cells rfl ?_
    refine ⟨t, rfl, ⟨_, c1⟩, for_tup (xs := ps.map V.ref) (fun i σ H' => H' = H ∧ (∀ j q, j < i → l[j]? = some q → q.1 ≠ k) ∧ ∃ (o2 o3 : Option V), σ = [some (.ref p), some (.int k), o2, o3]) ⟨rfl, fun j q h => by omega, none, none, rfl⟩ (fun i σ' H' _ h => by rw [h.1]; exact c1) (fun i v σ' Hd hv h => ?_) (fun σ' Hd h => ?_)⟩
    · obtain ⟨rfl, hj, o2, o3, rfl⟩ := h
      obtain ⟨q1, p1, rfl, hp, hq⟩ := pt_get c2 hv
      refine ⟨q1, _, rfl, hq, rfl, _, _, rfl, _, _, rfl, rfl, ?_⟩
      refine go_if (go_test (go_op (go_var rfl (go_var rfl ⟨rfl, _, rfl, ?_⟩))))
      rw [decI]
      by_cases e : p1.1 = k
      · rw [decide_eq_true e]
        subst hD
        refine iteT (B := _) (go_ret (go_var rfl ?_))
        have : cellOf l k = p1.2 := by
          unfold cellOf
          rw [find_at (fun p => p.1 == k) l hp (by simpa using e) fun j q hji hq => by simpa using hj j q hji hq]
        rw [this] at q
        exact q
      · rw [decide_eq_false e]
        refine iteF (A := _) ?_
        refine ⟨rfl, fun j q hji hq => ?_, _, _, rfl⟩
        by_cases ej : j = i
        · subst ej
          rw [hp] at hq
          cases hq
          exact e
        · exact hj j q (by omega) hq
    · obtain ⟨rfl, hj, o2, o3, rfl⟩ := h
      subst hD
      dsimp only
      refine go_ret (go_c ?_)
      have : cellOf l k = 0 := by
        unfold cellOf
        rw [List.find?_eq_none.mpr fun q m => ?_]
        obtain ⟨j, hjl⟩ := List.getElem?_of_mem m
        have hl : ps.length = l.length := c2.length
        have hlt := (List.getElem?_eq_some_iff.mp hjl).1
        simpa using hj j q (by rw [List.length_map, hl]; exact hlt) hjl
      rw [this] at q
      exact q
end
end K28
namespace K28
open PySem PySem.Spec PyProof.Rows L2 Kx SX LamX Ms
section
variable {P : Program} {w : World} {K : PySem.W.Frag} {mg : Str → Option Value} {base : Heap} (T : Tx K mg)
/-! ### words, signs, texts -/
def sp_are_letters (K : PySem.W.Frag) : Sp := fun vs H Q _ => ∃ (l : List Nat), vs = [.str (S l)] ∧ Q (.bl (lowB l)) H
theorem ok_are_letters : FnOk P w K mg base CX0 1 T.f_are_letters T.fd_are_letters ["text"] (sp_are_letters K) := by
  refine T.F_are_letters.ok sc_are_letters (fun vs H Q E h => ?_) (fun cdv A outer s H vs Q E hr h => ?_)
  · obtain ⟨l, rfl, _⟩ := h
    rfl
  · obtain ⟨l, rfl, q⟩ := h
    rw [← letters_S] at q
    refine ⟨_, (pss_one (ps_ret (pe_and (pe_m0 PySem.F.slot_str_isascii PySem.F.type_str_isascii mt_isascii (pv 0)) (pe_and (pe_m0 PySem.F.slot_str_isalpha PySem.F.type_str_isalpha mt_isalpha (pv 0)) (pe_one (pe_m0 PySem.F.slot_str_islower PySem.F.type_str_islower mt_islower (pv 0))))))), ?_⟩
    refine ⟨_, rfl, ⟨_, rfl⟩, S l, rfl, rfl, trivial, _, rfl, iteC (fun e => ?_) (fun e => ?_)⟩
    · rw [e] at q
      refine ⟨_, rfl, ⟨_, rfl⟩, S l, rfl, rfl, trivial, _, rfl, iteC (fun e => ?_) (fun e => ?_)⟩
      · rw [e] at q
        exact ⟨_, rfl, ⟨_, rfl⟩, S l, rfl, rfl, trivial, q⟩
      · rw [e] at q
        exact q
    · rw [e] at q
      exact q
/-- a text, or what is none -/
def StrIs (K : PySem.W.Frag) (H : Hp) (x : V) (o : Option (List Nat)) : Prop := match o with
  | some l => x = .str (S l) ∧ l.length ≤ 1000000
  | none => ∃ n, TyX K H x (.type n) ∧ kitB n "str" = some false
theorem StrIs.same {K : PySem.W.Frag} {H H' : Hp} {x : V} {o : Option (List Nat)} (e : Same H H') (h : StrIs K H x o) : StrIs K H' x o := by
  cases o with
  | some l => exact h
  | none =>
    obtain ⟨n, h1, h2⟩ := h
    exact ⟨n, tyx_same e h1, h2⟩
theorem kit_str : kitB "str" "str" = some true := by decide +kernel
def wordB (l : List Nat) : Bool := decide (l.length ≤ 12) && lowB l
def signB (l : List Nat) : Bool := decide (l.length = 1) && l.all sg
def sp_is_word (K : PySem.W.Frag) : Sp := fun vs H Q _ => ∃ (x : V) (o : Option (List Nat)), vs = [x] ∧ StrIs K H x o ∧ Q (.bl (o.elim false wordB)) H
theorem ok_is_word : FnOk P w K mg base CX0 2 T.f_is_word T.fd_is_word ["value"] (sp_is_word K) := by
  refine T.F_is_word.ok sc_is_word (fun vs H Q E h => ?_) (fun cdv A outer s H vs Q E hr h => ?_)
  · obtain ⟨x, o, rfl, _⟩ := h
    rfl
  · obtain ⟨x, o, rfl, hx, q⟩ := h
    refine ⟨_, (pss_one (ps_ret (pe_and (pe_callB call_isi (by rfl) T.m_isinstance (by decide +kernel) (pa_cons (pv 0) (pa_cons (pe_bltn (v := .ty "str") (by rfl) T.m_str (by decide +kernel) rfl) pa_nil))) (pe_and (pe_cmpR op_le (pe_callB call_len_str (by rfl) T.m_len PySem.boot_len (pa_cons (pv 0) pa_nil)) (pe_glob (v := .int 12) (by rfl) T.c_MOST_LETTERS ⟨_, rfl⟩) (nomark _)) (pe_one (pe_call (ok_are_letters T) (hr.mono (by decide)) (by rfl) T.g_are_letters T.F_are_letters.kp T.b_are_letters .nil pass0 (pa_cons (pv 0) pa_nil))))))), ?_⟩
    cases o with
    | none =>
      obtain ⟨n, h1, h2⟩ := hx
      exact ⟨x, rfl, x, _, _, _, false, rfl, .ty _, h1, kit_ty h2, _, rfl, iteF q⟩
    | some l =>
      obtain ⟨rfl, hl⟩ := hx
      refine ⟨_, rfl, _, _, _, _, true, rfl, .ty _, .base (.str (S l)), kit_ty kit_str, _, rfl, ?_⟩
      refine iteT (B := _) ?_
      have q' : Q (.bl (decide (l.length ≤ 12) && lowB l)) H := q
      have e1 : decide (((S l).length : Int) ≤ 12) = decide (l.length ≤ 12) := by
        rw [S_len]
        by_cases h : l.length ≤ 12
        · rw [decide_eq_true h, decide_eq_true (by omega)]
        · rw [decide_eq_false h, decide_eq_false (by omega)]
      refine ⟨_, rfl, S l, rfl, by rw [S_len]; exact Nat.le_trans hl (by decide), _, _, rfl, rfl, _, rfl, ?_⟩
      rw [e1]
      cases h : decide (l.length ≤ 12) with
      | true =>
        rw [h] at q'
        refine iteT (B := _) ?_
        exact ⟨_, rfl, l, rfl, q'⟩
      | false =>
        rw [h] at q'
        exact iteF q'
theorem StrIs.ext {K : PySem.W.Frag} {H H' : Hp} {x : V} {o : Option (List Nat)} (e : ExtN H H') (h : StrIs K H x o) : StrIs K H' x o := by
  cases o with
  | none =>
    obtain ⟨n, h1, h2⟩ := h
    exact ⟨n, tyx_ext e h1, h2⟩
  | some l => exact h
/-! ### books -/
def tx (l : List Nat) : V := .str (S l)
def txtV : V → Option (List Nat)
  | .str x => some x.cps.toList
  | _ => none
theorem txt_tx (l : List Nat) : txtV (tx l) = some l := by
  unfold txtV tx
  simp [S]
theorem tx_txt {v : V} {l : List Nat} (h : txtV v = some l) : v = tx l := by
  cases v with
  | str x =>
    have e : x.cps.toList = l := Option.some.inj h
    show V.str x = V.str (S l)
    rw [← e, S_of]
  | _ => cases h
theorem nodup_some {α : Type} : ∀ {l : List α}, l.Nodup → (l.map some).Nodup
  | [], _ => List.nodup_nil
  | a :: r, h => by
    rw [List.nodup_cons] at h
    rw [List.map_cons, List.nodup_cons]
    refine ⟨fun m => ?_, nodup_some h.2⟩
    obtain ⟨b, hb, e⟩ := List.mem_map.mp m
    exact h.1 (Option.some.inj e ▸ hb)
def wordV (v : V) : Bool := (txtV v).elim false wordB
theorem words_strs : ∀ (vs : List V), vs.all wordV = true → ∃ ls : List (List Nat), vs = ls.map tx ∧ vs.map txtV = ls.map some
  | [], _ => ⟨[], rfl, rfl⟩
  | v :: r, h => by
    rw [List.all_cons, Bool.and_eq_true] at h
    obtain ⟨ls, e1, e2⟩ := words_strs r h.2
    have h1 := h.1
    unfold wordV at h1
    cases ht : txtV v with
    | none =>
      rw [ht] at h1
      cases h1
    | some l => exact ⟨l :: ls, by rw [List.map_cons, ← e1, tx_txt ht], by rw [List.map_cons, List.map_cons, e2, ht]⟩
theorem nodup_map_S : ∀ (ls : List (List Nat)), (ls.map S).Nodup ↔ (ls.map some).Nodup
  | [] => by simp
  | l :: r => by
    rw [List.map_cons, List.map_cons, List.nodup_cons, List.nodup_cons, nodup_map_S r]
    have e : S l ∈ r.map S ↔ some l ∈ r.map some := by
      constructor
      · intro m
        obtain ⟨k, hk, e⟩ := List.mem_map.mp m
        have : k = l := by
          have := congrArg (fun z : Str => z.cps.toList) e
          simpa [S] using this
        rw [← this]
        exact List.mem_map.mpr ⟨k, hk, rfl⟩
      · intro m
        obtain ⟨k, hk, e⟩ := List.mem_map.mp m
        cases e
        exact List.mem_map.mpr ⟨l, hk, rfl⟩
    rw [e]
def wordsB (m : Nat) (os : List (Option (List Nat))) : Bool := decide (1 ≤ os.length) && decide (os.length ≤ m) && (os.all (fun o => o.elim false wordB) && decide os.Nodup)
/-- what is told as words, and which they are if they are any -/
def WArg (K : PySem.W.Frag) (H : Hp) (x : V) (m : Nat) (o : Option (List (List Nat))) : Prop :=
  (o = none ∧ ∃ n, TyX K H x (.type n) ∧ PySem.W.kitAny K (.type n) [.type "list", .type "tuple"] = some false) ∨
  ∃ (a : Addr) (vs : List V), x = .ref a ∧ SqQ K H a vs ∧ vs.length ≤ 4000 ∧ (∀ v ∈ vs, StrIs K H v (txtV v)) ∧ wordsB m (vs.map txtV) = o.isSome ∧ ∀ ws, o = some ws → vs = ws.map tx
theorem WArg.same {K : PySem.W.Frag} {H H' : Hp} {x : V} {m : Nat} {o : Option (List (List Nat))} (e : Same H H') (h : WArg K H x m o) : WArg K H' x m o := by
  rcases h with ⟨h1, n, h2, h3⟩ | ⟨a, vs, h1, h2, h3, h4, h5, h6⟩
  · exact .inl ⟨h1, n, tyx_same e h2, h3⟩
  · exact .inr ⟨a, vs, h1, Same.q e h2, h3, fun v m => (h4 v m).same e, h5, h6⟩
theorem WArg.ext {K : PySem.W.Frag} {H H' : Hp} {x : V} {m : Nat} {o : Option (List (List Nat))} (e : ExtN H H') (h : WArg K H x m o) : WArg K H' x m o := by
  rcases h with ⟨h1, n, h2, h3⟩ | ⟨a, vs, h1, h2, h3, h4, h5, h6⟩
  · exact .inl ⟨h1, n, tyx_ext e h2, h3⟩
  · exact .inr ⟨a, vs, h1, h2.imp (sqL_ext e) (sqT_ext e), h3, fun v m => (h4 v m).ext e, h5, h6⟩
theorem words_arg {K : PySem.W.Frag} {H : Hp} {a : Addr} {ws : List (List Nat)} {m : Nat} (h : SqQ K H a (ws.map tx)) (l1 : 1 ≤ ws.length) (l2 : ws.length ≤ m) (l3 : m ≤ 4000) (hw : ∀ w ∈ ws, wordB w = true) (nd : ws.Nodup) : WArg K H (.ref a) m (some ws) := by
  refine .inr ⟨a, _, rfl, h, by rw [List.length_map]; omega, fun v hv => ?_, ?_, fun ws' e => by cases e; rfl⟩
  · obtain ⟨w, hwm, rfl⟩ := List.mem_map.mp hv
    rw [txt_tx]
    refine ⟨rfl, ?_⟩
    have := hw w hwm
    unfold wordB at this
    rw [Bool.and_eq_true, decide_eq_true_eq] at this
    omega
  · have e : (ws.map tx).map txtV = ws.map some := by
      rw [List.map_map]
      refine List.map_congr_left fun w _ => ?_
      exact txt_tx w
    rw [e]
    unfold wordsB
    rw [List.length_map, decide_eq_true l1, decide_eq_true l2]
    simp only [Bool.true_and, Option.isSome_some, Bool.and_eq_true, decide_eq_true_eq]
    refine ⟨?_, ?_⟩
    · rw [List.all_map, List.all_eq_true]
      exact fun w hwm => hw w hwm
    · exact nodup_some nd
def sp_are_words (K : PySem.W.Frag) : Sp := fun vs H Q _ => ∃ (x : V) (m : Nat) (o : Option (List (List Nat))), vs = [x, .int m] ∧ WArg K H x m o ∧ ∀ H', Same H H' → Q (.bl o.isSome) H'
theorem ok_are_words : FnOk P w K mg base CX0 3 T.f_are_words T.fd_are_words ["value", "most"] (sp_are_words K) := by
  refine T.F_are_words.ok sc_are_words (fun vs H Q E h => ?_) (fun cdv A outer s H vs Q E hr h => ?_)
  · obtain ⟨x, m, o, rfl, _⟩ := h
    rfl
  · obtain ⟨x, m, o, rfl, h, q⟩ := h
    refine ⟨_, (pss_cons (ps_if (PW.pt (pw_or (pt_not (pt_val (pe_call (ok_is_list T) (hr.mono (by decide)) (by rfl) T.g_is_list T.F_is_list.kp T.b_is_list .nil pass0 (pa_cons (pv 0) pa_nil)))) (pw_or1 (pt_not (pt_chain op_le op_le pe_int (pe_callB call_len_seq (by rfl) T.m_len PySem.boot_len (pa_cons (pv 0) pa_nil)) (pv 1))))))
      (pss_one (ps_ret pe_bl))
      pss_nil)
    (pss_one (ps_ret (pe_and (pe_callB (cr_all rfl) (by rfl) T.m_all (by decide +kernel) (pa_cons (pe_lc (own := [("word", 2)]) rfl sc_are_words.nd (pi_seq (pv 0)) (blkOk_by (own := [("word", 2)]) (N := ["value", "most", "word"]) (sc := defScope s_are_words) (by decide +kernel)) (fun _ _ _ _ _ => (pg_name (i := 2) sc_are_words.nd rfl (.inl rfl))) (fun _ _ _ _ _ => pts_nil) (fun _ _ _ _ _ => (pe_call (ok_is_word T) (hr.mono (by decide)) (by rfl) T.g_is_word T.F_is_word.kp T.b_is_word .nil pass0 (pa_cons (pv 2) pa_nil)))) pa_nil)) (pe_one (pe_cmpR op_eq (pe_lenSetN (by rfl) T.m_len (by rfl) T.m_set (pv 0)) (pe_callB call_len_seq (by rfl) T.m_len PySem.boot_len (pa_cons (pv 0) pa_nil)) (nomark _))))))), ?_⟩
    rcases h with ⟨rfl, n, ht, hk⟩ | ⟨a, ws, rfl, hq, hl, hw, hb, _⟩
    · refine go_seq (go_if (go_or2 (go_not (go_b ⟨x, rfl, x, n, false, rfl, ht, hk, fun H1 e1 => ⟨_, rfl, iteT (B := _) (iteT (B := _) (go_ret (q H1 e1)))⟩⟩))))
    · obtain ⟨n, ht, hk⟩ := isl_q hq
      refine go_seq (go_if (go_or2 (go_not (go_b ⟨_, rfl, _, n, true, rfl, ht, hk, fun H1 e1 => ⟨_, rfl, iteF (A := _) ?_⟩⟩))))
      have hb' : (decide (1 ≤ ws.length) && decide (ws.length ≤ m) && (ws.all wordV && decide (ws.map txtV).Nodup)) = o.isSome := by
        rw [← hb]
        unfold wordsB
        rw [List.length_map, List.all_map]
        rfl
      have f1 : decide ((1 : Int) ≤ (ws.length : Int)) = decide (1 ≤ ws.length) := by
        by_cases h : 1 ≤ ws.length
        · rw [decide_eq_true h, decide_eq_true (by omega)]
        · rw [decide_eq_false h, decide_eq_false (by omega)]
      have f2 : decide ((ws.length : Int) ≤ (m : Int)) = decide (ws.length ≤ m) := by
        by_cases h : ws.length ≤ m
        · rw [decide_eq_true h, decide_eq_true (by omega)]
        · rw [decide_eq_false h, decide_eq_false (by omega)]
      refine go_not (go_test (go_chain (go_c (go_cb (go_cons (go_var rfl (go_nil ⟨a, ws, rfl, Same.q e1 hq, ?_⟩)))))))
      refine ⟨_, _, rfl, rfl, _, rfl, ?_⟩
      rw [f1]
      refine iteC (fun h1 => ?_) (fun h1 => ?_)
      · refine go_var rfl ⟨_, _, rfl, rfl, _, rfl, ?_⟩
        rw [f2]
        rw [h1, Bool.true_and] at hb'
        refine iteC (fun h2 => ?_) (fun h2 => ?_)
        · have h2 : decide (ws.length ≤ m) = false := by simpa using h2
          rw [h2, Bool.false_and] at hb'
          rw [← hb'] at q
          exact go_ret (q H1 e1)
        · have h2 : decide (ws.length ≤ m) = true := by simpa using h2
          rw [h2, Bool.true_and] at hb'
          dsimp only [tNext]
          refine go_ret (go_and (go_cb (go_cons (lc_seqmap (a := a) (xs := ws) (fun v => .bl (wordV v)) (by exact rfl) (Same.q e1 hq) (by omega) (fun i v Hc Q' R' hv e2 q' => ?_) (fun D Hc e2 hD => ?_)))))
          · refine ⟨rfl, ?_⟩
            refine iteT (B := True) ?_
            exact ⟨_, rfl, v, txtV v, rfl, ((hw v (List.mem_of_getElem? hv)).same e1).same e2, q' Hc (Same.refl _)⟩
          · refine ⟨D, ws.map wordV, rfl, .inl (.inl (by rw [hD, List.map_map]; rfl)), ?_⟩
            rw [List.all_map]
            refine ⟨_, rfl, iteC (fun h3 => ?_) (fun h3 => ?_)⟩
            · have h3 : ws.all wordV = true := h3
              rw [h3, Bool.true_and] at hb'
              obtain ⟨ls, e3, e4⟩ := words_strs ws h3
              refine go_op ⟨_, rfl, a, ls.map S, rfl, ?_, ?_, ?_⟩
              · have : (ls.map S).map V.str = ws := by
                  rw [List.map_map, e3]
                  rfl
                rw [this]
                exact Same.q (e1.trans e2) hq
              · rw [List.length_map]
                rw [e3, List.length_map] at hl
                exact hl
              refine go_cb (go_cons (go_var rfl (go_nil ⟨a, ws, rfl, Same.q (e1.trans e2) hq, rfl, ?_⟩)))
              have e5 : decide (V.int ((onceS (ls.map S)).length : Nat) = V.int (ws.length : Nat)) = o.isSome := by
                rw [← hb', e4]
                have hz : ws.length = (ls.map S).length := by rw [e3, List.length_map, List.length_map]
                have h := (onceS_nodup (ls.map S)).trans (nodup_map_S ls)
                by_cases hd : (ls.map some).Nodup
                · rw [decide_eq_true hd, decide_eq_true]
                  rw [h.mpr hd, hz]
                · rw [decide_eq_false hd, decide_eq_false]
                  intro e
                  injection e with e
                  exact hd (h.mp (by omega))
              rw [e5]
              exact q _ (e1.trans e2)
            · have h3 : ws.all wordV = false := h3
              rw [h3, Bool.false_and] at hb'
              rw [← hb'] at q
              exact q _ (e1.trans e2)
      · rw [h1, Bool.false_and, Bool.false_and] at hb'
        rw [← hb'] at q
        exact ⟨_, rfl, iteT (B := _) (go_ret (q H1 e1))⟩
/-! ### Book -/
def BookAt (K : PySem.W.Frag) (C : Addr) (H : Hp) (p : Addr) (ws : List (List Nat)) : Prop := ∃ dx t, H p = some (.ins C dx [("words", .ref t)]) ∧ SqT K H t (ws.map tx) ∧ TupN K H t
theorem BookAt.same {C : Addr} {H H' : Hp} {p : Addr} {ws : List (List Nat)} (e : Same H H') (h : BookAt K C H p ws) : BookAt K C H' p ws := by
  obtain ⟨dx, t, h1, h2, h3⟩ := h
  exact ⟨dx, t, e _ _ h1, Same.t e h2, h3.same e⟩
theorem BookAt.ext {C : Addr} {H H' : Hp} {p : Addr} {ws : List (List Nat)} (e : ExtN H H') (h : BookAt K C H p ws) : BookAt K C H' p ws := by
  obtain ⟨dx, t, h1, h2, h3⟩ := h
  exact ⟨dx, t, ext_at e h1, sqT_ext e h2, h3.ext e⟩
def WSeq (K : PySem.W.Frag) (H : Hp) (x : V) (ws : List (List Nat)) : Prop := ∃ a, x = .ref a ∧ (SqL K H a (ws.map tx) ∨ (SqT K H a (ws.map tx) ∧ TupN K H a))
theorem WSeq.same {H H' : Hp} {x : V} {ws : List (List Nat)} (e : Same H H') (h : WSeq K H x ws) : WSeq K H' x ws := by
  obtain ⟨a, h1, h2 | ⟨h2, h3⟩⟩ := h
  · exact ⟨a, h1, .inl (e.seq h2)⟩
  · exact ⟨a, h1, .inr ⟨Same.t e h2, h3.same e⟩⟩
theorem BookAt.put {C : Addr} {H : Hp} {p q : Addr} {ws : List (List Nat)} {xs : List V} {o : HO} (hq : H q = some (.lst xs)) (h : BookAt K C H p ws) : BookAt K C (upd H q o) p ws := by
  obtain ⟨dx, t, h1, h2, h3⟩ := h
  refine ⟨dx, t, by rw [upd_ne (ne_of_two h1 hq (fun z => by cases z))]; exact h1, ?_, ?_⟩
  · rcases h2 with (h | ⟨ob, h⟩) | h
    · exact .inl (.inl (by rw [upd_ne (ne_of_two h hq (fun z => by cases z))]; exact h))
    · exact .inl (.inr ⟨ob, by rw [upd_ne (ne_of_two h hq (fun z => by cases z))]; exact h⟩)
    · exact .inr h
  · rcases h3 with ⟨ob, ys, h, d⟩ | h
    · exact .inl ⟨ob, ys, by rw [upd_ne (ne_of_two h hq (fun z => by cases z))]; exact h, d⟩
    · exact .inr h
def sp_Book_init (K : PySem.W.Frag) (C CB : Addr) : Sp := fun vs H Q E => ∃ (p dx : Addr) (x : V) (o : Option (List (List Nat))), vs = [.ref p, x] ∧ H p = some (.ins C dx []) ∧ WArg K H x 40 o ∧ (∀ ws, o = some ws → WSeq K H x ws) ∧ (o = none → RaisedPart E CB H "words") ∧
  ∀ ws, o = some ws → ∀ H', (∀ b u, H b = some u → b ≠ p → H' b = some u) → BookAt K C H' p ws → Q .non H'
theorem ok_Book_init : FnOk P w K mg base (L2.CX P w) 6 T.f_Book_init T.fd_Book_init ["self", "words"] (sp_Book_init K T.C_Book T.e_BadBook.C) := by
  refine T.F_Book_init.okX sc_Book_init (fun vs H Q E h => ?_) (fun cdv A outer s H vs Q E hr h => ?_)
  · obtain ⟨p, dx, x, o, rfl, _⟩ := h
    rfl
  · obtain ⟨p, dx, x, o, rfl, hp, hW, hN, he, q⟩ := h
    refine ⟨_, (pss_cons (ps_if (pt_not (pt_val (pe_call (ok_are_words T) (hr.mono (by decide)) (by rfl) T.g_are_words T.F_are_words.kp T.b_are_words .nil pass0 (pa_cons (pv 1) (pa_cons (pe_glob (v := .int 40) (by rfl) T.c_MOST_WORDS ⟨_, rfl⟩) pa_nil)))))
      (pss_one (ps_raise rfl (takes_of rfl rfl rfl rfl) (pmk_oex T.e_BadBook.oex T.e_BadBook.iC T.e_BadBook.tI (ok_init T.e_BadBook in_BadBook) (hr.mono (by decide)) T.e_BadBook.b .nil pass0 (by rfl) T.e_BadBook.gC (pa_cons pe_str pa_nil))))
      pss_nil)
    (pss_one (ps_fld (pv 0) (pe_callTy call_tuple_frz (by rfl) T.m_tuple (by decide +kernel) (pa_cons (pv 1) pa_nil)) rfl))), ?_⟩
    refine go_seq (go_if (go_not (go_b ⟨x, rfl, x, 40, o, rfl, hW, fun H1 e1 => ⟨_, rfl, ?_⟩⟩)))
    cases o with
    | none =>
      refine iteT (B := _) ?_
      exact mk_part T.e_BadBook.oex T.e_BadBook.np fun d H' e2 hd => he rfl d H' (e1.trans e2) hd
    | some ws =>
      refine iteF (A := _) ?_
      dsimp only [tNext]
      obtain ⟨a, rfl, hq⟩ := hN ws rfl
      have hp1 := e1 _ _ hp
      rcases hq with hq | ⟨hq, hn⟩
      · refine ⟨_, rfl, a, _, rfl, .inl ⟨e1.seq hq, fun t ob nt hd => ?_⟩⟩
        have hpt : p ≠ t := ne_of_none hp1 nt
        refine ⟨_, rfl, p, T.C_Book, dx, [], rfl, by rw [upd_ne hpt]; exact hp1, T.cl_Book, T.na_Book_words, by show 0 < 1000; decide, ?_⟩
        refine q ws rfl _ (fun b u hb hne => ?_) ⟨dx, t, upd_same, .inl (.inr ⟨ob, by rw [upd_ne (Ne.symm hpt), upd_same]⟩), .inl ⟨ob, _, by rw [upd_ne (Ne.symm hpt), upd_same], hd⟩⟩
        have hb1 := e1 _ _ hb
        rw [upd_ne hne, upd_ne (ne_of_none hb1 nt)]
        exact hb1
      · have hn := hn.same e1
        have hq1 := Same.t e1 hq
        refine ⟨_, rfl, a, _, rfl, .inr ⟨hq1, ?_⟩⟩
        refine ⟨_, rfl, p, T.C_Book, dx, [], rfl, hp1, T.cl_Book, T.na_Book_words, by show 0 < 1000; decide, ?_⟩
        refine q ws rfl _ (fun b u hb hne => ?_) ⟨dx, a, upd_same, sqT_put hp1 hq1, tupN_put hp1 hn⟩
        rw [upd_ne hne]
        exact e1 _ _ hb
/-- Book(x), x right words -/
theorem book_new {E : XK} {C CB x dx : Addr} {H : Hp} {v : V} {ws : List (List Nat)} {P : VK} (nx : H x = none) (ndx : H dx = none) (hW : WArg K H v 40 (some ws)) (hS : WSeq K H v ws) (q : ∀ H', Same H H' → BookAt K C H' x ws → P .non H') :
    sp_Book_init K C CB [.ref x, v] (upd (upd H dx (.own x)) x (.ins C dx [])) P E := by
  have s1 : Same H (upd (upd H dx (.own x)) x (.ins C dx [])) := fun b u h => by
    rw [upd_ne (ne_of_none h nx), upd_ne (ne_of_none h ndx)]
    exact h
  refine ⟨x, dx, v, some ws, rfl, upd_same, hW.same s1, fun ws' e => ?_, (fun e => by cases e), fun ws' e H' keep hb => q H' (fun b u h => keep b u (s1 _ _ h) (ne_of_none h nx)) ?_⟩
  · cases e
    exact hS.same s1
  · cases e
    exact hb
/-- Book(x), x no words -/
theorem book_none {E : XK} {C CB x dx : Addr} {H : Hp} {v : V} {P : VK} (nx : H x = none) (ndx : H dx = none) (hW : WArg K H v 40 none) (he : ∀ d H', Same H H' → H' d = some (.xd [("part", .str "words")]) → E (.ref CB) (some d) H') :
    sp_Book_init K C CB [.ref x, v] (upd (upd H dx (.own x)) x (.ins C dx [])) P E := by
  have s1 : Same H (upd (upd H dx (.own x)) x (.ins C dx [])) := fun b u h => by
    rw [upd_ne (ne_of_none h nx), upd_ne (ne_of_none h ndx)]
    exact h
  exact ⟨x, dx, v, none, rfl, upd_same, hW.same s1, fun ws' e => (by cases e), fun _ d H' e hd => he d H' (s1.trans e) hd, fun ws' e => by cases e⟩
def sp_Book_eq (K : PySem.W.Frag) (C : Addr) : Sp := fun vs H Q _ => ∃ (a : Addr) (y : V) (ws : List (List Nat)) (r : Bool), vs = [.ref a, y] ∧ BookAt K C H a ws ∧ (∀ w ∈ ws, cdC w) ∧
  ((∃ b ws', y = .ref b ∧ BookAt K C H b ws' ∧ (∀ w ∈ ws', cdC w) ∧ r = decide (ws = ws')) ∨ ((∃ b xs, y = .ref b ∧ SqQ K H b xs) ∧ r = false)) ∧ Q (.bl r) H
theorem ok_Book_eq : FnOk P w K mg base CX0 1 T.f_Book_eq T.fd_Book_eq ["self", "other"] (sp_Book_eq K T.C_Book) := by
  refine T.F_Book_eq.ok sc_Book_eq (fun vs H Q E h => ?_) (fun cdv A outer s H vs Q E hr h => ?_)
  · obtain ⟨a, y, ws, r, rfl, _⟩ := h
    rfl
  · obtain ⟨a, y, ws, r, rfl, ⟨dx, t, ha, ht, _⟩, hc, hy, q⟩ := h
    refine ⟨_, (pss_one (ps_ret (pe_and (pe_callB call_isi (by rfl) T.m_isinstance (by decide +kernel) (pa_cons (pv 1) (pa_cons (pe_glob (v := .ref T.C_Book) (by rfl) T.gC_Book rfl) pa_nil))) (pe_one (pe_cmpR (op_eqD hr.units) (pe_fld (pv 0) rfl) (pe_fld (pv 1) rfl) (nomark _)))))), ?_⟩
    rcases hy with ⟨b, ws', rfl, ⟨dy, t', hb, ht', _⟩, hc', rfl⟩ | ⟨⟨b, xs, rfl, hq⟩, rfl⟩
    · refine ⟨_, rfl, .ref b, _, _, _, true, rfl, .own _, .base (.ins hb T.cl_Book T.oc_Book T.on_Book T.ot_Book T.ob_Book), kitOne_self, _, rfl, iteT (B := _) ?_⟩
      refine ⟨_, rfl, a, T.C_Book, dx, _, .ref t, rfl, ha, T.cl_Book, T.na_Book_words, rfl, _, rfl, b, T.C_Book, dy, _, .ref t', rfl, hb, T.cl_Book, T.na_Book_words, rfl, ?_⟩
      refine ⟨_, _, .tup ht (dpAll_map _ fun w _ => .str (S w)), .tup ht' (dpAll_map _ fun w _ => .str (S w)), (Pl.tup fun d m => ?_).shaped (k := 1) (by decide), (Pl.tup fun d m => ?_).shaped (k := 1) (by decide), ?_⟩
      · obtain ⟨w, hw, rfl⟩ := List.mem_map.mp m
        exact pl_text (hc w hw)
      · obtain ⟨w, hw, rfl⟩ := List.mem_map.mp m
        exact pl_text (hc' w hw)
      · rw [eqv_texts]
        exact q
    · rcases hq with hq | hq
      · exact ⟨_, rfl, .ref b, _, _, _, false, rfl, .own _, tyL hq, kitOne_no T.kc_Book T.kt_Book sub_list, _, rfl, iteF (A := _) q⟩
      · exact ⟨_, rfl, .ref b, _, _, _, false, rfl, .own _, tyT hq, kitOne_no T.kc_Book T.kt_Book sub_tuple, _, rfl, iteF (A := _) q⟩
def sp_Book_number (K : PySem.W.Frag) (C CW : Addr) : Sp := fun vs H Q E => ∃ (a : Addr) (v : V) (ws : List (List Nat)), vs = [.ref a, v] ∧ BookAt K C H a ws ∧ (∀ w ∈ ws, wordB w = true) ∧ StrIs K H v (txtV v) ∧ ((∀ w ∈ ws, v ≠ tx w) → RaisedPart E CW H "word") ∧
  ∀ (j : Nat) (w : List Nat), v = tx w → ws[j]? = some w → (∀ m, m < j → ws[m]? ≠ some w) → Q (.int (j : Nat)) H
theorem first_at {α : Type} [DecidableEq α] : ∀ (l : List α) (x : α), x ∈ l → ∃ j : Nat, l[j]? = some x ∧ ∀ m, m < j → l[m]? ≠ some x
  | [], _, h => by cases h
  | y :: r, x, h => by
    by_cases e : y = x
    · exact ⟨0, by rw [e]; rfl, fun m hm => by omega⟩
    · obtain ⟨j, h1, h2⟩ := first_at r x ((List.mem_cons.mp h).resolve_left (fun z => e z.symm))
      refine ⟨j + 1, h1, fun m hm => ?_⟩
      cases m with
      | zero => exact fun z => e (Option.some.inj z)
      | succ m => exact h2 m (by omega)
theorem ok_Book_number : FnOk P w K mg base (L2.CX P w) 5 T.f_Book_number T.fd_Book_number ["self", "word"] (sp_Book_number K T.C_Book T.e_BadWord.C) := by
  refine T.F_Book_number.okX sc_Book_number (fun vs H Q E h => ?_) (fun cdv A outer s H vs Q E hr h => ?_)
  · obtain ⟨a, v, ws, rfl, _⟩ := h
    rfl
  · obtain ⟨a, v, ws, rfl, ⟨dx, t, ha, ht, hn⟩, hw, hv, he, q⟩ := h
    refine ⟨_, (pss_cons (ps_if (PW.pt (pw_or (pt_not (pt_val (pe_call (ok_is_word T) (hr.mono (by decide)) (by rfl) T.g_is_word T.F_is_word.kp T.b_is_word .nil pass0 (pa_cons (pv 1) pa_nil)))) (pw_or1 (pt_cmpR op_notIn_seq (pv 1) (pe_fld (pv 0) rfl) rfl))))
      (pss_one (ps_raise rfl (takes_of rfl rfl rfl rfl) (pmk_oex T.e_BadWord.oex T.e_BadWord.iC T.e_BadWord.tI (ok_init T.e_BadWord in_BadWord) (hr.mono (by decide)) T.e_BadWord.b .nil pass0 (by rfl) T.e_BadWord.gC (pa_cons pe_str pa_nil))))
      pss_nil)
    (pss_one (ps_ret (pe_tm PySem.F.slot_tuple_index PySem.F.type_tuple_index mt_tup_index (pe_fld (pv 0) rfl) (pa_cons (pv 1) pa_nil))))), ?_⟩
    refine go_seq (go_if (go_or2 (go_not (go_b ⟨v, rfl, v, txtV v, rfl, hv, _, rfl, ?_⟩))))
    have fl : (ws.map tx).all flatV = true := by
      rw [List.all_map, List.all_eq_true]
      exact fun w _ => rfl
    cases hb : (txtV v).elim false wordB with
    | false =>
      refine iteT (B := _) (iteT (B := _) ?_)
      refine mk_part T.e_BadWord.oex T.e_BadWord.np fun d H' e2 hd => he (fun w hwm e => ?_) d H' e2 hd
      rw [e, txt_tx] at hb
      have := hw w hwm
      have hb : wordB w = false := hb
      rw [this] at hb
      cases hb
    | true =>
      refine iteF (A := _) ?_
      have fv : flatV v = true := by
        cases v with
        | str x => rfl
        | _ => cases hb
      refine go_test (go_op (go_var rfl ⟨_, rfl, a, T.C_Book, dx, _, .ref t, rfl, ha, T.cl_Book, T.na_Book_words, rfl, t, _, rfl, .inr ht, fv, fl, _, rfl, ?_⟩))
      show if (!inV v (ws.map tx)) = true then _ else _
      by_cases hm : inV v (ws.map tx) = true
      · rw [hm]
        refine iteF (A := _) ?_
        dsimp only [tNext]
        obtain ⟨w, hwm, rfl⟩ := (inV_texts ws).mp hm
        obtain ⟨j, h1, h2⟩ := first_at ws w hwm
        refine go_ret ⟨_, rfl, a, T.C_Book, dx, _, .ref t, rfl, ha, T.cl_Book, T.na_Book_words, rfl, ⟨t, rfl, hn⟩, _, rfl, t, ws.map S, S w, j, rfl, rfl, ?_, ?_, ?_, q j w rfl h1 h2⟩
        · have e : (ws.map S).map V.str = ws.map tx := by
            rw [List.map_map]
            rfl
          rw [e]
          exact ht
        · rw [List.getElem?_map, h1]
          rfl
        · intro m hm e
          rw [List.getElem?_map] at e
          cases hz : ws[m]? with
          | none => rw [hz] at e; cases e
          | some u =>
            rw [hz] at e
            have e' : S u = S w := Option.some.inj e
            have : u = w := by
              have := congrArg (fun z : Str => z.cps.toList) e'
              simpa [S] using this
            exact h2 m hm (by rw [hz, this])
      · have hm : inV v (ws.map tx) = false := by simpa using hm
        rw [hm]
        refine iteT (B := _) ?_
        refine mk_part T.e_BadWord.oex T.e_BadWord.np fun d H' e2 hd => he (fun w hwm e => ?_) d H' e2 hd
        have h : inV v (ws.map tx) = true := (inV_texts ws).mpr ⟨w, hwm, e⟩
        rw [h] at hm
        cases hm
/-! ### the plain words -/
def plainT : List Str := ["outset", "uplift", "advance", "prepare", "augment", "lessen", "multiply", "portion", "exchange", "inquire", "proclaim", "obtain", "cipher", "single", "couple", "tripled", "quarter", "fivefold", "hexagon", "weekday", "nothing", "duplicate", "deposit", "whether", "negative", "granted", "otherwise", "anyway", "journey", "finish"]
def plainL : List (List Nat) := plainT.map fun s => s.cps.toList
theorem plain_tx : plainT.map V.str = plainL.map tx := by
  unfold plainL tx
  rw [List.map_map]
  exact List.map_congr_left fun s _ => by
    show V.str s = V.str (S s.cps.toList)
    rw [S_of]
theorem plain_len : plainL.length = 30 := by decide +kernel
theorem plain_word : ∀ w ∈ plainL, wordB w = true := by decide +kernel
theorem plain_nodup : plainL.Nodup := by decide +kernel
theorem plain_cd : ∀ w ∈ plainL, cdC w := by
  have h : plainL.all (fun l => l.all fun c => decide (c < 1114112)) = true := by decide +kernel
  exact fun w hw => List.all_eq_true.mp h w hw
def sp_plain_words (K : PySem.W.Frag) (D : Addr) : Sp := fun vs H Q _ => vs = [] ∧ Q (.ref D) H
theorem ok_plain_words : FnOk P w K mg base CX0 1 T.f_plain_words T.fd_plain_words [] (sp_plain_words K T.D_PLAIN_WORDS) := by
  refine T.F_plain_words.ok sc_plain_words (fun vs H Q E h => ?_) (fun cdv A outer s H vs Q E hr h => ?_)
  · obtain ⟨rfl, _⟩ := h
    rfl
  · obtain ⟨rfl, q⟩ := h
    refine ⟨_, (pss_one (ps_ret (pe_glob (v := .ref T.D_PLAIN_WORDS) (by rfl) T.gD_PLAIN_WORDS rfl))), ?_⟩
    exact go_ret (go_c q)
theorem plain_at (H : Hp) : SqT K H T.D_PLAIN_WORDS (plainL.map tx) := by
  rw [← plain_tx]
  exact T.tD_PLAIN_WORDS H
def sp_plain_book (K : PySem.W.Frag) (CB : Addr) : Sp := fun vs H Q _ => vs = [] ∧ ∀ (p : Addr) (H' : Hp), Same H H' → BookAt K CB H' p plainL → Q (.ref p) H'
theorem ok_plain_book : FnOk P w K mg base CX0 8 T.f_plain_book T.fd_plain_book [] (sp_plain_book K T.C_Book) := by
  refine T.F_plain_book.ok sc_plain_book (fun vs H Q E h => ?_) (fun cdv A outer s H vs Q E hr h => ?_)
  · obtain ⟨rfl, _⟩ := h
    rfl
  · obtain ⟨rfl, q⟩ := h
    refine ⟨_, (pss_one (ps_ret (pe_make T.mk_Book (ok_Book_init T) (hr.mono (by decide)) (by rfl) T.gC_Book T.b_Book_init .nil passF (pa_cons (pe_glob (v := .ref T.D_PLAIN_WORDS) (by rfl) T.gD_PLAIN_WORDS rfl) pa_nil)))), ?_⟩
    refine go_ret (go_make (go_cons (go_c (go_nil fun x dx nx ndx _ => ?_))))
    have hT := plain_at T H
    have h30 := plain_len
    refine book_new nx ndx (words_arg (.inr hT) (by omega) (by omega) (by decide) plain_word plain_nodup) ⟨_, rfl, .inr ⟨hT, ?_⟩⟩ fun H' e hb => ⟨rfl, q x H' e hb⟩
    exact .inr T.nD_PLAIN_WORDS
theorem split_one : Txt.split "outset uplift advance prepare augment lessen multiply portion exchange inquire proclaim obtain cipher single couple" " " = plainT.take 15 := by decide +kernel
theorem split_two : Txt.split "tripled quarter fivefold hexagon weekday nothing duplicate deposit whether negative granted otherwise anyway journey finish" " " = plainT.drop 15 := by decide +kernel
def sp_law_words (K : PySem.W.Frag) : Sp := fun vs H Q _ => vs = [] ∧ ∀ (p : Addr) (H' : Hp), Same H H' → H' p = some (.tup (plainL.map tx)) → Q (.ref p) H'
theorem ok_law_words : FnOk P w K mg base CX0 1 T.f_law_words T.fd_law_words [] (sp_law_words K) := by
  refine T.F_law_words.ok sc_law_words (fun vs H Q E h => ?_) (fun cdv A outer s H vs Q E hr h => ?_)
  · obtain ⟨rfl, _⟩ := h
    rfl
  · obtain ⟨rfl, q⟩ := h
    refine ⟨_, (pss_cons (ps_set (i := 0) sc_law_words.nd rfl (.inl rfl) pe_str)
    (pss_cons (ps_set (i := 1) sc_law_words.nd rfl (.inl rfl) pe_str)
    (pss_one (ps_ret (pe_callTy call_tuple_of (by rfl) T.m_tuple (by decide +kernel) (pa_cons (pe_op op_cat (pe_split (pv 0) pe_str) (pe_split (pv 1) pe_str)) pa_nil)))))), ?_⟩
    refine go_seq (go_asg (go_c ?_))
    dsimp only [gName]
    refine go_seq (go_asg (go_c ?_))
    dsimp only [gName]
    refine go_ret (go_cb (go_cons (go_op ?_)))
    refine ⟨_, rfl, ⟨_, rfl⟩, _, _, rfl, rfl, rfl, by decide +kernel, fun p1 n1 => ?_⟩
    refine ⟨_, rfl, ⟨_, rfl⟩, _, _, rfl, rfl, rfl, by decide +kernel, fun p2 n2 => ?_⟩
    rw [split_one] at n2 ⊢
    rw [split_two]
    have e1 := same_new (o := HO.lst ((plainT.take 15).map V.str)) n1
    have e2 := same_new (o := HO.lst ((plainT.drop 15).map V.str)) n2
    refine ⟨p1, p2, _, _, rfl, rfl, e2 _ _ upd_same, upd_same, by decide +kernel, fun p3 n3 => ?_⟩
    have e3 := same_new (o := HO.lst ((plainT.take 15).map V.str ++ (plainT.drop 15).map V.str)) n3
    refine go_nil ⟨p3, _, rfl, .inl ⟨.inl (.inl upd_same), fun p4 n4 => q p4 _ (e1.trans (e2.trans (e3.trans (same_new n4)))) ?_⟩⟩
    rw [upd_same, ← List.map_append, List.take_append_drop, plain_tx]
end
end K28
namespace K28
open PySem PySem.Spec PyProof.Rows L2 Kx SX LamX Ms
section
variable {P : Program} {w : World} {K : PySem.W.Frag} {mg : Str → Option Value} {base : Heap} (T : Tx K mg)
theorem pick_new {E : XK} {a c p : Addr} {n : Nat} {xs : List V} {H0 : Hp} {Q : VK} (np : H0 p = none) (wh : Wh H0 a c n) (hn : n < 1000000) (h0 : xs ≠ []) (hl : xs.length ≤ 1000000) (q : ∀ v H', v ∈ xs → Mv a H0 H' → Wh H' a c (n + 1) → Q v H') : sp_law_pick K [.ref a, .ref p] (upd H0 p (.lst xs)) Q E := by
  have hpa := wh.ne np
  exact ⟨a, p, c, xs, n, rfl, .inl (.inl upd_same), h0, hl, wh.new np, hn, fun H' m => .inl (.inl (m _ _ hpa upd_same)), fun v H' hv m w' => q v H' hv ((Mv.of (same_new np)).trans m) w'⟩
theorem big_a : Bi 82 ((8 : Int) ^ (11 : Int).toNat - 1) := by show ((8 : Int) ^ 11 - 1).natAbs < 2 ^ 82; decide
theorem big_b : Bi 82 (-((7 : Int) ^ (29 : Int).toNat)) := by show (-((7 : Int) ^ 29)).natAbs < 2 ^ 82; decide
theorem big_c : Bi 82 ((7 : Int) ^ (20 : Int).toNat) := by show ((7 : Int) ^ 20).natAbs < 2 ^ 82; decide
theorem big_d : Bi 82 ((10 : Int) ^ (12 : Int).toNat) := by show ((10 : Int) ^ 12).natAbs < 2 ^ 82; decide
theorem isC_cell {l : List (Int × Int)} (up : l.Pairwise fun p q => p.1 < q.1) (nz : ∀ p ∈ l, p.2 ≠ 0) : IsC l (cellOf l) := by
  refine ⟨up, fun c v => ⟨fun m => ?_, fun ⟨h, hv⟩ => ?_⟩⟩
  · obtain ⟨i, hi⟩ := List.getElem?_of_mem m
    refine ⟨?_, nz _ m⟩
    unfold cellOf
    rw [find_at (fun p => p.1 == c) l hi (by simp) fun j q hji hq => ?_]
    obtain ⟨h1, e1⟩ := List.getElem?_eq_some_iff.mp hi
    obtain ⟨h2, e2⟩ := List.getElem?_eq_some_iff.mp hq
    have := List.pairwise_iff_getElem.mp up j i h2 h1 hji
    rw [e1, e2] at this
    have : q.1 ≠ c := by
      have : q.1 < c := this
      omega
    simpa using this
  · unfold cellOf at h
    cases hf : l.find? (fun p => p.1 == c) with
    | none => rw [hf] at h; exact absurd h.symm hv
    | some p =>
      rw [hf] at h
      have h1 := List.mem_of_find?_eq_some hf
      have h2 : p.1 = c := by simpa using List.find?_some hf
      have h3 : p.2 = v := h
      rw [← h2, ← h3]
      exact h1
/-! ### parts that are drawn -/
def seqO (k : Bool) (xs : List V) : HO := if k = true then .lst xs else .tup xs
def seqD (k : Bool) (ds : List PyData) : PyData := if k = true then .list ds else .tuple ds
theorem seqO_q {H : Hp} {a : Addr} {k : Bool} {xs : List V} (h : H a = some (seqO k xs)) : SqQ K H a xs := by
  cases k with
  | true => exact .inl (.inl (.inl h))
  | false => exact .inr (.inl (.inl h))
theorem seqO_dp {H : Hp} {a : Addr} {k : Bool} {xs : List V} {ds : List PyData} (h : H a = some (seqO k xs)) (hd : DpAll K H xs ds) : Dp K H (.ref a) (seqD k ds) := by
  cases k with
  | true => exact .lst (.inl (.inl h)) hd
  | false => exact .tup (.inl (.inl h)) hd
def pairV (p : Int × Int) : List V := [.int p.1, .int p.2]
/-- pairs at places other than the shelf's -/
def PairsW (w : Addr) (H : Hp) (qs : List (Addr × Bool)) (l : List (Int × Int)) : Prop := Paired (fun (q : Addr × Bool) (p : Int × Int) => q.1 ≠ w ∧ H q.1 = some (seqO q.2 (pairV p))) qs l
theorem PairsW.mv {w : Addr} {H H' : Hp} {qs : List (Addr × Bool)} {l : List (Int × Int)} (h : PairsW w H qs l) (m : Mv w H H') : PairsW w H' qs l := Paired.mapP h fun _ _ z => ⟨z.1, m _ _ z.1 z.2⟩
theorem PairsW.q {w : Addr} {H : Hp} {qs : List (Addr × Bool)} {l : List (Int × Int)} (h : PairsW w H qs l) : Paired (fun (q : Addr) (p : Int × Int) => SqQ K H q [.int p.1, .int p.2]) (qs.map (·.1)) l := by
  induction h with
  | nil => exact .nil
  | cons h _ ih => exact .cons (seqO_q h.2) ih
def refsV (qs : List (Addr × Bool)) : List V := qs.map fun q => V.ref q.1
theorem refsV_eq (qs : List (Addr × Bool)) : refsV qs = (qs.map (·.1)).map V.ref := by
  unfold refsV
  rw [List.map_map]
  rfl
def cellD (q : Addr × Bool) (p : Int × Int) : PyData := seqD q.2 [.int p.1, .int p.2]
theorem PairsW.dp {w : Addr} {H : Hp} {qs : List (Addr × Bool)} {l : List (Int × Int)} (h : PairsW w H qs l) : DpAll K H (refsV qs) (List.zipWith cellD qs l) := by
  induction h with
  | nil => exact .nil
  | cons h _ ih => exact .cons (seqO_dp h.2 (.cons (.int _) (.cons (.int _) .nil))) ih
/-- twelve parts of a stand in a list -/
structure PartsAt (H : Hp) (w P : Addr) (s : Mst) (c sd : Addr) (l : List (Int × Int)) (kc ks : Bool) (qs : List (Addr × Bool)) : Prop where
  at_ : H P = some (.lst (standV s c sd))
  pw : P ≠ w
  cat : H c = some (seqO kc (refsV qs))
  cw : c ≠ w
  pat : PairsW w H qs l
  sat : H sd = some (seqO ks (s.said.map V.int))
  sw : sd ≠ w
  isC : IsC l s.cells
  len : l.length ≤ 3
  sln : s.said.length ≤ 3
  bd : Bd 110 s
theorem PartsAt.mv {H H' : Hp} {w P c sd : Addr} {s : Mst} {l : List (Int × Int)} {kc ks : Bool} {qs : List (Addr × Bool)} (h : PartsAt H w P s c sd l kc ks qs) (m : Mv w H H') : PartsAt H' w P s c sd l kc ks qs :=
  { h with at_ := m _ _ h.pw h.at_, cat := m _ _ h.cw h.cat, pat := h.pat.mv m, sat := m _ _ h.sw h.sat }
theorem PartsAt.made {H : Hp} {w P c sd : Addr} {s : Mst} {l : List (Int × Int)} {kc ks : Bool} {qs : List (Addr × Bool)} (h : PartsAt H w P s c sd l kc ks qs) : MadeS K H s c sd l :=
  ⟨⟨qs.map (·.1), by rw [← refsV_eq]; exact seqO_q h.cat, h.pat.q⟩, h.isC, Nat.le_trans h.len (by decide), seqO_q h.sat, Nat.le_trans h.sln (by decide), h.bd.low, h.bd.mode⟩
theorem PairsW.set {w cl : Addr} {H : Hp} {qs qs0 : List (Addr × Bool)} {l : List (Int × Int)} {o : HO} (h : PairsW w H qs l) (hc : H cl = some (.lst (refsV qs0))) : PairsW w (upd H cl o) qs l := Paired.mapP h fun q p z => by
  refine ⟨z.1, ?_⟩
  rw [upd_ne (ne_of_two z.2 hc (fun y => ?_))]
  · exact z.2
  · obtain ⟨a, k⟩ := q
    cases k with
    | false => cases y
    | true =>
      have y : HO.lst (pairV p) = HO.lst (refsV qs0) := y
      injection y with y
      cases qs0 with
      | nil => cases y
      | cons a r => injection y with y1 y2; cases y1
theorem paired_snoc {α β : Type} {R : α → β → Prop} {xs : List α} {ys : List β} {x : α} {y : β} (h : Paired R xs ys) (k : R x y) : Paired R (xs ++ [x]) (ys ++ [y]) := by
  induction h with
  | nil => exact .cons k .nil
  | cons h _ ih => exact .cons h ih
def sp_law_number (K : PySem.W.Frag) : Sp := fun vs H Q _ => ∃ (a c : Addr) (n : Nat), vs = [.ref a] ∧ Wh H a c n ∧ n < 900000 ∧ ∀ (i : Int) (H' : Hp), Bi 110 i → Mv a H H' → Wh H' a c (n + 3) → Q (.int i) H'
theorem ok_law_number : FnOk P w K mg base CX0 3 T.f_law_number T.fd_law_number ["shelf"] (sp_law_number K) := by
  refine T.F_law_number.ok sc_law_number (fun vs H Q E h => ?_) (fun cdv A outer s H vs Q E hr h => ?_)
  · obtain ⟨a, c, n, rfl, _⟩ := h
    rfl
  · obtain ⟨w, c, n, rfl, wh, hn, q⟩ := h
    refine ⟨_, (pss_one (ps_ret (pe_call (ok_law_pick T) (hr.mono (by decide)) (by rfl) T.g_law_pick T.F_law_pick.kp T.b_law_pick .nil pass0 (pa_cons (pv 0) (pa_cons (pe_lst (pa_cons (pe_op op_sub (pe_call (ok_law_deal T) (hr.mono (by decide)) (by rfl) T.g_law_deal T.F_law_deal.kp T.b_law_deal .nil pass0 (pa_cons (pv 0) (pa_cons pe_int pa_nil))) pe_int) (pa_cons pe_int (pa_cons (pe_op op_add (pe_op op_pow pe_int pe_int) (pe_call (ok_law_deal T) (hr.mono (by decide)) (by rfl) T.g_law_deal T.F_law_deal.kp T.b_law_deal .nil pass0 (pa_cons (pv 0) (pa_cons pe_int pa_nil)))) (pa_cons (pe_un un_neg (pe_op op_pow pe_int pe_int)) pa_nil))))) pa_nil))))), ?_⟩
    refine go_ret ?_
    refine ⟨_, rfl, ?_⟩
    refine go_cons (go_lst (go_cons (go_op ?_)))
    refine ⟨_, rfl, w, c, 9, _, rfl, by decide, by decide, wh, by omega, fun r1 H1 a0 a1 m1 w1 => go_c ⟨_, _, rfl, rfl, ?_⟩⟩
    refine go_cons (go_c (go_cons (go_op (go_op (go_c (go_c ⟨_, _, rfl, rfl, ⟨by decide, by decide, by decide⟩, ?_⟩))))))
    refine ⟨_, rfl, w, c, 9, _, rfl, by decide, by decide, w1, by omega, fun r2 H2 a2 a3 m2 w2 => ⟨_, _, rfl, rfl, ?_⟩⟩
    refine go_cons ?_
    refine go_op (go_c (go_c ⟨_, _, rfl, rfl, ⟨by decide, by decide, by decide⟩, _, rfl, ?_⟩))
    refine go_nil ⟨show 4 ≤ sizeLine by decide, fun p np => go_nil (pick_new np w2 (by omega) (by simp) (show 4 ≤ 1000000 by decide) fun v H3 hv m3 w3 => ?_)⟩
    have mv := (m1.trans m2).trans m3
    have sm : ∀ i : Int, -1000000 ≤ i → i ≤ 1000000 → Bi 110 i := fun i h k => bi_small h k (by decide)
    simp only [List.mem_cons, List.not_mem_nil, or_false] at hv
    rcases hv with rfl | rfl | rfl | rfl
    · exact q _ _ (sm _ (by omega) (by omega)) mv w3
    · exact q _ _ (sm _ (by decide) (by decide)) mv w3
    · refine q _ _ ?_ mv w3
      refine Nat.lt_of_lt_of_le (show ((10 : Int) ^ 30 + r2).natAbs < 2 ^ 101 by
        have : (10 : Int) ^ 30 = 1000000000000000000000000000000 := by decide
        rw [this]
        have h2 : (2 : Nat) ^ 101 = 2535301200456458802993406410752 := by decide
        rw [h2]
        omega) (Nat.pow_le_pow_right (by decide) (by decide))
    · refine q _ _ ?_ mv w3
      exact Nat.lt_of_lt_of_le (show (-(10 : Int) ^ 20).natAbs < 2 ^ 70 by decide) (Nat.pow_le_pow_right (by decide) (by decide))
def sp_law_parts (K : PySem.W.Frag) : Sp := fun vs H Q _ => ∃ (w c0 : Addr) (n : Nat), vs = [.ref w] ∧ Wh H w c0 n ∧ n < 800000 ∧
  ∀ (P c sd : Addr) (s : Mst) (l : List (Int × Int)) (kc ks : Bool) (qs : List (Addr × Bool)) (H' : Hp), PartsAt H' w P s c sd l kc ks qs → Mv w H H' → Wh H' w c0 (n + 60) → Q (.ref P) H'
theorem ok_law_parts : FnOk P w K mg base CX0 4 T.f_law_parts T.fd_law_parts ["shelf"] (sp_law_parts K) := by
  refine T.F_law_parts.ok sc_law_parts (fun vs H Q E h => ?_) (fun cdv A outer s H vs Q E hr h => ?_)
  · obtain ⟨w, c0, n, rfl, _⟩ := h
    rfl
  · obtain ⟨w, c0, n, rfl, wh, hn, q⟩ := h
    refine ⟨_, (pss_cons (ps_par (i := 1) (j := 2) rfl sc_law_parts.nd rfl rfl (by decide) rfl rfl (pa_cons (pe_lst pa_nil) (pa_cons (pe_op op_sub (pe_call (ok_law_deal T) (hr.mono (by decide)) (by rfl) T.g_law_deal T.F_law_deal.kp T.b_law_deal .nil pass0 (pa_cons (pv 0) (pa_cons pe_int pa_nil))) pe_int) pa_nil)) (by rfl))
    (pss_cons (ps_for PassesOwn.never rfl (pi_range1 (by rfl) T.m_range (pa_cons (pe_call (ok_law_deal T) (hr.mono (by decide)) (by rfl) T.g_law_deal T.F_law_deal.kp T.b_law_deal .nil pass0 (pa_cons (pv 0) (pa_cons pe_int pa_nil))) pa_nil)) (pg_name (i := 3) sc_law_parts.nd rfl (.inl rfl))
      (pss_cons (ps_expr (pe_bm PySem.F.plainAttrs_list PySem.F.slot_list_append PySem.F.type_list_append mt_append (pv 1) (pa_cons (pe_call (ok_law_pick T) (hr.mono (by decide)) (by rfl) T.g_law_pick T.F_law_pick.kp T.b_law_pick .nil pass0 (pa_cons (pv 0) (pa_cons (pe_lst (pa_cons (pe_tup (pa_cons (pv 2) (pa_cons (pe_op op_add pe_int (pe_call (ok_law_deal T) (hr.mono (by decide)) (by rfl) T.g_law_deal T.F_law_deal.kp T.b_law_deal .nil pass0 (pa_cons (pv 0) (pa_cons pe_int pa_nil)))) pa_nil))) (pa_cons (pe_lst (pa_cons (pv 2) (pa_cons (pe_un un_neg pe_int) pa_nil))) pa_nil))) pa_nil))) pa_nil)))
      (pss_one (ps_set (i := 2) sc_law_parts.nd rfl (.inl rfl) (pe_op op_add (pe_op op_add (pv 2) pe_int) (pe_call (ok_law_deal T) (hr.mono (by decide)) (by rfl) T.g_law_deal T.F_law_deal.kp T.b_law_deal .nil pass0 (pa_cons (pv 0) (pa_cons pe_int pa_nil))))))))
    (pss_cons (ps_setLc (i := 4) (own := [("turn", 3)]) rfl sc_law_parts.nd rfl rfl (sw_true rfl rfl rfl (by decide +kernel)) (pi_range1 (by rfl) T.m_range (pa_cons (pe_call (ok_law_deal T) (hr.mono (by decide)) (by rfl) T.g_law_deal T.F_law_deal.kp T.b_law_deal .nil pass0 (pa_cons (pv 0) (pa_cons pe_int pa_nil))) pa_nil)) (blkOk_by (own := [("turn", 3)]) (N := ["shelf", "cells", "at", "turn", "said", "found"]) (sc := defScope s_law_parts) (by decide +kernel)) (fun _ _ _ _ _ => (pg_name (i := 3) sc_law_parts.nd rfl (.inl rfl))) (fun _ _ _ _ _ => pts_nil) (fun _ _ _ _ _ => (pe_call (ok_law_number T) (hr.mono (by decide)) (by rfl) T.g_law_number T.F_law_number.kp T.b_law_number .nil pass0 (pa_cons (pv 0) pa_nil))))
    (pss_cons (ps_set (i := 5) sc_law_parts.nd rfl (.inl rfl) (pe_op op_cat (pe_op op_cat (pe_lst (pa_cons (pe_op op_sub (pe_call (ok_law_deal T) (hr.mono (by decide)) (by rfl) T.g_law_deal T.F_law_deal.kp T.b_law_deal .nil pass0 (pa_cons (pv 0) (pa_cons pe_int pa_nil))) pe_int) (pa_cons (pe_call (ok_law_number T) (hr.mono (by decide)) (by rfl) T.g_law_number T.F_law_number.kp T.b_law_number .nil pass0 (pa_cons (pv 0) pa_nil)) pa_nil))) (pe_lc (own := [("turn", 3)]) rfl sc_law_parts.nd (pi_range1 (by rfl) T.m_range (pa_cons pe_int pa_nil)) (blkOk_by (own := [("turn", 3)]) (N := ["shelf", "cells", "at", "turn", "said", "found"]) (sc := defScope s_law_parts) (by decide +kernel)) (fun _ _ _ _ _ => (pg_name (i := 3) sc_law_parts.nd rfl (.inl rfl))) (fun _ _ _ _ _ => pts_nil) (fun _ _ _ _ _ => (pe_cmpR op_eq (pe_call (ok_law_deal T) (hr.mono (by decide)) (by rfl) T.g_law_deal T.F_law_deal.kp T.b_law_deal .nil pass0 (pa_cons (pv 0) (pa_cons pe_int pa_nil))) pe_int (nomark _))))) (pe_lst (pa_cons (pe_call (ok_law_deal T) (hr.mono (by decide)) (by rfl) T.g_law_deal T.F_law_deal.kp T.b_law_deal .nil pass0 (pa_cons (pv 0) (pa_cons pe_int pa_nil))) pa_nil))))
    (pss_cons (ps_set (i := 5) sc_law_parts.nd rfl (.inl rfl) (pe_op op_cat (pv 5) (pe_lst (pa_cons (pe_call (ok_law_number T) (hr.mono (by decide)) (by rfl) T.g_law_number T.F_law_number.kp T.b_law_number .nil pass0 (pa_cons (pv 0) pa_nil)) (pa_cons (pe_call (ok_law_number T) (hr.mono (by decide)) (by rfl) T.g_law_number T.F_law_number.kp T.b_law_number .nil pass0 (pa_cons (pv 0) pa_nil)) (pa_cons (pe_call (ok_law_pick T) (hr.mono (by decide)) (by rfl) T.g_law_pick T.F_law_pick.kp T.b_law_pick .nil pass0 (pa_cons (pv 0) (pa_cons (pe_lst (pa_cons (pv 1) (pa_cons (pe_callTy call_tuple_of (by rfl) T.m_tuple (by decide +kernel) (pa_cons (pv 1) pa_nil)) pa_nil))) pa_nil))) (pa_cons (pe_call (ok_law_deal T) (hr.mono (by decide)) (by rfl) T.g_law_deal T.F_law_deal.kp T.b_law_deal .nil pass0 (pa_cons (pv 0) (pa_cons pe_int pa_nil))) pa_nil)))))))
    (pss_one (ps_ret (pe_op op_cat (pv 5) (pe_lst (pa_cons (pe_call (ok_law_pick T) (hr.mono (by decide)) (by rfl) T.g_law_pick T.F_law_pick.kp T.b_law_pick .nil pass0 (pa_cons (pv 0) (pa_cons (pe_lst (pa_cons (pv 4) (pa_cons (pe_callTy call_tuple_of (by rfl) T.m_tuple (by decide +kernel) (pa_cons (pv 4) pa_nil)) pa_nil))) pa_nil))) (pa_cons (pe_cmpR op_eq (pe_call (ok_law_deal T) (hr.mono (by decide)) (by rfl) T.g_law_deal T.F_law_deal.kp T.b_law_deal .nil pass0 (pa_cons (pv 0) (pa_cons pe_int pa_nil))) pe_int (nomark _)) pa_nil))))))))))), ?_⟩
    refine go_seq (go_par2 (go_cons (go_lst (go_nil ⟨Nat.zero_le _, fun cl ncl => ?_⟩))))
    have e1 := same_new (o := HO.lst []) ncl
    have hc0 := upd_same (H := H) (a := cl) (o := HO.lst [])
    have w1 := wh.same e1
    have clw := wh.ne ncl
    have ncl0 := ncl
    generalize upd H cl (.lst []) = H1 at e1 hc0 w1 ⊢
    refine go_cons (go_op ?_)
    refine ⟨_, rfl, w, c0, 9, _, rfl, by decide, by decide, w1, by omega, fun r1 H3 a0 a1 m2 w3 => go_c ⟨_, _, rfl, rfl, ?_⟩⟩
    have hc3 := m2 _ _ clw hc0
    have mv3 := (Mv.of e1).trans m2
    refine go_nil ⟨_, _, rfl, ?_⟩
    dsimp only
    clear hc0 m2 e1 w1 ncl
    obtain ⟨at0, eat⟩ : ∃ z, z = r1 - 6 := ⟨_, rfl⟩
    rw [← eat]
    refine go_seq ?_
    refine ⟨_, rfl, w, c0, 4, _, rfl, by decide, by decide, w3, by omega, fun kc0 H4 k0 k1 m4 w4 => ⟨kc0, rfl, by omega, by omega, ?_⟩⟩
    refine for_range (lo := 0) (n := kc0.toNat) (fun j σ H' => ∃ (o3 o4 o5 : Option V) (at_ : Int) (qs : List (Addr × Bool)) (l : List (Int × Int)), σ = [some (.ref w), some (.ref cl), some (.int at_), o3, o4, o5] ∧ H' cl = some (.lst (refsV qs)) ∧ PairsW w H' qs l ∧ l.length = j ∧ l.Pairwise (fun p q => p.1 < q.1) ∧ (∀ p ∈ l, p.2 ≠ 0 ∧ p.1 < at_ ∧ -100 ≤ p.1 ∧ p.1 ≤ 100 ∧ -100 ≤ p.2 ∧ p.2 ≤ 100) ∧ (-10 ≤ at_ ∧ at_ ≤ 3 + 5 * (j : Int)) ∧ Mv w H H' ∧ Wh H' w c0 (n + 2 + 3 * j))
      ⟨_, _, _, at0, [], [], rfl, m4 _ _ clw hc3, .nil, rfl, .nil, fun p m => (by cases m), ?_, mv3.trans m4, w4.lt (by omega)⟩ (fun j σ' Ha hj h => ?_) (fun σ' Ha h => ?_)
    · omega
    · clear hc3 mv3 w3 m4 w4
      obtain ⟨o3, o4, o5, at_, qs, l, rfl, hcl, hP, hl, up, hb, hat, mv, wd⟩ := h
      have hj3 : j < 3 := by omega
      dsimp only [gName]
      refine go_seq (go_drop (go_bm (go_var rfl ⟨.inl ⟨rfl, _, .inl (.inl hcl)⟩, go_cons ?_⟩)))
      refine ⟨_, rfl, ?_⟩
      refine go_cons (go_lst (go_cons (go_tup (go_cons (go_var rfl (go_cons (go_op (go_c ?_))))))))
      refine ⟨_, rfl, w, c0, 5, _, rfl, by decide, by decide, wd, by omega, fun r H5 b0 b1 m5 w5 => ⟨_, _, rfl, rfl, ?_⟩⟩
      refine go_nil ⟨sz2, fun t1 n1 => ?_⟩
      have f1 := same_new (o := HO.tup [V.int at_, V.int (1 + r)]) n1
      have h1 := upd_same (H := H5) (a := t1) (o := HO.tup [V.int at_, V.int (1 + r)])
      have tw1 := w5.ne n1
      have w6 := w5.same f1
      generalize upd H5 t1 (.tup [V.int at_, V.int (1 + r)]) = H6 at f1 h1 w6 ⊢
      refine go_cons (go_lst (go_cons (go_var rfl (go_cons ?_))))
      refine ⟨_, rfl, ?_⟩
      refine go_nil ⟨sz2, fun t2 n2 => ?_⟩
      have f2 := same_new (o := HO.lst [V.int at_, V.int (-7)]) n2
      have h2 := upd_same (H := H6) (a := t2) (o := HO.lst [V.int at_, V.int (-7)])
      have tw2 := w6.ne n2
      have w7 := w6.same f2
      generalize upd H6 t2 (.lst [V.int at_, V.int (-7)]) = H7 at f2 h2 w7 ⊢
      refine go_nil ⟨sz2, fun pp np => go_nil (pick_new np w7 (by omega) (by simp) (show 2 ≤ 1000000 by decide) fun v H8 hv m8 w8 => ?_)⟩
      obtain ⟨q0, k0', p2, rfl, hq0, hqw, p2n, p2a, p2b⟩ : ∃ (q0 : Addr) (k0' : Bool) (p2 : Int), v = .ref q0 ∧ H8 q0 = some (seqO k0' (pairV (at_, p2))) ∧ q0 ≠ w ∧ p2 ≠ 0 ∧ -100 ≤ p2 ∧ p2 ≤ 100 := by
        simp only [List.mem_cons, List.not_mem_nil, or_false] at hv
        rcases hv with rfl | rfl
        · exact ⟨t1, false, 1 + r, rfl, m8 _ _ tw1 (f2 _ _ h1), tw1, by omega, by omega, by omega⟩
        · exact ⟨t2, true, -7, rfl, m8 _ _ tw2 h2, tw2, by decide, by decide, by decide⟩
      have mA : Mv w Ha H8 := m5.trans ((Mv.of (f1.trans f2)).trans m8)
      have hcl8 := mA _ _ clw hcl
      have hP8 := hP.mv mA
      have mv8 := mv.trans mA
      clear hv np h1 h2 f1 f2 n1 n2 tw1 tw2 m5 w5 w6 w7 m8 mA hcl hP mv wd
      have ql : qs.length = l.length := by
        have := hP8.length
        exact this
      refine go_nil ⟨cl, _, _, rfl, rfl, hcl8, ?_, ?_⟩
      · show (refsV qs).length < sizeLine
        unfold refsV
        rw [List.length_map, ql]
        exact Nat.lt_trans (show l.length < 3 by omega) (by decide)
      have hq1 : PairsW w (upd H8 cl (.lst (refsV qs ++ [V.ref q0]))) (qs ++ [(q0, k0')]) (l ++ [(at_, p2)]) := by
        refine (show PairsW w (upd H8 cl (.lst (refsV qs ++ [V.ref q0]))) (qs ++ [(q0, k0')]) (l ++ [(at_, p2)]) from paired_snoc (hP8.set hcl8) ⟨hqw, ?_⟩)
        have z : PairsW w H8 [(q0, k0')] [(at_, p2)] := .cons ⟨hqw, hq0⟩ .nil
        have z2 := z.set (o := .lst (refsV qs ++ [V.ref q0])) hcl8
        cases z2 with
        | cons h _ => exact h.2
      have hc9 := upd_same (H := H8) (a := cl) (o := HO.lst (refsV qs ++ [V.ref q0]))
      have w9 : Wh (upd H8 cl (.lst (refsV qs ++ [V.ref q0]))) w c0 _ := w8.set clw (wh.nc ncl0)
      have mv9 : Mv w H (upd H8 cl (.lst (refsV qs ++ [V.ref q0]))) := fun b o hb' hz => by
        rw [upd_ne (ne_of_none hz ncl0)]
        exact mv8 b o hb' hz
      generalize upd H8 cl (.lst (refsV qs ++ [V.ref q0])) = H9 at hq1 hc9 w9 mv9 ⊢
      clear hcl8 hP8 mv8 hq0 w8
      dsimp only
      refine go_asg (go_op (go_op (go_var rfl (go_c ⟨_, _, rfl, rfl, ?_⟩))))
      refine ⟨_, rfl, w, c0, 3, _, rfl, by decide, by decide, w9, by omega, fun r3 Hx c1 c2 mx wx => ⟨_, _, rfl, rfl, ?_⟩⟩
      refine ⟨_, _, _, at_ + 1 + r3, qs ++ [(q0, k0')], l ++ [(at_, p2)], rfl, ?_, hq1.mv mx, ?_, ?_, ?_, ?_, mv9.trans mx, wx.lt (by omega)⟩
      · have := mx _ _ clw hc9
        rw [this]
        show some (HO.lst (refsV qs ++ [V.ref q0])) = some (HO.lst (refsV (qs ++ [(q0, k0')])))
        unfold refsV
        rw [List.map_append]
        rfl
      · rw [List.length_append, hl]
        rfl
      · rw [List.pairwise_append]
        refine ⟨up, List.pairwise_singleton _ _, fun a ha b hb' => ?_⟩
        rw [List.mem_singleton.mp hb']
        exact (hb a ha).2.1
      · intro p m
        rcases List.mem_append.mp m with m | m
        · obtain ⟨z1, z2, z3⟩ := hb p m
          exact ⟨z1, by omega, z3⟩
        · rw [List.mem_singleton.mp m]
          dsimp only
          exact ⟨p2n, by omega, by omega, by omega, p2a, p2b⟩
      · omega
    · clear hc3 mv3 w3 m4 w4
      obtain ⟨o3, o4, o5, at_, qs, l, rfl, hcl, hP, hl, up, hb, hat, mv, wd⟩ := h
      have l3 : l.length ≤ 3 := by omega
      have w0 := wd.lt (show n + 2 + 3 * kc0.toNat ≤ n + 12 by omega)
      clear wd hat
      dsimp only
      refine go_seq (go_asg ?_)
      refine ⟨_, rfl, w, c0, 4, _, rfl, by decide, by decide, w0, by omega, fun k H7' k0 k1 m6 w6 => ⟨k, rfl, by omega, by omega, fun D nD => ?_⟩⟩
      have dw : D ≠ w := w6.ne nD
      have dc : D ≠ c0 := w6.nc nD
      refine lc_it walk_range (fun j H' => ∃ sd : List Int, H' D = some (.lst (sd.map V.int)) ∧ sd.length = j ∧ (∀ i ∈ sd, Bi 110 i) ∧ Mv w H7' H' ∧ Wh H' w c0 (n + 13 + 3 * j)) ⟨[], upd_same, rfl, (fun _ m => nomatch m), Mv.of (same_new nD), (w6.new nD).lt (by omega)⟩ (fun _ _ _ _ => trivial) (fun j x Hd Hx hj h y => ?_) (fun Hd h => ?_)
      · obtain ⟨rfl, rfl⟩ := y
        obtain ⟨sd, hD, hl, hs, mv, wd⟩ := h
        refine ⟨rfl, ?_⟩
        refine iteT (B := True) ?_
        refine ⟨_, rfl, w, c0, _, rfl, wd, by omega, fun f H7 hf m7 w7 => ?_⟩
        have hD2 := m7 _ _ dw hD
        refine ⟨_, hD2, ?_, sd ++ [f], ?_, ?_, ?_, ?_, ?_⟩
        · rw [List.length_map, hl]
          exact Nat.lt_trans (show j < 4 by omega) (by decide)
        · rw [upd_same, List.map_append]
          rfl
        · rw [List.length_append, hl]
          rfl
        · intro i hi
          rcases List.mem_append.mp hi with hi | hi
          · exact hs i hi
          · rw [List.mem_singleton.mp hi]
            exact hf
        · intro b o hb hz
          rw [upd_ne (ne_of_none hz nD)]
          exact (mv.trans m7) b o hb hz
        · exact (w7.set dw dc).lt (by omega)
      obtain ⟨sd, hD, hsl, hsB, mv7, wd⟩ := h
      have s3 : sd.length ≤ 3 := by omega
      have mB := m6.trans mv7
      have hcl7 := mB _ _ clw hcl
      have hP7 := hP.mv mB
      have mvC := mv.trans mB
      have w8 := wd.lt (show n + 13 + 3 * k.toNat ≤ n + 25 by omega)
      clear m6 mv7 wd mB hcl hP mv w0 w6 nD
      dsimp only [gName]
      refine go_seq (go_asg (go_op (go_op (go_lst (go_cons (go_op ?_))))))
      refine ⟨_, rfl, w, c0, 5, _, rfl, by decide, by decide, w8, by omega, fun rb He b0 b1 me we => go_c ⟨_, _, rfl, rfl, ?_⟩⟩
      refine go_cons ?_
      refine ⟨_, rfl, w, c0, _, rfl, we, by omega, fun rm Hf hrm mf wf => ?_⟩
      refine go_nil ⟨sz2, fun a1 na1 => ?_⟩
      have m1 := me.trans mf
      have ma := m1.trans (Mv.of (same_new (o := HO.lst [V.int (rb - 1), V.int rm]) na1))
      have ha1 := upd_same (H := Hf) (a := a1) (o := HO.lst [V.int (rb - 1), V.int rm])
      have wa := wf.same (same_new (o := HO.lst [V.int (rb - 1), V.int rm]) na1)
      have aw1 := wf.ne na1
      dsimp only
      generalize upd Hf a1 (.lst [V.int (rb - 1), V.int rm]) = Hg at ma ha1 wa ⊢
      clear me mf m1 we wf na1 w8
      refine ⟨3, rfl, by decide, by decide, fun E1 nE => lc_it walk_range (fun j H' => ∃ bs : List Bool, H' E1 = some (.lst (bs.map V.bl)) ∧ bs.length = j ∧ Mv w Hg H' ∧ Wh H' w c0 (n + 29 + j)) ⟨[], upd_same, rfl, Mv.of (same_new nE), (wa.new nE).lt (by omega)⟩ (fun _ _ _ _ => trivial) (fun j x Hx' Hx hj h y => ?_) (fun Hx' h => ?_)⟩
      · obtain ⟨rfl, rfl⟩ := y
        obtain ⟨bs, hE, hl, mv, wd⟩ := h
        have ew := wa.ne nE
        refine ⟨rfl, ?_⟩
        refine iteT (B := True) ?_
        rw [if_pos rfl]
        refine go_op ?_
        refine ⟨_, rfl, w, c0, 2, _, rfl, by decide, by decide, wd, by omega, fun r H7 r0 r1 m7 w7 => go_c ⟨rfl, ?_⟩⟩
        have hE2 := m7 _ _ ew hE
        refine ⟨_, hE2, ?_, bs ++ [decide (V.int r = V.int 0)], ?_, ?_, ?_, ?_⟩
        · rw [List.length_map, hl]
          exact Nat.lt_trans (show j < 3 from hj) (by decide)
        · rw [upd_same, List.map_append]
          rfl
        · rw [List.length_append, hl]
          rfl
        · intro b o hb hz
          rw [upd_ne (ne_of_none hz nE)]
          exact (mv.trans m7) b o hb hz
        · exact (w7.set ew (wa.nc nE)).lt (by omega)
      obtain ⟨bs, hE, hbl, mE, wE⟩ := h
      have ew := wa.ne nE
      obtain ⟨t1, t2, t3, rfl⟩ : ∃ t1 t2 t3, bs = [t1, t2, t3] := by
        match bs, hbl with
        | [x, y, z], _ => exact ⟨x, y, z, rfl⟩
      refine ⟨a1, E1, _, _, rfl, rfl, mE _ _ aw1 ha1, hE, by show 5 ≤ sizeLine; decide, fun p2 np2 => ?_⟩
      have hp2 := upd_same (H := Hx') (a := p2) (o := HO.lst ([V.int (rb - 1), V.int rm] ++ [t1, t2, t3].map V.bl))
      have wp2 := wE.same (same_new (o := HO.lst ([V.int (rb - 1), V.int rm] ++ [t1, t2, t3].map V.bl)) np2)
      have mp2 := (ma.trans mE).trans (Mv.of (same_new (o := HO.lst ([V.int (rb - 1), V.int rm] ++ [t1, t2, t3].map V.bl)) np2))
      have pw2 := wE.ne np2
      generalize upd Hx' p2 (.lst ([V.int (rb - 1), V.int rm] ++ [t1, t2, t3].map V.bl)) = Hh at hp2 wp2 mp2 ⊢
      clear ma ha1 wa hE mE wE ew np2 nE aw1
      refine go_lst (go_cons ?_)
      refine ⟨_, rfl, w, c0, 3, _, rfl, by decide, by decide, wp2, by omega, fun md Hi md0 md1 mi wi => ?_⟩
      refine go_nil ⟨sz1, fun a3 na3 => ?_⟩
      refine ⟨p2, a3, _, _, rfl, rfl, (same_new na3) _ _ (mi _ _ pw2 hp2), upd_same, by show 6 ≤ sizeLine; decide, fun p3 np3 => ?_⟩
      have eX := (same_new (o := HO.lst [V.int md]) na3).trans (same_new (o := HO.lst ([V.int (rb - 1), V.int rm] ++ [t1, t2, t3].map V.bl ++ [V.int md])) np3)
      have mp3 := (mp2.trans mi).trans (Mv.of eX)
      have wp3 := wi.same eX
      have hp3 := upd_same (H := upd Hi a3 (.lst [V.int md])) (a := p3) (o := HO.lst ([V.int (rb - 1), V.int rm] ++ [t1, t2, t3].map V.bl ++ [V.int md]))
      have pw3 := (wi.same (same_new (o := HO.lst [V.int md]) na3)).ne np3
      generalize upd (upd Hi a3 (.lst [V.int md])) p3 (.lst ([V.int (rb - 1), V.int rm] ++ [t1, t2, t3].map V.bl ++ [V.int md])) = Hj at mp3 wp3 hp3 ⊢
      clear hp2 wp2 mp2 mi wi na3 np3 eX pw2
      dsimp only [gName]
      refine go_seq (go_asg (go_op (go_var rfl (go_lst (go_cons ?_)))))
      refine ⟨_, rfl, w, c0, _, rfl, wp3, by omega, fun fi Hk hfi mk wk => ?_⟩
      refine go_cons ?_
      refine ⟨_, rfl, w, c0, _, rfl, wk, by omega, fun se Hl hse ml wl => ?_⟩
      have mK := (mp3.trans mk).trans ml
      have hcl8 := mK _ _ clw hcl7
      refine go_cons ?_
      refine ⟨_, rfl, ?_⟩
      refine go_cons (go_lst (go_cons (go_var rfl (go_cons ?_))))
      refine ⟨_, rfl, cl, _, rfl, .inl ⟨.inl (.inl hcl8), fun tl ntl => ?_⟩⟩
      have eT := same_new (o := HO.tup (refsV qs)) ntl
      have hT := upd_same (H := Hl) (a := tl) (o := HO.tup (refsV qs))
      have tw := wl.ne ntl
      have wT := wl.same eT
      refine go_nil ⟨sz2, fun pp np => go_nil (pick_new np wT (by omega) (by simp) (show 2 ≤ 1000000 by decide) fun v Hm hv mm wm => ?_)⟩
      obtain ⟨cc, kc, rfl, hcc, ccw⟩ : ∃ (cc : Addr) (kc : Bool), v = .ref cc ∧ Hm cc = some (seqO kc (refsV qs)) ∧ cc ≠ w := by
        simp only [List.mem_cons, List.not_mem_nil, or_false] at hv
        rcases hv with rfl | rfl
        · exact ⟨cl, true, rfl, mm _ _ clw (eT _ _ hcl8), clw⟩
        · exact ⟨tl, false, rfl, mm _ _ tw hT, tw⟩
      have mM := mK.trans ((Mv.of eT).trans mm)
      have hp4 := ((mk.trans ml).trans ((Mv.of eT).trans mm)) _ _ pw3 hp3
      clear hv np hT tw wT eT ntl hcl8 mK mk wk ml wl mp3 wp3 hp3 mm
      refine go_cons ?_
      refine ⟨_, rfl, w, c0, 5, _, rfl, by decide, by decide, wm, by omega, fun he Hn he0 he1 mn wn => ?_⟩
      refine go_nil ⟨show 4 ≤ sizeLine by decide, fun a5 na5 => ?_⟩
      have hp5 := (same_new (o := HO.lst [V.int fi, V.int se, V.ref cc, V.int he]) na5) _ _ (mn _ _ pw3 hp4)
      refine ⟨p3, a5, _, _, rfl, rfl, hp5, upd_same, by show 10 ≤ sizeLine; decide, fun p6 np6 => ?_⟩
      have eX := (same_new (o := HO.lst [V.int fi, V.int se, V.ref cc, V.int he]) na5).trans (same_new (o := HO.lst ([V.int (rb - 1), V.int rm] ++ [t1, t2, t3].map V.bl ++ [V.int md] ++ [V.int fi, V.int se, V.ref cc, V.int he])) np6)
      have mN := (mM.trans mn).trans (Mv.of eX)
      have wN := wn.same eX
      have hcc6 := eX _ _ (mn _ _ ccw hcc)
      have hp6 := upd_same (H := upd Hn a5 (.lst [V.int fi, V.int se, V.ref cc, V.int he])) (a := p6) (o := HO.lst ([V.int (rb - 1), V.int rm] ++ [t1, t2, t3].map V.bl ++ [V.int md] ++ [V.int fi, V.int se, V.ref cc, V.int he]))
      have pw6 := (wn.same (same_new (o := HO.lst [V.int fi, V.int se, V.ref cc, V.int he]) na5)).ne np6
      generalize upd (upd Hn a5 (.lst [V.int fi, V.int se, V.ref cc, V.int he])) p6 (.lst ([V.int (rb - 1), V.int rm] ++ [t1, t2, t3].map V.bl ++ [V.int md] ++ [V.int fi, V.int se, V.ref cc, V.int he])) = Ho at mN wN hcc6 hp6 ⊢
      clear mM hp4 hp5 mn wn na5 np6 eX wm hcc
      dsimp only [gName]
      refine go_ret (go_op (go_var rfl (go_lst (go_cons ?_))))
      refine ⟨_, rfl, ?_⟩
      refine go_cons (go_lst (go_cons (go_var rfl (go_cons ?_))))
      have hD6 := mN _ _ dw hD
      refine ⟨_, rfl, D, _, rfl, .inl ⟨.inl (.inl hD6), fun tl ntl => ?_⟩⟩
      have eT := same_new (o := HO.tup (sd.map V.int)) ntl
      have hT := upd_same (H := Ho) (a := tl) (o := HO.tup (sd.map V.int))
      have tw := wN.ne ntl
      have wT := wN.same eT
      refine go_nil ⟨sz2, fun pp np => go_nil (pick_new np wT (by omega) (by simp) (show 2 ≤ 1000000 by decide) fun v Hp hv mp wp => ?_)⟩
      obtain ⟨sc, ks, rfl, hsc, scw⟩ : ∃ (sc : Addr) (ks : Bool), v = .ref sc ∧ Hp sc = some (seqO ks (sd.map V.int)) ∧ sc ≠ w := by
        simp only [List.mem_cons, List.not_mem_nil, or_false] at hv
        rcases hv with rfl | rfl
        · exact ⟨D, true, rfl, mp _ _ dw (eT _ _ hD6), dw⟩
        · exact ⟨tl, false, rfl, mp _ _ tw hT, tw⟩
      have mP := (Mv.of eT).trans mp
      clear hv np hT tw wT eT ntl hD6 mp
      refine go_cons (go_op ?_)
      refine ⟨_, rfl, w, c0, 2, _, rfl, by decide, by decide, wp, by omega, fun dn Hq dn0 dn1 mq wq => go_c ⟨rfl, ?_⟩⟩
      refine go_nil ⟨sz2, fun a7 na7 => ?_⟩
      have mQ := mP.trans mq
      have hp7 := (same_new (o := HO.lst [V.ref sc, V.bl (decide (V.int dn = V.int 0))]) na7) _ _ (mQ _ _ pw6 hp6)
      refine ⟨p6, a7, _, _, rfl, rfl, hp7, upd_same, by show 12 ≤ sizeLine; decide, fun p8 np8 => ?_⟩
      have eX := (same_new (o := HO.lst [V.ref sc, V.bl (decide (V.int dn = V.int 0))]) na7).trans (same_new (o := HO.lst ([V.int (rb - 1), V.int rm] ++ [t1, t2, t3].map V.bl ++ [V.int md] ++ [V.int fi, V.int se, V.ref cc, V.int he] ++ [V.ref sc, V.bl (decide (V.int dn = V.int 0))])) np8)
      have mR := (mN.trans mQ).trans (Mv.of eX)
      have pw8 := (wq.same (same_new (o := HO.lst [V.ref sc, V.bl (decide (V.int dn = V.int 0))]) na7)).ne np8
      obtain ⟨hn, rfl⟩ : ∃ z : Nat, he = z := ⟨he.toNat, by omega⟩
      have iC : IsC l (cellOf l) := isC_cell up fun p m => (hb p m).1
      have sm : ∀ i : Int, -1000000 ≤ i → i ≤ 1000000 → Bi 110 i := fun i h k => bi_small h k (by decide)
      have cb : ∀ k, cellOf l k ≠ 0 → (k, cellOf l k) ∈ l := fun k hk => (iC.mem k _).mpr ⟨rfl, hk⟩
      refine q p8 cc sc ⟨rb - 1, rm, t1, t2, t3, md, fi, se, cellOf l, hn, sd, decide (V.int dn = V.int 0)⟩ l kc ks qs _ ⟨upd_same, pw8, eX _ _ (mQ _ _ ccw hcc6), ccw, hP7.mv mR, eX _ _ (mq _ _ scw hsc), scw, iC, l3, s3, ?_⟩ (mvC.trans mR) ((wq.same eX).lt (by omega))
      exact ⟨sm _ (by show -1000000 ≤ rb - 1; omega) (by show rb - 1 ≤ 1000000; omega), hrm, hfi, hse, fun k => by
          show Bi 110 (cellOf l k)
          by_cases z : cellOf l k = 0
          · rw [z]
            exact sm _ (by decide) (by decide)
          · obtain ⟨_, _, _, _, z4, z5⟩ := hb _ (cb k z)
            exact sm _ (by have : -100 ≤ cellOf l k := z4; omega) (by have : cellOf l k ≤ 100 := z5; omega), fun k z => by
          obtain ⟨_, _, z2, z3, _⟩ := hb _ (cb k z)
          exact sm _ (by have : -100 ≤ k := z2; omega) (by have : k ≤ 100 := z3; omega), hsB, ⟨md0, by show md ≤ 2; omega⟩, by show hn ≤ 100000; omega, by show -1 ≤ rb - 1; omega⟩
end
end K28
namespace K28
open PySem PySem.Spec PyProof.Rows L2 Kx SX LamX Ms
section
variable {P : Program} {w : World} {K : PySem.W.Frag} {mg : Str → Option Value} {base : Heap} (T : Tx K mg)
theorem FitsV.same {H H' : Hp} {x0 x1 x2 x3 x4 x5 x6 x7 x8 x9 x10 x11 : V} {b0 b1 b2 b3 b4 b5 b6 b7 b8 b9 b10 b11 : Bool} (h : FitsV K H x0 x1 x2 x3 x4 x5 x6 x7 x8 x9 x10 x11 b0 b1 b2 b3 b4 b5 b6 b7 b8 b9 b10 b11) (e : Same H H') : FitsV K H' x0 x1 x2 x3 x4 x5 x6 x7 x8 x9 x10 x11 b0 b1 b2 b3 b4 b5 b6 b7 b8 b9 b10 b11 := by
  obtain ⟨f0, f1, f2, f3, f4, f5, f6, f7, f8, f9, f10, f11⟩ := h
  exact ⟨⟨f0.1.same e, f0.2⟩, ⟨f1.1.same e, f1.2⟩, f2.imp fun _ z => ⟨tyx_same e z.1, z.2⟩, f3.imp fun _ z => ⟨tyx_same e z.1, z.2⟩, f4.imp fun _ z => ⟨tyx_same e z.1, z.2⟩, ⟨f5.1.same e, f5.2⟩, ⟨f6.1.same e, f6.2⟩, ⟨f7.1.same e, f7.2⟩, f8.same e, ⟨f9.1.same e, f9.2⟩, f10.same e, f11.imp fun _ z => ⟨tyx_same e z.1, z.2⟩⟩
def sp_law_seen (K : PySem.W.Frag) (CS : Addr) : Sp := fun vs H Q _ => ∃ (p : Addr) (s : Mst) (l : List (Int × Int)) (dx t u : Addr), vs = [.ref p] ∧ StandAt K CS H p s l dx t u ∧ ∀ (q : Addr) (H' : Hp), Same H H' → H' q = some (.lst (standL s t u)) → Q (.ref q) H'
theorem ok_law_seen : FnOk P w K mg base CX0 1 T.f_law_seen T.fd_law_seen ["stand"] (sp_law_seen K T.C_Stand) := by
  refine T.F_law_seen.ok sc_law_seen (fun vs H Q E h => ?_) (fun cdv A outer s H vs Q E hr h => ?_)
  · obtain ⟨p, s, l, dx, t, u, rfl, _⟩ := h
    rfl
  · obtain ⟨p, s, l, dx, t, u, rfl, hS, q⟩ := h
    refine ⟨_, (pss_cons (ps_set (i := 1) sc_law_seen.nd rfl (.inl rfl) (pe_lst (pa_cons (pe_fld (pv 0) rfl) (pa_cons (pe_fld (pv 0) rfl) (pa_cons (pe_fld (pv 0) rfl) (pa_cons (pe_fld (pv 0) rfl) (pa_cons (pe_fld (pv 0) rfl) (pa_cons (pe_fld (pv 0) rfl) pa_nil))))))))
    (pss_one (ps_ret (pe_op op_cat (pv 1) (pe_lst (pa_cons (pe_fld (pv 0) rfl) (pa_cons (pe_fld (pv 0) rfl) (pa_cons (pe_fld (pv 0) rfl) (pa_cons (pe_fld (pv 0) rfl) (pa_cons (pe_fld (pv 0) rfl) (pa_cons (pe_fld (pv 0) rfl) pa_nil))))))))))), ?_⟩
    refine go_seq (go_asg (go_lst (go_cons (rdS (K := K) rfl hS T.cl_Stand T.na_Stand_block rfl (go_cons (rdS (K := K) rfl hS T.cl_Stand T.na_Stand_room rfl (go_cons (rdS (K := K) rfl hS T.cl_Stand T.na_Stand_tick rfl (go_cons (rdS (K := K) rfl hS T.cl_Stand T.na_Stand_flag rfl (go_cons (rdS (K := K) rfl hS T.cl_Stand T.na_Stand_test rfl (go_cons (rdS (K := K) rfl hS T.cl_Stand T.na_Stand_mode rfl (go_nil ⟨show 6 ≤ sizeLine by decide, fun g ng => ?_⟩)))))))))))))))
    have s4 := same_new (o := HO.lst [V.int s.block, V.int s.room, V.bl s.tick, V.bl s.flag, V.bl s.test, V.int s.mode]) ng
    have hG := upd_same (H := H) (a := g) (o := HO.lst [V.int s.block, V.int s.room, V.bl s.tick, V.bl s.flag, V.bl s.test, V.int s.mode])
    have hS := hS.same s4
    generalize upd H g (HO.lst [V.int s.block, V.int s.room, V.bl s.tick, V.bl s.flag, V.bl s.test, V.int s.mode]) = H4 at hG hS s4 ⊢
    dsimp only [gName]
    refine go_ret (go_op (go_var rfl (go_lst (go_cons (rdS (K := K) rfl hS T.cl_Stand T.na_Stand_first rfl (go_cons (rdS (K := K) rfl hS T.cl_Stand T.na_Stand_second rfl (go_cons (rdS (K := K) rfl hS T.cl_Stand T.na_Stand_cells rfl (go_cons (rdS (K := K) rfl hS T.cl_Stand T.na_Stand_heard rfl (go_cons (rdS (K := K) rfl hS T.cl_Stand T.na_Stand_said rfl (go_cons (rdS (K := K) rfl hS T.cl_Stand T.na_Stand_is_done rfl (go_nil ⟨show 6 ≤ sizeLine by decide, fun r nr => ?_⟩))))))))))))))))
    have s6 := same_new (o := HO.lst [V.int s.first, V.int s.second, V.ref t, V.int (s.heard : Nat), V.ref u, V.bl s.isd]) nr
    refine ⟨g, r, _, _, rfl, rfl, s6 _ _ hG, upd_same, (show 6 + 6 ≤ sizeLine by decide), fun z nz => ?_⟩
    have s7 := s6.trans (same_new (o := HO.lst ([V.int s.block, V.int s.room, V.bl s.tick, V.bl s.flag, V.bl s.test, V.int s.mode] ++ [V.int s.first, V.int s.second, V.ref t, V.int (s.heard : Nat), V.ref u, V.bl s.isd])) nz)
    exact q z _ (s4.trans s7) upd_same
/-- us before, the named values in the order of the parameters -/
def permG {α : Type} (π : List Nat) (us ws : List α) : List α := us ++ π.filterMap fun i => ws[i]?
theorem perm_rel {vs zs : List V} {us ws : List Value} (π : List Nat) (r1 : Vals vs us) (r2 : Vals zs ws) : Vals (permG π vs zs) (permG π us ws) := by
  refine r1.append ?_
  induction π with
  | nil => exact .nil
  | cons i r ih =>
    rw [List.filterMap_cons, List.filterMap_cons]
    have hl := r2.length
    cases hz : zs[i]? with
    | none =>
      rw [List.getElem?_eq_none_iff] at hz
      rw [List.getElem?_eq_none_iff.mpr (by omega)]
      exact ih
    | some y =>
      obtain ⟨u, hu, ru⟩ := r2.get hz
      rw [hu]
      exact .cons ru ih
def standPi : List Nat := [10, 11, 3, 2, 1, 0, 9, 7, 6, 5, 4, 8]
theorem kb_Stand_init_0_mode_test_flag_tick_said_heard_cells_second_is_done_first_block_room : KBn K T.fd_Stand_init ["self", "block", "room", "tick", "flag", "test", "mode", "first", "second", "cells", "heard", "said", "is_done"] 1 ["mode", "test", "flag", "tick", "said", "heard", "cells", "second", "is_done", "first", "block", "room"] (permG standPi) (permG standPi) := by
  have h : ∀ (kV doc pm : Value) (an : Option Addr) (cdv ct : Value) (s a0 a1 a2 a3 a4 a5 a6 a7 a8 a9 a10 a11 : Value), bindArgs (PySem.W.fnOf "__init__" "Stand.__init__" (defArgs s_Stand_init) (defBody s_Stand_init) (defScope s_Stand_init) .none kV doc pm an cdv ct) ⟨[s], [(("mode" : Str), a0), (("test" : Str), a1), (("flag" : Str), a2), (("tick" : Str), a3), (("said" : Str), a4), (("heard" : Str), a5), (("cells" : Str), a6), (("second" : Str), a7), (("is_done" : Str), a8), (("first" : Str), a9), (("block" : Str), a10), (("room" : Str), a11)]⟩ = (pure [(("self" : Str), s), (("block" : Str), a10), (("room" : Str), a11), (("tick" : Str), a3), (("flag" : Str), a2), (("test" : Str), a1), (("mode" : Str), a0), (("first" : Str), a9), (("second" : Str), a7), (("cells" : Str), a6), (("heard" : Str), a5), (("said" : Str), a4), (("is_done" : Str), a8)] : Sem (List (Str × Value))) := by
    intros
    kernel_rfl
  obtain ⟨oc, od, kV, doc, pm, an, cdv, ct, osl, e, lk, hcd⟩ := T.F_Stand_init.ex
  rw [e]
  refine ⟨fun s us ws X l1 l2 => ?_, fun r1 r2 => perm_rel _ r1 r2⟩
  match us, ws, l1, l2 with
  | [s0], [a0, a1, a2, a3, a4, a5, a6, a7, a8, a9, a10, a11], _, _ => exact .of_eq (h kV doc pm an cdv ct s0 a0 a1 a2 a3 a4 a5 a6 a7 a8 a9 a10 a11)
def sp_law_named (K : PySem.W.Frag) (CS : Addr) : Sp := fun vs H Q _ => ∃ (P0 c sd : Addr) (s : Mst) (l : List (Int × Int)), vs = [.ref P0] ∧ H P0 = some (.lst (standV s c sd)) ∧ MadeS K H s c sd l ∧ ∀ (p dx t u : Addr) (H' : Hp), Same H H' → StandAt K CS H' p s l dx t u → Q (.ref p) H'
theorem ok_law_named : FnOk P w K mg base CX0 7 T.f_law_named T.fd_law_named ["parts"] (sp_law_named K T.C_Stand) := by
  refine T.F_law_named.ok sc_law_named (fun vs H Q E h => ?_) (fun cdv A outer s H vs Q E hr h => ?_)
  · obtain ⟨P0, c, sd, s, l, rfl, _⟩ := h
    rfl
  · obtain ⟨P0, c, sd, s, l, rfl, h0, hM, q⟩ := h
    refine ⟨_, (pss_one (ps_ret (pe_makeK0 T.mk_Stand (ok_Stand_init T) (hr.mono (by decide)) (by rfl) T.gC_Stand (kb_Stand_init_0_mode_test_flag_tick_said_heard_cells_second_is_done_first_block_room T) passF (pk_cons (pe_ix ix_list (pv 0) pe_int (fun _ _ => rfl)) (pk_cons (pe_ix ix_list (pv 0) pe_int (fun _ _ => rfl)) (pk_cons (pe_ix ix_list (pv 0) pe_int (fun _ _ => rfl)) (pk_cons (pe_ix ix_list (pv 0) pe_int (fun _ _ => rfl)) (pk_cons (pe_ix ix_list (pv 0) pe_int (fun _ _ => rfl)) (pk_cons (pe_ix ix_list (pv 0) pe_int (fun _ _ => rfl)) (pk_cons (pe_ix ix_list (pv 0) pe_int (fun _ _ => rfl)) (pk_cons (pe_ix ix_list (pv 0) pe_int (fun _ _ => rfl)) (pk_cons (pe_ix ix_list (pv 0) pe_int (fun _ _ => rfl)) (pk_cons (pe_ix ix_list (pv 0) pe_int (fun _ _ => rfl)) (pk_cons (pe_ix ix_list (pv 0) pe_int (fun _ _ => rfl)) (pk_cons (pe_ix ix_list (pv 0) pe_int (fun _ _ => rfl)) pk_nil))))))))))))))), ?_⟩
    refine go_ret ?_
    unfold tMakeK
    refine go_nil ?_
    refine go_cons ⟨_, rfl, P0, _, 5, _, rfl, rfl, .inl (.inl h0), rfl, ?_⟩
    refine go_cons ⟨_, rfl, P0, _, 4, _, rfl, rfl, .inl (.inl h0), rfl, ?_⟩
    refine go_cons ⟨_, rfl, P0, _, 3, _, rfl, rfl, .inl (.inl h0), rfl, ?_⟩
    refine go_cons ⟨_, rfl, P0, _, 2, _, rfl, rfl, .inl (.inl h0), rfl, ?_⟩
    refine go_cons ⟨_, rfl, P0, _, 10, _, rfl, rfl, .inl (.inl h0), rfl, ?_⟩
    refine go_cons ⟨_, rfl, P0, _, 9, _, rfl, rfl, .inl (.inl h0), rfl, ?_⟩
    refine go_cons ⟨_, rfl, P0, _, 8, _, rfl, rfl, .inl (.inl h0), rfl, ?_⟩
    refine go_cons ⟨_, rfl, P0, _, 7, _, rfl, rfl, .inl (.inl h0), rfl, ?_⟩
    refine go_cons ⟨_, rfl, P0, _, 11, _, rfl, rfl, .inl (.inl h0), rfl, ?_⟩
    refine go_cons ⟨_, rfl, P0, _, 6, _, rfl, rfl, .inl (.inl h0), rfl, ?_⟩
    refine go_cons ⟨_, rfl, P0, _, 0, _, rfl, rfl, .inl (.inl h0), rfl, ?_⟩
    refine go_cons ⟨_, rfl, P0, _, 1, _, rfl, rfl, .inl (.inl h0), rfl, ?_⟩
    refine go_nil ⟨rfl, rfl, fun x dx nx ndx _ => ?_⟩
    exact stand_new nx ndx hM fun H' t u e hS => ⟨rfl, q x dx t u H' e hS⟩
def sp_law_made (K : PySem.W.Frag) (CS : Addr) : Sp := fun vs H Q _ => ∃ (P0 : Addr) (x0 x1 x2 x3 x4 x5 x6 x7 x8 x9 x10 x11 : V) (b0 b1 b2 b3 b4 b5 b6 b7 b8 b9 b10 b11 : Bool), vs = [.ref P0] ∧ H P0 = some (.lst [x0, x1, x2, x3, x4, x5, x6, x7, x8, x9, x10, x11]) ∧ FitsV K H x0 x1 x2 x3 x4 x5 x6 x7 x8 x9 x10 x11 b0 b1 b2 b3 b4 b5 b6 b7 b8 b9 b10 b11 ∧
  ((∃ (c sd : Addr) (s : Mst) (l : List (Int × Int)), [x0, x1, x2, x3, x4, x5, x6, x7, x8, x9, x10, x11] = standV s c sd ∧ (∀ b ∈ [b0, b1, b2, b3, b4, b5, b6, b7, b8, b9, b10, b11], b = true) ∧ MadeS K H s c sd l ∧ ∀ (p dx t u : Addr) (H' : Hp), Same H H' → StandAt K CS H' p s l dx t u → Q (.ref p) H') ∨
    ∃ nm, FirstNo [b0, b1, b2, b3, b4, b5, b6, b7, b8, b9, b10, b11] nm ∧ ∀ (t : Addr) (H' : Hp), Same H H' → H' t = some (.tup [.str "BadMachine", .str nm]) → Q (.ref t) H')
theorem ok_law_made : FnOk P w K mg base CX0 7 T.f_law_made T.fd_law_made ["parts"] (sp_law_made K T.C_Stand) := by
  have eM : T.e_BadMachine.C = T.k_BadMachine := same_ref T.e_BadMachine.gC T.gk_BadMachine
  have xMM : PySem.W.exmOne K (.ref T.e_BadMachine.C) (.ref T.e_BadMachine.C) = some true := PySem.W.exm_ref T.e_BadMachine.exc.hs T.e_BadMachine.exc.hd T.e_BadMachine.oex.tyC (by rw [eM]; exact T.su_BadMachine_BadMachine)
  refine T.F_law_made.ok sc_law_made (fun vs H Q E h => ?_) (fun cdv A outer s H vs Q E hr h => ?_)
  · obtain ⟨P0, x0, x1, x2, x3, x4, x5, x6, x7, x8, x9, x10, x11, b0, b1, b2, b3, b4, b5, b6, b7, b8, b9, b10, b11, rfl, _⟩ := h
    rfl
  · obtain ⟨P0, x0, x1, x2, x3, x4, x5, x6, x7, x8, x9, x10, x11, b0, b1, b2, b3, b4, b5, b6, b7, b8, b9, b10, b11, rfl, h0, hf, h⟩ := h
    refine ⟨_, (pss_cons (ps_set (i := 1) sc_law_made.nd rfl (.inl rfl) pe_non)
    (pss_cons (ps_manyN (i := 2) rfl rfl sc_law_made.nd rfl rfl takes_none5 (fun W pn xe tk _ =>
      (pss_one (ps_set (i := 1) sc_law_made.nd rfl (.inl rfl) (pe_makeS T.mk_Stand (ok_Stand_init T) (hr.mono (by decide)) (by rfl) T.gC_Stand T.b_Stand_init (fun σ => passAt tk σ) (pa_cons (pe_ix (inK_ix_list (K := K) rfl) (pv 0) pe_int (fun _ _ => rfl)) (pa_cons (pe_ix (inK_ix_list (K := K) rfl) (pv 0) pe_int (fun _ _ => rfl)) (pa_cons (pe_ix (inK_ix_list (K := K) rfl) (pv 0) pe_int (fun _ _ => rfl)) (pa_cons (pe_ix (inK_ix_list (K := K) rfl) (pv 0) pe_int (fun _ _ => rfl)) (pa_cons (pe_ix (inK_ix_list (K := K) rfl) (pv 0) pe_int (fun _ _ => rfl)) (pa_cons (pe_ix (inK_ix_list (K := K) rfl) (pv 0) pe_int (fun _ _ => rfl)) (pa_cons (pe_ix (inK_ix_list (K := K) rfl) (pv 0) pe_int (fun _ _ => rfl)) (pa_cons (pe_ix (inK_ix_list (K := K) rfl) (pv 0) pe_int (fun _ _ => rfl)) (pa_cons (pe_ix (inK_ix_list (K := K) rfl) (pv 0) pe_int (fun _ _ => rfl)) (pa_cons (pe_ix (inK_ix_list (K := K) rfl) (pv 0) pe_int (fun _ _ => rfl)) (pa_cons (pe_ix (inK_ix_list (K := K) rfl) (pv 0) pe_int (fun _ _ => rfl)) (pa_cons (pe_ix (inK_ix_list (K := K) rfl) (pv 0) pe_int (fun _ _ => rfl)) pa_nil))))))))))))))))
      (HdsN.cons ⟨rfl, by decide, .inl T.e_BadMachine.gC⟩ (fun a ob cl dd pn hz hf => (pss_one (ps_set (i := 1) sc_law_made.nd rfl (.inl rfl) (pe_tup (pa_cons pe_str (pa_cons (pe_xf T.e_BadMachine.xf T.e_BadMachine.np hz hf (pv 2)) pa_nil)))))) (HdsN.cons ⟨rfl, by decide, .inl T.e_BadNumber.gL⟩ (fun a ob cl dd pn hz hf => (pss_one (ps_set (i := 1) sc_law_made.nd rfl (.inl rfl) (pe_tup (pa_cons pe_str pa_nil))))) HdsN.nil)))
    (pss_one (ps_ret (pv 1))))), ?_⟩
    refine go_seq (go_asg (go_c ?_))
    dsimp only [gName]
    refine go_seq ?_
    refine go_asg ?_
    refine go_cons ⟨_, rfl, P0, _, 0, x0, rfl, rfl, .inl (.inl h0), rfl, ?_⟩
    refine go_cons ⟨_, rfl, P0, _, 1, x1, rfl, rfl, .inl (.inl h0), rfl, ?_⟩
    refine go_cons ⟨_, rfl, P0, _, 2, x2, rfl, rfl, .inl (.inl h0), rfl, ?_⟩
    refine go_cons ⟨_, rfl, P0, _, 3, x3, rfl, rfl, .inl (.inl h0), rfl, ?_⟩
    refine go_cons ⟨_, rfl, P0, _, 4, x4, rfl, rfl, .inl (.inl h0), rfl, ?_⟩
    refine go_cons ⟨_, rfl, P0, _, 5, x5, rfl, rfl, .inl (.inl h0), rfl, ?_⟩
    refine go_cons ⟨_, rfl, P0, _, 6, x6, rfl, rfl, .inl (.inl h0), rfl, ?_⟩
    refine go_cons ⟨_, rfl, P0, _, 7, x7, rfl, rfl, .inl (.inl h0), rfl, ?_⟩
    refine go_cons ⟨_, rfl, P0, _, 8, x8, rfl, rfl, .inl (.inl h0), rfl, ?_⟩
    refine go_cons ⟨_, rfl, P0, _, 9, x9, rfl, rfl, .inl (.inl h0), rfl, ?_⟩
    refine go_cons ⟨_, rfl, P0, _, 10, x10, rfl, rfl, .inl (.inl h0), rfl, ?_⟩
    refine go_cons ⟨_, rfl, P0, _, 11, x11, rfl, rfl, .inl (.inl h0), rfl, ?_⟩
    refine go_nil fun x dx nx ndx _ => ?_
    have s1 : Same H (upd (upd H dx (.own x)) x (.ins T.C_Stand dx [])) := fun b u h => by
      rw [upd_ne (ne_of_none h nx), upd_ne (ne_of_none h ndx)]
      exact h
    refine ⟨x, dx, x0, x1, x2, x3, x4, x5, x6, x7, x8, x9, x10, x11, b0, b1, b2, b3, b4, b5, b6, b7, b8, b9, b10, b11, rfl, upd_same, hf.same s1, ?_⟩
    rcases h with ⟨c, sd, s, l, hv, hb, hM, q⟩ | ⟨nm, hF, q⟩
    · refine .inl ⟨c, sd, s, l, hv, hb, hM.same s1, fun H' t u m hS => ⟨rfl, ?_⟩⟩
      dsimp only [gName]
      refine go_ret (go_var rfl ?_)
      exact q x dx t u H' (fun b o hb => m b o (ne_of_none hb nx) (s1 _ _ hb)) hS
    · refine .inr ⟨nm, hF, fun d H' e hd => ?_⟩
      refine ⟨true, xMM, fun _ y ny => ?_, fun z => nomatch z⟩
      dsimp only
      refine go_asg (go_tup (go_cons (go_c (go_cons ?_))))
      refine ⟨_, rfl, rfl, rfl, d, _, _, rfl, hd, rfl, ?_⟩
      refine go_nil ⟨sz2, fun t nt => ?_⟩
      exact go_ret (go_var rfl (q t _ (s1.trans (e.trans (same_new nt))) upd_same))
end
end K28
namespace K28
open PySem PySem.Spec PyProof.Rows L2 Kx SX LamX Ms
section
variable {P : Program} {w : World} {K : PySem.W.Frag} {mg : Str → Option Value} {base : Heap} (T : Tx K mg)
/-- all places but some stay -/
def MvN (N : Addr → Prop) (H H' : Hp) : Prop := ∀ b o, ¬ N b → H b = some o → H' b = some o
theorem MvN.of {N : Addr → Prop} {w : Addr} {H H' : Hp} (h : N w) (m : Mv w H H') : MvN N H H' := fun b o hb hz => m b o (fun e => hb (e ▸ h)) hz
inductive OdN (N : Addr → Prop) (H : Hp) : V → Prop
  | non : OdN N H .non
  | int (i : Int) : OdN N H (.int i)
  | bl (b : Bool) : OdN N H (.bl b)
  | str (s : Str) : OdN N H (.str s)
  | lst {u : Addr} {xs : List V} (n : ¬ N u) (h : H u = some (.lst xs)) : OdN N H (.ref u)
  | tup {u : Addr} {xs : List V} (n : ¬ N u) (h : H u = some (.tup xs)) : OdN N H (.ref u)
  | dct {u : Addr} {kv : List (Key × V)} (n : ¬ N u) (h : H u = some (.dK kv)) : OdN N H (.ref u)
theorem OdN.mv {N : Addr → Prop} {H H' : Hp} {x : V} (m : MvN N H H') (h : OdN N H x) : OdN N H' x := by
  cases h with
  | non => exact .non
  | int i => exact .int i
  | bl i => exact .bl i
  | str i => exact .str i
  | lst n h => exact .lst n (m _ _ n h)
  | tup n h => exact .tup n (m _ _ n h)
  | dct n h => exact .dct n (m _ _ n h)
theorem OdN.has {N : Addr → Prop} {H : Hp} {x : V} (h : OdN N H x) : HasInt K H x := by
  cases h with
  | non => exact hasInt_non
  | int i => exact hasInt_int i
  | bl i => exact hasInt_bl i
  | str i => exact hasInt_str i
  | lst n h => exact hasInt_lst (.inl (.inl h))
  | tup n h => exact hasInt_tup (.inl (.inl h))
  | dct n h => exact hasInt_dk h
theorem OdN.notB {N : Addr → Prop} {H : Hp} {x : V} (h : OdN N H x) (hb : ∀ b, x ≠ .bl b) : ∃ n : String, TyX K H x (.type n) ∧ kitB n "bool" = some false := by
  cases h with
  | non => exact ⟨_, .base .non, by decide +kernel⟩
  | int i => exact ⟨_, .base (.int i), by decide +kernel⟩
  | bl i => exact absurd rfl (hb i)
  | str i => exact ⟨_, .base (.str i), by decide +kernel⟩
  | lst n h => exact ⟨_, .base (.lst h), by decide +kernel⟩
  | tup n h => exact ⟨_, .base (.tup h), by decide +kernel⟩
  | dct n h => exact ⟨_, .base (.dK h), by decide +kernel⟩
inductive NoLN (N : Addr → Prop) (H : Hp) : V → Prop
  | non : NoLN N H .non
  | int (i : Int) : NoLN N H (.int i)
  | str (s : Str) : NoLN N H (.str s)
  | dct {u : Addr} {kv : List (Key × V)} (n : ¬ N u) (h : H u = some (.dK kv)) : NoLN N H (.ref u)
  | lst {u : Addr} {xs : List V} (n : ¬ N u) (h : H u = some (.lst xs)) (a : xs.all isIntV = false) (o : ∀ z ∈ xs, OdN N H z) (l : xs.length ≤ 100000) : NoLN N H (.ref u)
theorem NoLN.mv {N : Addr → Prop} {H H' : Hp} {x : V} (m : MvN N H H') (h : NoLN N H x) : NoLN N H' x := by
  cases h with
  | non => exact .non
  | int i => exact .int i
  | str i => exact .str i
  | dct n h => exact .dct n (m _ _ n h)
  | lst n h a o l => exact .lst n (m _ _ n h) a (fun z hz => (o z hz).mv m) l
theorem NoLN.ints {N : Addr → Prop} {H : Hp} {x : V} (h : NoLN N H x) : IntsV K H x false := by
  cases h with
  | non => exact .inl ⟨_, .base .non, rfl, rfl⟩
  | int i => exact .inl ⟨_, .base (.int i), rfl, rfl⟩
  | str i => exact .inl ⟨_, .base (.str i), rfl, rfl⟩
  | dct n h => exact .inl ⟨_, .base (.dK h), rfl, rfl⟩
  | lst n h a o l => exact .inr ⟨_, _, rfl, .inl (.inl (.inl h)), fun z hz => (o z hz).has, l, a.symm⟩
def PairsN (N : Addr → Prop) (H : Hp) (qs : List (Addr × Bool)) (l : List (Int × Int)) : Prop := Paired (fun (q : Addr × Bool) (p : Int × Int) => ¬ N q.1 ∧ H q.1 = some (seqO q.2 (pairV p))) qs l
theorem PairsN.mv {N : Addr → Prop} {H H' : Hp} {qs : List (Addr × Bool)} {l : List (Int × Int)} (h : PairsN N H qs l) (m : MvN N H H') : PairsN N H' qs l := Paired.mapP h fun _ _ z => ⟨z.1, m _ _ z.1 z.2⟩
theorem PairsN.q {N : Addr → Prop} {H : Hp} {qs : List (Addr × Bool)} {l : List (Int × Int)} (h : PairsN N H qs l) : Paired (fun (q : Addr) (p : Int × Int) => SqQ K H q [.int p.1, .int p.2]) (qs.map (·.1)) l := by
  induction h with
  | nil => exact .nil
  | cons h _ ih => exact .cons (seqO_q h.2) ih
theorem ne_some {H : Hp} {a z : Addr} {o : HO} (hz : H z = some o) (n : H a = none) : a ≠ z := fun e => by
  rw [e, hz] at n
  cases n
/-- a pair of plain values that is none -/
def BadP (xs : List V) : Prop := xs.length ≤ 1000 ∧ (∀ z ∈ xs, z = .non ∨ (∃ b, z = .bl b) ∨ ∃ i, z = .int i) ∧ (xs.all isIntV = false ∨ ∃ zs : List Int, xs = zs.map V.int ∧ (decide (zs.length = 2) && !decide (zs.getD 1 0 = 0)) = false)
/-- what is told as cells and is none -/
inductive BadC (N : Addr → Prop) (H : Hp) : V → Prop
  | non : BadC N H .non
  | int (i : Int) : BadC N H (.int i)
  | str (s : Str) : BadC N H (.str s)
  | dct {u : Addr} {kv : List (Key × V)} (n : ¬ N u) (h : H u = some (.dK kv)) : BadC N H (.ref u)
  | one {u t : Addr} {xs : List V} (n : ¬ N u) (h : H u = some (.lst [.ref t])) (nt : ¬ N t) (ht : H t = some (.tup xs)) (b : BadP xs) : BadC N H (.ref u)
  | flat {u : Addr} {i j : Int} (n : ¬ N u) (h : H u = some (.lst [.int i, .int j])) : BadC N H (.ref u)
  | two {u : Addr} {qs : List (Addr × Bool)} {l : List (Int × Int)} (n : ¬ N u) (h : H u = some (.lst (refsV qs))) (p : PairsN N H qs l) (z : ∀ p ∈ l, p.2 ≠ 0) (k : l.length ≤ 1000) (c : chainB l = false) : BadC N H (.ref u)
theorem BadC.mv {N : Addr → Prop} {H H' : Hp} {x : V} (m : MvN N H H') (h : BadC N H x) : BadC N H' x := by
  cases h with
  | non => exact .non
  | int i => exact .int i
  | str i => exact .str i
  | dct n h => exact .dct n (m _ _ n h)
  | one n h nt ht b => exact .one n (m _ _ n h) nt (m _ _ nt ht) b
  | flat n h => exact .flat n (m _ _ n h)
  | two n h p z k c => exact .two n (m _ _ n h) (p.mv m) z k c
theorem badP_pair {H : Hp} {t : Addr} {xs : List V} (ht : H t = some (.tup xs)) (b : BadP xs) : PairV K H (.ref t) false := by
  obtain ⟨hl, hz, h | ⟨zs, rfl, h⟩⟩ := b
  · refine .inl ⟨.inr ⟨t, xs, rfl, .inr (.inl (.inl ht)), fun z m => ?_, by omega, h.symm⟩, rfl⟩
    rcases hz z m with rfl | ⟨b, rfl⟩ | ⟨i, rfl⟩
    · exact hasInt_non
    · exact hasInt_bl b
    · exact hasInt_int i
  · exact .inr ⟨t, zs, rfl, .inr (.inl (.inl ht)), by rw [List.length_map] at hl; exact hl, h.symm⟩
theorem BadC.cells {N : Addr → Prop} {H : Hp} {x : V} (h : BadC N H x) : CellsV K H x false := by
  cases h with
  | non => exact .inl ⟨rfl, _, .base .non, rfl⟩
  | int i => exact .inl ⟨rfl, _, .base (.int i), rfl⟩
  | str i => exact .inl ⟨rfl, _, .base (.str i), rfl⟩
  | dct n h => exact .inl ⟨rfl, _, .base (.dK h), rfl⟩
  | one n h nt ht b => exact .inr (.inl ⟨_, _, fun _ => false, rfl, .inl (.inl (.inl h)), show 1 ≤ 1000 by decide, fun v m => by rw [List.mem_singleton.mp m]; exact badP_pair ht b, rfl, rfl⟩)
  | flat n h =>
    refine .inr (.inl ⟨_, _, fun _ => false, rfl, .inl (.inl (.inl h)), show 2 ≤ 1000 by decide, fun v m => ?_, rfl, rfl⟩)
    simp only [List.mem_cons, List.not_mem_nil, or_false] at m
    rcases m with rfl | rfl
    · exact .inl ⟨.inl ⟨_, .base (.int _), rfl, rfl⟩, rfl⟩
    · exact .inl ⟨.inl ⟨_, .base (.int _), rfl, rfl⟩, rfl⟩
  | @two u qs l n h p z k c => exact .inr (.inr ⟨u, l, rfl, ⟨qs.map (·.1), by rw [← refsV_eq]; exact .inl (.inl (.inl h)), p.q⟩, by omega, z, c.symm⟩)
/-- what does not fit a part -/
def Bad (N : Addr → Prop) (H : Hp) (at_ : Nat) (x : V) : Prop :=
  if at_ = 2 ∨ at_ = 3 ∨ at_ = 4 ∨ at_ = 11 then OdN N H x ∧ ∀ b, x ≠ .bl b
  else if at_ = 8 then BadC N H x
  else if at_ = 10 then NoLN N H x
  else OdN N H x ∧ ∀ i, x = .int i → (at_ = 0 ∧ i < -1) ∨ (at_ = 5 ∧ (i < 0 ∨ 2 < i)) ∨ (at_ = 9 ∧ i < 0)
theorem Bad.mv {N : Addr → Prop} {H H' : Hp} {at_ : Nat} {x : V} (m : MvN N H H') (h : Bad N H at_ x) : Bad N H' at_ x := by
  unfold Bad at h ⊢
  split
  · rename_i e
    rw [if_pos e] at h
    exact ⟨h.1.mv m, h.2⟩
  · rename_i e
    rw [if_neg e] at h
    split
    · rename_i e2
      rw [if_pos e2] at h
      exact h.mv m
    · rename_i e2
      rw [if_neg e2] at h
      split
      · rename_i e3
        rw [if_pos e3] at h
        exact h.mv m
      · rename_i e3
        rw [if_neg e3] at h
        exact ⟨h.1.mv m, h.2⟩
def sp_law_spoilt (K : PySem.W.Frag) : Sp := fun vs H Q _ => ∃ (w c : Addr) (n at_ : Nat) (z : Addr) (oz : HO) (N : Addr → Prop), vs = [.ref w, .int (at_ : Int)] ∧ at_ < 12 ∧ Wh H w c n ∧ n < 900000 ∧ H z = some oz ∧ z ≠ w ∧ (∀ u, N u ↔ u = w ∨ u = z) ∧ ∀ (x : V) (H' : Hp), Bad N H' at_ x → Mv w H H' → Wh H' w c (n + 2) → Q x H'
theorem inV_at (at_ : Nat) : inV (.int (at_ : Int)) [V.int 2, .int 3, .int 4, .int 11] = decide (at_ = 2 ∨ at_ = 3 ∨ at_ = 4 ∨ at_ = 11) := by
  have e : ([V.int 2, .int 3, .int 4, .int 11] : List V) = rowV [2, 3, 4, 11] := rfl
  rw [e, inV_row]
  simp
theorem ok_law_spoilt : FnOk P w K mg base CX0 3 T.f_law_spoilt T.fd_law_spoilt ["shelf", "at"] (sp_law_spoilt K) := by
  refine T.F_law_spoilt.ok sc_law_spoilt (fun vs H Q E h => ?_) (fun cdv A outer s H vs Q E hr h => ?_)
  · obtain ⟨w, c, n, at_, z, oz, N, rfl, _⟩ := h
    rfl
  · obtain ⟨w, c, n, at_, z, oz, N, rfl, ha, wh0, hn, hz0, zw, hN, q⟩ := h
    have nw := (hN w).mpr (.inl rfl)
    refine ⟨_, (pss_cons (ps_if (pt_cmpR op_in_seq (pv 1) (pe_tup (pa_cons pe_int (pa_cons pe_int (pa_cons pe_int (pa_cons pe_int pa_nil))))) rfl)
      (pss_one (ps_ret (pe_call (ok_law_pick T) (hr.mono (by decide)) (by rfl) T.g_law_pick T.F_law_pick.kp T.b_law_pick .nil pass0 (pa_cons (pv 0) (pa_cons (pe_lst (pa_cons pe_int (pa_cons pe_int (pa_cons pe_non (pa_cons pe_str (pa_cons (pe_tup pa_nil) pa_nil)))))) pa_nil)))))
      pss_nil)
    (pss_cons (ps_if (pt_cmpR op_eq (pv 1) pe_int (nomark _))
      (pss_one (ps_ret (pe_call (ok_law_pick T) (hr.mono (by decide)) (by rfl) T.g_law_pick T.F_law_pick.kp T.b_law_pick .nil pass0 (pa_cons (pv 0) (pa_cons (pe_lst (pa_cons pe_non (pa_cons pe_int (pa_cons pe_dnewK (pa_cons (pe_lst (pa_cons (pe_tup (pa_cons pe_int (pa_cons pe_int pa_nil))) pa_nil)) (pa_cons (pe_lst (pa_cons (pe_tup (pa_cons pe_int (pa_cons pe_int pa_nil))) (pa_cons (pe_tup (pa_cons pe_int (pa_cons pe_int pa_nil))) pa_nil))) (pa_cons (pe_lst (pa_cons (pe_tup (pa_cons pe_int (pa_cons pe_int pa_nil))) (pa_cons (pe_tup (pa_cons pe_int (pa_cons pe_int pa_nil))) pa_nil))) (pa_cons (pe_lst (pa_cons (pe_tup (pa_cons pe_int (pa_cons pe_int (pa_cons pe_int pa_nil)))) pa_nil)) (pa_cons (pe_lst (pa_cons (pe_tup (pa_cons pe_bl (pa_cons pe_int pa_nil))) pa_nil)) (pa_cons (pe_lst (pa_cons (pe_tup (pa_cons pe_int (pa_cons pe_non pa_nil))) pa_nil)) (pa_cons (pe_lst (pa_cons pe_int (pa_cons pe_int pa_nil))) (pa_cons pe_str pa_nil)))))))))))) pa_nil)))))
      pss_nil)
    (pss_cons (ps_if (pt_cmpR op_eq (pv 1) pe_int (nomark _))
      (pss_one (ps_ret (pe_call (ok_law_pick T) (hr.mono (by decide)) (by rfl) T.g_law_pick T.F_law_pick.kp T.b_law_pick .nil pass0 (pa_cons (pv 0) (pa_cons (pe_lst (pa_cons pe_non (pa_cons pe_int (pa_cons pe_str (pa_cons (pe_lst (pa_cons pe_bl pa_nil)) (pa_cons (pe_lst (pa_cons pe_non pa_nil)) (pa_cons pe_dnewK (pa_cons (pe_lst (pa_cons (pe_lst (pa_cons pe_int pa_nil)) pa_nil)) pa_nil)))))))) pa_nil)))))
      pss_nil)
    (pss_cons (ps_set (i := 2) sc_law_spoilt.nd rfl (.inl rfl) (pe_disp (pps_cons pe_int (pe_un un_neg pe_int) (pps_cons pe_int (pe_call (ok_law_pick T) (hr.mono (by decide)) (by rfl) T.g_law_pick T.F_law_pick.kp T.b_law_pick .nil pass0 (pa_cons (pv 0) (pa_cons (pe_lst (pa_cons pe_int (pa_cons (pe_un un_neg pe_int) pa_nil))) pa_nil))) (pps_cons pe_int (pe_un un_neg pe_int) pps_nil))) (by rfl) (by rfl) (fun z => by cases z) (by decide)))
    (pss_one (ps_ret (pe_call (ok_law_pick T) (hr.mono (by decide)) (by rfl) T.g_law_pick T.F_law_pick.kp T.b_law_pick .nil pass0 (pa_cons (pv 0) (pa_cons (pe_lst (pa_cons pe_non (pa_cons pe_bl (pa_cons pe_str (pa_cons (pe_tup (pa_cons pe_int (pa_cons pe_int pa_nil))) (pa_cons (pe_lst (pa_cons pe_int pa_nil)) (pa_cons (pe_dget1 (Nat.lt_of_le_of_lt (Nat.add_le_add_left (show 1 ≤ 64 by decide) _) hr.units) (pv 2) (pv 1) ⟨by rfl, by rfl, by rfl, by rfl⟩) pa_nil))))))) pa_nil))))))))), ?_⟩
    refine go_seq (go_if (go_test (go_op (go_var rfl (go_tup ?_)))))
    refine go_cons (go_c (go_cons (go_c (go_cons (go_c (go_cons (go_c (go_nil ⟨show 4 ≤ sizeLine by decide, fun a0 n0 => ?_⟩))))))))
    refine ⟨a0, _, rfl, .inr (.inl (.inl upd_same)), rfl, rfl, _, rfl, ?_⟩
    show if inV (.int (at_ : Int)) [V.int 2, .int 3, .int 4, .int 11] = true then _ else _
    rw [inV_at]
    have e0 := same_new (o := HO.tup [V.int 2, .int 3, .int 4, .int 11]) n0
    replace wh0 := wh0.same e0
    replace hz0 := e0 _ _ hz0
    generalize upd H a0 (.tup [V.int 2, .int 3, .int 4, .int 11]) = H0 at e0 wh0 hz0 ⊢
    clear n0
    by_cases k1 : at_ = 2 ∨ at_ = 3 ∨ at_ = 4 ∨ at_ = 11
    · rw [decide_eq_true k1]
      refine iteT (B := _) (go_ret ?_)
      refine ⟨_, rfl, ?_⟩
      refine go_cons (go_lst (go_cons (go_c (go_cons (go_c (go_cons (go_c (go_cons (go_c (go_cons (go_tup (go_nil ⟨Nat.zero_le _, fun a1 n1 => ?_⟩))))))))))))
      have e1 := same_new (o := HO.tup []) n1
      have h1 := upd_same (H := H0) (a := a1) (o := HO.tup [])
      have v1 : ¬ N a1 := fun h => ((hN _).mp h).elim (wh0.ne n1) (ne_some hz0 n1)
      have hz1 := e1 _ _ hz0
      have wh1 := wh0.same e1
      generalize upd H0 a1 (HO.tup []) = I1 at e1 h1 wh1 hz1 ⊢
      refine go_nil ⟨show 5 ≤ sizeLine by decide, fun pp np => go_nil (pick_new np wh1 (by omega) (by simp) (show 5 ≤ 1000000 by decide) fun v H2 hv m2 w2 => ?_)⟩
      refine q v H2 ?_ ((Mv.of (e0.trans e1)).trans m2) (w2.lt (by omega))
      have m2 := MvN.of nw m2
      unfold Bad
      rw [if_pos k1]
      simp only [List.mem_cons, List.not_mem_nil, or_false] at hv
      rcases hv with rfl | rfl | rfl | rfl | rfl
      · exact ⟨.int _, fun b z => by cases z⟩
      · exact ⟨.int _, fun b z => by cases z⟩
      · exact ⟨.non, fun b z => by cases z⟩
      · exact ⟨.str _, fun b z => by cases z⟩
      · exact ⟨.tup v1 (m2 _ _ v1 h1), fun b z => by cases z⟩
    rw [decide_eq_false k1]
    refine iteF (A := _) ?_
    dsimp only [tNext]
    refine go_seq (go_if (go_test (go_op (go_var rfl (go_c ⟨rfl, _, rfl, ?_⟩)))))
    rw [decI]
    by_cases k2 : (at_ : Int) = 8
    · rw [decide_eq_true k2]
      have k2' : at_ = 8 := by omega
      refine iteT (B := _) (go_ret ?_)
      refine ⟨_, rfl, ?_⟩
      refine go_cons (go_lst (go_cons (go_c (go_cons (go_c (go_cons ?_))))))
      refine fun a1 n1 => ?_
      have e1 := same_new (o := HO.dK []) n1
      have h1 := upd_same (H := H0) (a := a1) (o := HO.dK [])
      have v1 : ¬ N a1 := fun h => ((hN _).mp h).elim (wh0.ne n1) (ne_some hz0 n1)
      have hz1 := e1 _ _ hz0
      have wh1 := wh0.same e1
      generalize upd H0 a1 (HO.dK []) = I1 at e1 h1 wh1 hz1 ⊢
      refine go_cons (go_lst (go_cons (go_tup (go_cons (go_c (go_cons (go_c (go_nil ⟨show 2 ≤ sizeLine by decide, fun a2 n2 => ?_⟩))))))))
      have e2 := same_new (o := HO.tup [V.int 1, V.int 0]) n2
      have h2 := upd_same (H := I1) (a := a2) (o := HO.tup [V.int 1, V.int 0])
      have v2 : ¬ N a2 := fun h => ((hN _).mp h).elim (wh1.ne n2) (ne_some hz1 n2)
      have hz2 := e2 _ _ hz1
      have wh2 := wh1.same e2
      generalize upd I1 a2 (HO.tup [V.int 1, V.int 0]) = I2 at e2 h2 wh2 hz2 ⊢
      refine go_nil ⟨show 1 ≤ sizeLine by decide, fun a3 n3 => ?_⟩
      have e3 := same_new (o := HO.lst [V.ref a2]) n3
      have h3 := upd_same (H := I2) (a := a3) (o := HO.lst [V.ref a2])
      have v3 : ¬ N a3 := fun h => ((hN _).mp h).elim (wh2.ne n3) (ne_some hz2 n3)
      have hz3 := e3 _ _ hz2
      have wh3 := wh2.same e3
      generalize upd I2 a3 (HO.lst [V.ref a2]) = I3 at e3 h3 wh3 hz3 ⊢
      refine go_cons (go_lst (go_cons (go_tup (go_cons (go_c (go_cons (go_c (go_nil ⟨show 2 ≤ sizeLine by decide, fun a4 n4 => ?_⟩))))))))
      have e4 := same_new (o := HO.tup [V.int 2, V.int 1]) n4
      have h4 := upd_same (H := I3) (a := a4) (o := HO.tup [V.int 2, V.int 1])
      have v4 : ¬ N a4 := fun h => ((hN _).mp h).elim (wh3.ne n4) (ne_some hz3 n4)
      have hz4 := e4 _ _ hz3
      have wh4 := wh3.same e4
      generalize upd I3 a4 (HO.tup [V.int 2, V.int 1]) = I4 at e4 h4 wh4 hz4 ⊢
      refine go_cons (go_tup (go_cons (go_c (go_cons (go_c (go_nil ⟨show 2 ≤ sizeLine by decide, fun a5 n5 => ?_⟩))))))
      have e5 := same_new (o := HO.tup [V.int 1, V.int 1]) n5
      have h5 := upd_same (H := I4) (a := a5) (o := HO.tup [V.int 1, V.int 1])
      have v5 : ¬ N a5 := fun h => ((hN _).mp h).elim (wh4.ne n5) (ne_some hz4 n5)
      have hz5 := e5 _ _ hz4
      have wh5 := wh4.same e5
      generalize upd I4 a5 (HO.tup [V.int 1, V.int 1]) = I5 at e5 h5 wh5 hz5 ⊢
      refine go_nil ⟨show 2 ≤ sizeLine by decide, fun a6 n6 => ?_⟩
      have e6 := same_new (o := HO.lst [V.ref a4, V.ref a5]) n6
      have h6 := upd_same (H := I5) (a := a6) (o := HO.lst [V.ref a4, V.ref a5])
      have v6 : ¬ N a6 := fun h => ((hN _).mp h).elim (wh5.ne n6) (ne_some hz5 n6)
      have hz6 := e6 _ _ hz5
      have wh6 := wh5.same e6
      generalize upd I5 a6 (HO.lst [V.ref a4, V.ref a5]) = I6 at e6 h6 wh6 hz6 ⊢
      refine go_cons (go_lst (go_cons (go_tup (go_cons (go_c (go_cons (go_c (go_nil ⟨show 2 ≤ sizeLine by decide, fun a7 n7 => ?_⟩))))))))
      have e7 := same_new (o := HO.tup [V.int 1, V.int 1]) n7
      have h7 := upd_same (H := I6) (a := a7) (o := HO.tup [V.int 1, V.int 1])
      have v7 : ¬ N a7 := fun h => ((hN _).mp h).elim (wh6.ne n7) (ne_some hz6 n7)
      have hz7 := e7 _ _ hz6
      have wh7 := wh6.same e7
      generalize upd I6 a7 (HO.tup [V.int 1, V.int 1]) = I7 at e7 h7 wh7 hz7 ⊢
      refine go_cons (go_tup (go_cons (go_c (go_cons (go_c (go_nil ⟨show 2 ≤ sizeLine by decide, fun a8 n8 => ?_⟩))))))
      have e8 := same_new (o := HO.tup [V.int 1, V.int 2]) n8
      have h8 := upd_same (H := I7) (a := a8) (o := HO.tup [V.int 1, V.int 2])
      have v8 : ¬ N a8 := fun h => ((hN _).mp h).elim (wh7.ne n8) (ne_some hz7 n8)
      have hz8 := e8 _ _ hz7
      have wh8 := wh7.same e8
      generalize upd I7 a8 (HO.tup [V.int 1, V.int 2]) = I8 at e8 h8 wh8 hz8 ⊢
      refine go_nil ⟨show 2 ≤ sizeLine by decide, fun a9 n9 => ?_⟩
      have e9 := same_new (o := HO.lst [V.ref a7, V.ref a8]) n9
      have h9 := upd_same (H := I8) (a := a9) (o := HO.lst [V.ref a7, V.ref a8])
      have v9 : ¬ N a9 := fun h => ((hN _).mp h).elim (wh8.ne n9) (ne_some hz8 n9)
      have hz9 := e9 _ _ hz8
      have wh9 := wh8.same e9
      generalize upd I8 a9 (HO.lst [V.ref a7, V.ref a8]) = I9 at e9 h9 wh9 hz9 ⊢
      refine go_cons (go_lst (go_cons (go_tup (go_cons (go_c (go_cons (go_c (go_cons (go_c (go_nil ⟨show 3 ≤ sizeLine by decide, fun a10 n10 => ?_⟩))))))))))
      have e10 := same_new (o := HO.tup [V.int 1, V.int 2, V.int 3]) n10
      have h10 := upd_same (H := I9) (a := a10) (o := HO.tup [V.int 1, V.int 2, V.int 3])
      have v10 : ¬ N a10 := fun h => ((hN _).mp h).elim (wh9.ne n10) (ne_some hz9 n10)
      have hz10 := e10 _ _ hz9
      have wh10 := wh9.same e10
      generalize upd I9 a10 (HO.tup [V.int 1, V.int 2, V.int 3]) = I10 at e10 h10 wh10 hz10 ⊢
      refine go_nil ⟨show 1 ≤ sizeLine by decide, fun a11 n11 => ?_⟩
      have e11 := same_new (o := HO.lst [V.ref a10]) n11
      have h11 := upd_same (H := I10) (a := a11) (o := HO.lst [V.ref a10])
      have v11 : ¬ N a11 := fun h => ((hN _).mp h).elim (wh10.ne n11) (ne_some hz10 n11)
      have hz11 := e11 _ _ hz10
      have wh11 := wh10.same e11
      generalize upd I10 a11 (HO.lst [V.ref a10]) = I11 at e11 h11 wh11 hz11 ⊢
      refine go_cons (go_lst (go_cons (go_tup (go_cons (go_c (go_cons (go_c (go_nil ⟨show 2 ≤ sizeLine by decide, fun a12 n12 => ?_⟩))))))))
      have e12 := same_new (o := HO.tup [V.bl true, V.int 1]) n12
      have h12 := upd_same (H := I11) (a := a12) (o := HO.tup [V.bl true, V.int 1])
      have v12 : ¬ N a12 := fun h => ((hN _).mp h).elim (wh11.ne n12) (ne_some hz11 n12)
      have hz12 := e12 _ _ hz11
      have wh12 := wh11.same e12
      generalize upd I11 a12 (HO.tup [V.bl true, V.int 1]) = I12 at e12 h12 wh12 hz12 ⊢
      refine go_nil ⟨show 1 ≤ sizeLine by decide, fun a13 n13 => ?_⟩
      have e13 := same_new (o := HO.lst [V.ref a12]) n13
      have h13 := upd_same (H := I12) (a := a13) (o := HO.lst [V.ref a12])
      have v13 : ¬ N a13 := fun h => ((hN _).mp h).elim (wh12.ne n13) (ne_some hz12 n13)
      have hz13 := e13 _ _ hz12
      have wh13 := wh12.same e13
      generalize upd I12 a13 (HO.lst [V.ref a12]) = I13 at e13 h13 wh13 hz13 ⊢
      refine go_cons (go_lst (go_cons (go_tup (go_cons (go_c (go_cons (go_c (go_nil ⟨show 2 ≤ sizeLine by decide, fun a14 n14 => ?_⟩))))))))
      have e14 := same_new (o := HO.tup [V.int 1, V.non]) n14
      have h14 := upd_same (H := I13) (a := a14) (o := HO.tup [V.int 1, V.non])
      have v14 : ¬ N a14 := fun h => ((hN _).mp h).elim (wh13.ne n14) (ne_some hz13 n14)
      have hz14 := e14 _ _ hz13
      have wh14 := wh13.same e14
      generalize upd I13 a14 (HO.tup [V.int 1, V.non]) = I14 at e14 h14 wh14 hz14 ⊢
      refine go_nil ⟨show 1 ≤ sizeLine by decide, fun a15 n15 => ?_⟩
      have e15 := same_new (o := HO.lst [V.ref a14]) n15
      have h15 := upd_same (H := I14) (a := a15) (o := HO.lst [V.ref a14])
      have v15 : ¬ N a15 := fun h => ((hN _).mp h).elim (wh14.ne n15) (ne_some hz14 n15)
      have hz15 := e15 _ _ hz14
      have wh15 := wh14.same e15
      generalize upd I14 a15 (HO.lst [V.ref a14]) = I15 at e15 h15 wh15 hz15 ⊢
      refine go_cons (go_lst (go_cons (go_c (go_cons (go_c (go_nil ⟨sz2, fun a16 n16 => ?_⟩))))))
      have e16 := same_new (o := HO.lst [V.int 1, V.int 2]) n16
      have h16 := upd_same (H := I15) (a := a16) (o := HO.lst [V.int 1, V.int 2])
      have v16 : ¬ N a16 := fun h => ((hN _).mp h).elim (wh15.ne n16) (ne_some hz15 n16)
      have hz16 := e16 _ _ hz15
      have wh16 := wh15.same e16
      generalize upd I15 a16 (HO.lst [V.int 1, V.int 2]) = I16 at e16 h16 wh16 hz16 ⊢
      refine go_cons (go_c (go_nil ⟨show 11 ≤ sizeLine by decide, fun pp np => go_nil (pick_new np wh16 (by omega) (by simp) (show 11 ≤ 1000000 by decide) fun v H2 hv m2 w2 => ?_)⟩))
      refine q v H2 ?_ ((Mv.of (e0.trans (e1.trans (e2.trans (e3.trans (e4.trans (e5.trans (e6.trans (e7.trans (e8.trans (e9.trans (e10.trans (e11.trans (e12.trans (e13.trans (e14.trans (e15.trans (e16)))))))))))))))))).trans m2) (w2.lt (by omega))
      have m2 := MvN.of nw m2
      unfold Bad
      rw [if_neg k1, if_pos k2']
      simp only [List.mem_cons, List.not_mem_nil, or_false] at hv
      rcases hv with rfl | rfl | rfl | rfl | rfl | rfl | rfl | rfl | rfl | rfl | rfl
      · exact .non
      · exact .int _
      · exact .dct v1 (m2 _ _ v1 ((e2.trans (e3.trans (e4.trans (e5.trans (e6.trans (e7.trans (e8.trans (e9.trans (e10.trans (e11.trans (e12.trans (e13.trans (e14.trans (e15.trans (e16))))))))))))))) _ _ h1))
      · exact .one v3 (m2 _ _ v3 ((e4.trans (e5.trans (e6.trans (e7.trans (e8.trans (e9.trans (e10.trans (e11.trans (e12.trans (e13.trans (e14.trans (e15.trans (e16))))))))))))) _ _ h3)) v2 (m2 _ _ v2 ((e3.trans (e4.trans (e5.trans (e6.trans (e7.trans (e8.trans (e9.trans (e10.trans (e11.trans (e12.trans (e13.trans (e14.trans (e15.trans (e16)))))))))))))) _ _ h2)) ⟨show 2 ≤ 1000 by decide, fun z hz => by
          simp only [List.mem_cons, List.not_mem_nil, or_false] at hz
          rcases hz with rfl | rfl
          · exact .inr (.inr ⟨_, rfl⟩)
          · exact .inr (.inr ⟨_, rfl⟩)
          , .inr ⟨[1, 0], rfl, by decide⟩⟩
      · exact .two (qs := [(a4, false), (a5, false)]) (l := [(2, 1), (1, 1)]) v6 (m2 _ _ v6 ((e7.trans (e8.trans (e9.trans (e10.trans (e11.trans (e12.trans (e13.trans (e14.trans (e15.trans (e16)))))))))) _ _ h6)) (.cons ⟨v4, m2 _ _ v4 ((e5.trans (e6.trans (e7.trans (e8.trans (e9.trans (e10.trans (e11.trans (e12.trans (e13.trans (e14.trans (e15.trans (e16)))))))))))) _ _ h4)⟩ (.cons ⟨v5, m2 _ _ v5 ((e6.trans (e7.trans (e8.trans (e9.trans (e10.trans (e11.trans (e12.trans (e13.trans (e14.trans (e15.trans (e16))))))))))) _ _ h5)⟩ (.nil))) (by decide) (show 2 ≤ 1000 by decide) (by decide)
      · exact .two (qs := [(a7, false), (a8, false)]) (l := [(1, 1), (1, 2)]) v9 (m2 _ _ v9 ((e10.trans (e11.trans (e12.trans (e13.trans (e14.trans (e15.trans (e16))))))) _ _ h9)) (.cons ⟨v7, m2 _ _ v7 ((e8.trans (e9.trans (e10.trans (e11.trans (e12.trans (e13.trans (e14.trans (e15.trans (e16))))))))) _ _ h7)⟩ (.cons ⟨v8, m2 _ _ v8 ((e9.trans (e10.trans (e11.trans (e12.trans (e13.trans (e14.trans (e15.trans (e16)))))))) _ _ h8)⟩ (.nil))) (by decide) (show 2 ≤ 1000 by decide) (by decide)
      · exact .one v11 (m2 _ _ v11 ((e12.trans (e13.trans (e14.trans (e15.trans (e16))))) _ _ h11)) v10 (m2 _ _ v10 ((e11.trans (e12.trans (e13.trans (e14.trans (e15.trans (e16)))))) _ _ h10)) ⟨show 3 ≤ 1000 by decide, fun z hz => by
          simp only [List.mem_cons, List.not_mem_nil, or_false] at hz
          rcases hz with rfl | rfl | rfl
          · exact .inr (.inr ⟨_, rfl⟩)
          · exact .inr (.inr ⟨_, rfl⟩)
          · exact .inr (.inr ⟨_, rfl⟩)
          , .inr ⟨[1, 2, 3], rfl, by decide⟩⟩
      · exact .one v13 (m2 _ _ v13 ((e14.trans (e15.trans (e16))) _ _ h13)) v12 (m2 _ _ v12 ((e13.trans (e14.trans (e15.trans (e16)))) _ _ h12)) ⟨show 2 ≤ 1000 by decide, fun z hz => by
          simp only [List.mem_cons, List.not_mem_nil, or_false] at hz
          rcases hz with rfl | rfl
          · exact .inr (.inl ⟨_, rfl⟩)
          · exact .inr (.inr ⟨_, rfl⟩)
          , .inl rfl⟩
      · exact .one v15 (m2 _ _ v15 ((e16) _ _ h15)) v14 (m2 _ _ v14 ((e15.trans (e16)) _ _ h14)) ⟨show 2 ≤ 1000 by decide, fun z hz => by
          simp only [List.mem_cons, List.not_mem_nil, or_false] at hz
          rcases hz with rfl | rfl
          · exact .inr (.inr ⟨_, rfl⟩)
          · exact .inl rfl
          , .inl rfl⟩
      · exact .flat v16 (m2 _ _ v16 h16)
      · exact .str _
    rw [decide_eq_false k2]
    have k2' : ¬ at_ = 8 := by omega
    refine iteF (A := _) ?_
    dsimp only [tNext]
    refine go_seq (go_if (go_test (go_op (go_var rfl (go_c ⟨rfl, _, rfl, ?_⟩)))))
    rw [decI]
    by_cases k3 : (at_ : Int) = 10
    · rw [decide_eq_true k3]
      have k3' : at_ = 10 := by omega
      refine iteT (B := _) (go_ret ?_)
      refine ⟨_, rfl, ?_⟩
      refine go_cons (go_lst (go_cons (go_c (go_cons (go_c (go_cons (go_c ?_)))))))
      refine go_cons (go_lst (go_cons (go_c (go_nil ⟨sz1, fun a1 n1 => ?_⟩))))
      have e1 := same_new (o := HO.lst [V.bl true]) n1
      have h1 := upd_same (H := H0) (a := a1) (o := HO.lst [V.bl true])
      have v1 : ¬ N a1 := fun h => ((hN _).mp h).elim (wh0.ne n1) (ne_some hz0 n1)
      have hz1 := e1 _ _ hz0
      have wh1 := wh0.same e1
      generalize upd H0 a1 (HO.lst [V.bl true]) = I1 at e1 h1 wh1 hz1 ⊢
      refine go_cons (go_lst (go_cons (go_c (go_nil ⟨sz1, fun a2 n2 => ?_⟩))))
      have e2 := same_new (o := HO.lst [V.non]) n2
      have h2 := upd_same (H := I1) (a := a2) (o := HO.lst [V.non])
      have v2 : ¬ N a2 := fun h => ((hN _).mp h).elim (wh1.ne n2) (ne_some hz1 n2)
      have hz2 := e2 _ _ hz1
      have wh2 := wh1.same e2
      generalize upd I1 a2 (HO.lst [V.non]) = I2 at e2 h2 wh2 hz2 ⊢
      refine go_cons fun a3 n3 => ?_
      have e3 := same_new (o := HO.dK []) n3
      have h3 := upd_same (H := I2) (a := a3) (o := HO.dK [])
      have v3 : ¬ N a3 := fun h => ((hN _).mp h).elim (wh2.ne n3) (ne_some hz2 n3)
      have hz3 := e3 _ _ hz2
      have wh3 := wh2.same e3
      generalize upd I2 a3 (HO.dK []) = I3 at e3 h3 wh3 hz3 ⊢
      refine go_cons (go_lst (go_cons (go_lst (go_cons (go_c (go_nil ⟨sz1, fun a4 n4 => ?_⟩))))))
      have e4 := same_new (o := HO.lst [V.int 1]) n4
      have h4 := upd_same (H := I3) (a := a4) (o := HO.lst [V.int 1])
      have v4 : ¬ N a4 := fun h => ((hN _).mp h).elim (wh3.ne n4) (ne_some hz3 n4)
      have hz4 := e4 _ _ hz3
      have wh4 := wh3.same e4
      generalize upd I3 a4 (HO.lst [V.int 1]) = I4 at e4 h4 wh4 hz4 ⊢
      refine go_nil ⟨sz1, fun a5 n5 => ?_⟩
      have e5 := same_new (o := HO.lst [V.ref a4]) n5
      have h5 := upd_same (H := I4) (a := a5) (o := HO.lst [V.ref a4])
      have v5 : ¬ N a5 := fun h => ((hN _).mp h).elim (wh4.ne n5) (ne_some hz4 n5)
      have hz5 := e5 _ _ hz4
      have wh5 := wh4.same e5
      generalize upd I4 a5 (HO.lst [V.ref a4]) = I5 at e5 h5 wh5 hz5 ⊢
      refine go_nil ⟨show 7 ≤ sizeLine by decide, fun pp np => go_nil (pick_new np wh5 (by omega) (by simp) (show 7 ≤ 1000000 by decide) fun v H2 hv m2 w2 => ?_)⟩
      refine q v H2 ?_ ((Mv.of (e0.trans (e1.trans (e2.trans (e3.trans (e4.trans e5)))))).trans m2) (w2.lt (by omega))
      have m2 := MvN.of nw m2
      unfold Bad
      rw [if_neg k1, if_neg k2', if_pos k3']
      simp only [List.mem_cons, List.not_mem_nil, or_false] at hv
      rcases hv with rfl | rfl | rfl | rfl | rfl | rfl | rfl
      · exact .non
      · exact .int _
      · exact .str _
      · exact .lst v1 (m2 _ _ v1 ((e2.trans (e3.trans (e4.trans e5))) _ _ h1)) rfl (fun z hz => by rw [List.mem_singleton.mp hz]; exact .bl _) (by decide)
      · exact .lst v2 (m2 _ _ v2 ((e3.trans (e4.trans e5)) _ _ h2)) rfl (fun z hz => by rw [List.mem_singleton.mp hz]; exact .non) (by decide)
      · exact .dct v3 (m2 _ _ v3 ((e4.trans e5) _ _ h3))
      · exact .lst v5 (m2 _ _ v5 h5) rfl (fun z hz => by rw [List.mem_singleton.mp hz]; exact .lst v4 (m2 _ _ v4 (e5 _ _ h4))) (show 1 ≤ 100000 by decide)
    rw [decide_eq_false k3]
    have k3' : ¬ at_ = 10 := by omega
    refine iteF (A := _) ?_
    dsimp only [tNext]
    refine go_seq (go_asg ?_)
    refine fun d nd => ⟨_, rfl, ?_⟩
    have ed := same_new (o := HO.dK []) nd
    have hd := upd_same (H := H0) (a := d) (o := HO.dK [])
    have dw := wh0.ne nd
    have dc := wh0.nc nd
    have wd := wh0.same ed
    have hzd := ed _ _ hz0
    have zd : z ≠ d := (ne_some hz0 nd).symm
    have nd0 := nd
    generalize upd H0 d (.dK []) = I1 at ed hd wd hzd ⊢
    refine ⟨_, rfl, ?_⟩
    refine go_cons (go_lst (go_cons (go_c (go_cons ?_))))
    refine ⟨_, rfl, ?_⟩
    refine go_nil ⟨sz2, fun pp np => go_nil (pick_new np wd (by omega) (by simp) (show 2 ≤ 1000000 by decide) fun v H2 hv m2 w2 => ?_)⟩
    obtain ⟨r, rfl, hr5⟩ : ∃ r : Int, v = .int r ∧ (r < 0 ∨ 2 < r) := by
      simp only [List.mem_cons, List.not_mem_nil, or_false] at hv
      rcases hv with rfl | rfl
      · exact ⟨_, rfl, .inr (by decide)⟩
      · exact ⟨_, rfl, .inl (by decide)⟩
    have hd2 := m2 _ _ dw hd
    have hz2 := m2 _ _ zw hzd
    have mv2 := (Mv.of (e0.trans ed)).trans m2
    clear hv np m2 hd wd ed
    refine ⟨_, rfl, ?_⟩
    refine ⟨hd2, [(.inl 0, V.int (-2)), (.inl 5, V.int r), (.inl 9, V.int (-1))], rfl, show 3 ≤ 15 by decide, ?_⟩
    obtain ⟨kv, hkv⟩ : ∃ kv, kv = mergeK [] [((.inl 0 : Key), V.int (-2)), (.inl 5, V.int r), (.inl 9, V.int (-1))] := ⟨_, rfl⟩
    rw [← hkv]
    have hd3 := upd_same (H := H2) (a := d) (o := HO.dK kv)
    have w3 : Wh (upd H2 d (.dK kv)) w c _ := w2.set dw dc
    have hz3 : upd H2 d (.dK kv) z = some oz := by rw [upd_ne zd]; exact hz2
    have mv3 : Mv w H (upd H2 d (.dK kv)) := fun b o hb hz => by
      rw [upd_ne (ne_of_none (e0 _ _ hz) nd0)]
      exact mv2 b o hb hz
    generalize upd H2 d (.dK kv) = H3 at hd3 w3 mv3 hz3 ⊢
    clear hd2 mv2 w2
    dsimp only [gName]
    refine go_ret ?_
    refine ⟨_, rfl, ?_⟩
    refine go_cons (go_lst (go_cons (go_c (go_cons (go_c (go_cons (go_c ?_)))))))
    refine go_cons (go_tup (go_cons (go_c (go_cons (go_c (go_nil ⟨sz2, fun a1 n1 => ?_⟩))))))
    have wh0 := w3
    have hz0 := hz3
    have e1 := same_new (o := HO.tup [V.int 1, V.int 2]) n1
    have h1 := upd_same (H := H3) (a := a1) (o := HO.tup [V.int 1, V.int 2])
    have v1 : ¬ N a1 := fun h => ((hN _).mp h).elim (wh0.ne n1) (ne_some hz0 n1)
    have hz1 := e1 _ _ hz0
    have wh1 := wh0.same e1
    generalize upd H3 a1 (HO.tup [V.int 1, V.int 2]) = I1 at e1 h1 wh1 hz1 ⊢
    refine go_cons (go_lst (go_cons (go_c (go_nil ⟨sz1, fun a2 n2 => ?_⟩))))
    have e2 := same_new (o := HO.lst [V.int 0]) n2
    have h2 := upd_same (H := I1) (a := a2) (o := HO.lst [V.int 0])
    have v2 : ¬ N a2 := fun h => ((hN _).mp h).elim (wh1.ne n2) (ne_some hz1 n2)
    have hz2 := e2 _ _ hz1
    have wh2 := wh1.same e2
    generalize upd I1 a2 (HO.lst [V.int 0]) = I2 at e2 h2 wh2 hz2 ⊢
    have hd5 := (e1.trans e2) _ _ hd3
    refine go_cons ?_
    refine ⟨_, rfl, d, rfl, .inl ⟨_, .inl hd5⟩, _, rfl, _, .inl ⟨_, .inl (at_ : Int), .inl hd5, rfl, rfl⟩, ?_⟩
    refine go_nil ⟨show 6 ≤ sizeLine by decide, fun pp np => go_nil (pick_new np wh2 (by omega) (by simp) (show 6 ≤ 1000000 by decide) fun v H6 hv m6 w6 => ?_)⟩
    refine q v H6 ?_ (mv3.trans ((Mv.of (e1.trans e2)).trans m6)) (w6.lt (by omega))
    have m6 := MvN.of nw m6
    unfold Bad
    rw [if_neg k1, if_neg k2', if_neg k3']
    simp only [List.mem_cons, List.not_mem_nil, or_false] at hv
    rcases hv with rfl | rfl | rfl | rfl | rfl | hv
    · exact ⟨.non, fun b z => by cases z⟩
    · exact ⟨.bl _, fun b z => by cases z⟩
    · exact ⟨.str _, fun b z => by cases z⟩
    · exact ⟨.tup v1 (m6 _ _ v1 (e2 _ _ h1)), fun b z => by cases z⟩
    · exact ⟨.lst v2 (m6 _ _ v2 h2), fun b z => by cases z⟩
    · rw [hkv] at hv
      obtain rfl | rfl | rfl | rfl | rfl | rfl : at_ = 0 ∨ at_ = 1 ∨ at_ = 5 ∨ at_ = 6 ∨ at_ = 7 ∨ at_ = 9 := by omega
      · have : v = .int (-2) := hv
        subst this
        exact ⟨.int _, fun i z => by cases z; exact .inl ⟨rfl, by decide⟩⟩
      · have : v = .non := hv
        subst this
        exact ⟨.non, fun i z => by cases z⟩
      · have : v = .int r := hv
        subst this
        exact ⟨.int _, fun i z => by cases z; exact .inr (.inl ⟨rfl, hr5⟩)⟩
      · have : v = .non := hv
        subst this
        exact ⟨.non, fun i z => by cases z⟩
      · have : v = .non := hv
        subst this
        exact ⟨.non, fun i z => by cases z⟩
      · have : v = .int (-1) := hv
        subst this
        exact ⟨.int _, fun i z => by cases z; exact .inr (.inr ⟨rfl, by decide⟩)⟩
end
end K28
namespace K28
open PySem PySem.Spec PyProof.Rows L2 Kx SX LamX Ms
section
variable {P : Program} {w : World} {K : PySem.W.Frag} {mg : Str → Option Value} {base : Heap} (T : Tx K mg)
/-! ### a stand of which one part is another -/
def saidD (s : Mst) : PyData := .tuple (s.said.map PyData.int)
def cellsD (l : List (Int × Int)) : PyData := .tuple (l.map Kx.pairD)
theorem eqv_std (s s' : Mst) (l l' : List (Int × Int)) : PyData.eqv (.tuple (standD s l)) (.tuple (standD s' l')) =
  (s.block == s'.block && (s.room == s'.room && (s.tick == s'.tick && (s.flag == s'.flag && (s.test == s'.test && (s.mode == s'.mode && (s.first == s'.first && (s.second == s'.second && (PyData.eqv (cellsD l) (cellsD l') && ((s.heard : Int) == (s'.heard : Int) && (PyData.eqv (saidD s) (saidD s') && (s.isd == s'.isd && true)))))))))))) := rfl
theorem eqvAll_len : ∀ (xs ys : List PyData), xs.length ≠ ys.length → PyData.eqvAll xs ys = false
  | [], [], h => absurd rfl h
  | [], _ :: _, _ => rfl
  | _ :: _, [], _ => rfl
  | x :: xs, y :: ys, h => by
    show (PyData.eqv x y && PyData.eqvAll xs ys) = false
    rw [eqvAll_len xs ys (fun e => h (by rw [List.length_cons, List.length_cons, e])), Bool.and_false]
def NeS (s : Mst) (l : List (Int × Int)) (s' : Mst) (l' : List (Int × Int)) : Prop := PyData.eqv (.tuple (standD s l)) (.tuple (standD s' l')) = false ∧ PyData.eqv (.tuple (standD s' l')) (.tuple (standD s l)) = false
def sp_law_changed (K : PySem.W.Frag) : Sp := fun vs H Q _ => ∃ (w P c sd : Addr) (s : Mst) (l : List (Int × Int)) (kc ks : Bool) (qs : List (Addr × Bool)) (j : Nat) (v : V), vs = [v, .int (j : Int)] ∧ j < 12 ∧ PartsAt H w P s c sd l kc ks qs ∧ (standV s c sd)[j]? = some v ∧
  ∀ (y : V) (H' : Hp) (c' sd' : Addr) (s' : Mst) (l' : List (Int × Int)), Same H H' → (standV s c sd).set j y = standV s' c' sd' → MadeS K H' s' c' sd' l' → NeS s l s' l' → Q y H'
theorem ok_law_changed : FnOk P w K mg base CX0 1 T.f_law_changed T.fd_law_changed ["part", "place"] (sp_law_changed K) := by
  refine T.F_law_changed.ok sc_law_changed (fun vs H Q E h => ?_) (fun cdv A outer s H vs Q E hr h => ?_)
  · obtain ⟨w, P, c, sd, s, l, kc, ks, qs, j, v, rfl, _⟩ := h
    rfl
  · obtain ⟨w, P, c, sd, s, l, kc, ks, qs, j, v, rfl, hj, hP, hv, q⟩ := h
    refine ⟨_, (pss_cons (ps_if (pt_cmpR op_in_seq (pv 1) (pe_tup (pa_cons pe_int (pa_cons pe_int (pa_cons pe_int (pa_cons pe_int pa_nil))))) rfl)
      (pss_one (ps_ret (pe_not (pv 0))))
      pss_nil)
    (pss_cons (ps_if (pt_cmpR op_eq (pv 1) pe_int (nomark _))
      (pss_one (ps_ret (pe_ifExp (pt_cmpR op_ne (pv 0) pe_int (nomark _)) (pe_op op_sub pe_int (pv 0)) pe_int)))
      pss_nil)
    (pss_cons (ps_if (pt_cmpR op_eq (pv 1) pe_int (nomark _))
      (pss_one (ps_ret (pe_op op_cat (pe_callTy call_list_of (by rfl) T.m_list (by decide +kernel) (pa_cons (pv 0) pa_nil)) (pe_lst (pa_cons (pe_tup (pa_cons (pe_op op_pow pe_int pe_int) (pa_cons pe_int pa_nil))) pa_nil)))))
      pss_nil)
    (pss_one (ps_ret (pe_ifExp (pt_cmpR op_eq (pv 1) pe_int (nomark _)) (pe_op op_cat (pe_callTy call_list_of (by rfl) T.m_list (by decide +kernel) (pa_cons (pv 0) pa_nil)) (pe_lst (pa_cons pe_int pa_nil))) (pe_op op_add (pv 0) pe_int))))))), ?_⟩
    refine go_seq (go_if (go_test (go_op (go_var rfl (go_tup ?_)))))
    refine go_cons (go_c (go_cons (go_c (go_cons (go_c (go_cons (go_c (go_nil ⟨show 4 ≤ sizeLine by decide, fun a0 n0 => ?_⟩))))))))
    refine ⟨a0, _, rfl, .inr (.inl (.inl upd_same)), rfl, rfl, _, rfl, ?_⟩
    show if inV (.int (j : Int)) [V.int 2, .int 3, .int 4, .int 11] = true then _ else _
    rw [inV_at]
    have e0 := same_new (o := HO.tup [V.int 2, .int 3, .int 4, .int 11]) n0
    have hM := (hP.made (K := K)).same e0
    have hP := hP.mv (Mv.of e0)
    generalize upd H a0 (.tup [V.int 2, .int 3, .int 4, .int 11]) = H0 at e0 hM hP ⊢
    clear n0
    have nb : ∀ b : Bool, (b == !b) = false ∧ ((!b) == b) = false := fun b => by cases b <;> exact ⟨rfl, rfl⟩
    by_cases k1 : j = 2 ∨ j = 3 ∨ j = 4 ∨ j = 11
    · rw [decide_eq_true k1]
      refine iteT (B := _) (go_ret ?_)
      rcases k1 with rfl | rfl | rfl | rfl
      all_goals (have hv := Option.some.inj hv; subst hv)
      · refine ⟨_, rfl, _, rfl, q (.bl (!s.tick)) H0 c sd { s with tick := !s.tick } l e0 rfl { hM with } ⟨?_, ?_⟩⟩
        · rw [eqv_std]; simp [nb]
        · rw [eqv_std]; simp [nb]
      · refine ⟨_, rfl, _, rfl, q (.bl (!s.flag)) H0 c sd { s with flag := !s.flag } l e0 rfl { hM with } ⟨?_, ?_⟩⟩
        · rw [eqv_std]; simp [nb]
        · rw [eqv_std]; simp [nb]
      · refine ⟨_, rfl, _, rfl, q (.bl (!s.test)) H0 c sd { s with test := !s.test } l e0 rfl { hM with } ⟨?_, ?_⟩⟩
        · rw [eqv_std]; simp [nb]
        · rw [eqv_std]; simp [nb]
      · refine ⟨_, rfl, _, rfl, q (.bl (!s.isd)) H0 c sd { s with isd := !s.isd } l e0 rfl { hM with } ⟨?_, ?_⟩⟩
        · rw [eqv_std]; simp [nb]
        · rw [eqv_std]; simp [nb]
    rw [decide_eq_false k1]
    refine iteF (A := _) ?_
    dsimp only [tNext]
    refine go_seq (go_if (go_test (go_op (go_var rfl (go_c ⟨rfl, _, rfl, ?_⟩)))))
    rw [decI]
    by_cases k2 : (j : Int) = 5
    · rw [decide_eq_true k2]
      obtain rfl : j = 5 := by omega
      refine iteT (B := _) (go_ret ?_)
      have hv := Option.some.inj hv
      subst hv
      have m0 := hM.mode
      refine go_ife (go_test (go_op (go_var rfl (go_c ?_))))
      refine ⟨rfl, _, rfl, ?_⟩
      rw [decI]
      by_cases k5 : s.mode = 1
      · rw [decide_eq_true k5]
        refine iteF (A := _) (go_c (q (.int 0) H0 c sd { s with mode := 0 } l e0 rfl { hM with mode := (by decide : (0 : Int) ≤ 0 ∧ (0 : Int) ≤ 2) } ⟨?_, ?_⟩))
        · rw [eqv_std]; simp [k5]
        · rw [eqv_std]; simp [k5]
      · rw [decide_eq_false k5]
        refine iteT (B := _) (go_op (go_c (go_var rfl ⟨_, _, rfl, rfl, q (.int (2 - s.mode)) H0 c sd { s with mode := 2 - s.mode } l e0 rfl { hM with mode := ⟨by show 0 ≤ 2 - s.mode; omega, by show 2 - s.mode ≤ 2; omega⟩ } ⟨?_, ?_⟩⟩)))
        · have : (s.mode == 2 - s.mode) = false := by simp; omega
          rw [eqv_std]; simp [this]
        · have : (2 - s.mode == s.mode) = false := by simp; omega
          rw [eqv_std]; simp [this]
    rw [decide_eq_false k2]
    have k2' : ¬ j = 5 := by omega
    refine iteF (A := _) ?_
    dsimp only [tNext]
    refine go_seq (go_if (go_test (go_op (go_var rfl (go_c ⟨rfl, _, rfl, ?_⟩)))))
    rw [decI]
    by_cases k3 : (j : Int) = 8
    · rw [decide_eq_true k3]
      obtain rfl : j = 8 := by omega
      refine iteT (B := _) (go_ret (go_op ?_))
      have hv := Option.some.inj hv
      subst hv
      refine go_cons (go_var rfl (go_nil ⟨c, _, rfl, seqO_q hP.cat, fun p1 n1 => ?_⟩))
      have e1 := same_new (o := HO.lst (refsV qs)) n1
      have h1 := upd_same (H := H0) (a := p1) (o := HO.lst (refsV qs))
      have hP1 := hP.mv (Mv.of e1)
      generalize upd H0 p1 (.lst (refsV qs)) = H1 at e1 h1 hP1 ⊢
      refine go_lst (go_cons (go_tup (go_cons (go_op (go_c (go_c ?_))))))
      refine ⟨_, _, rfl, rfl, ⟨by decide, by decide, by decide⟩, ?_⟩
      refine go_cons (go_c (go_nil ⟨sz2, fun t nt => ?_⟩))
      have e2 := same_new (o := HO.tup [V.int ((10 : Int) ^ (40 : Int).toNat), V.int 1]) nt
      have h2 := upd_same (H := H1) (a := t) (o := HO.tup [V.int ((10 : Int) ^ (40 : Int).toNat), V.int 1])
      have hP2 := hP1.mv (Mv.of e2)
      dsimp only
      generalize upd H1 t (.tup [V.int ((10 : Int) ^ (40 : Int).toNat), V.int 1]) = H2 at e2 h2 hP2 ⊢
      refine go_nil ⟨sz1, fun p2 n2 => ?_⟩
      have e3 := same_new (o := HO.lst [V.ref t]) n2
      have ql : (refsV qs).length = l.length := by
        unfold refsV
        rw [List.length_map]
        exact hP.pat.length
      have l3 := hP.len
      refine ⟨p1, p2, _, _, rfl, rfl, e3 _ _ (e2 _ _ h1), upd_same, ?_, fun p3 n3 => ?_⟩
      · rw [ql]
        exact Nat.le_trans (show l.length + 1 ≤ 4 by omega) (by decide)
      have e4 := e3.trans (same_new (o := HO.lst (refsV qs ++ [V.ref t])) n3)
      have hP4 := hP2.mv (Mv.of e4)
      have h4 := e4 _ _ h2
      have big : ∀ p ∈ l, p.1 < (10 : Int) ^ (40 : Int).toNat := fun p m => by
        obtain ⟨z1, z2⟩ := (hP.isC.mem p.1 p.2).mp m
        have hk : p.1.natAbs < 2 ^ 110 := hP.bd.keys p.1 (by rw [z1]; exact z2)
        have h10 : (2 : Nat) ^ 110 < 10 ^ 40 := by decide
        have h11 : ((10 : Int) ^ (40 : Int).toNat) = ((10 ^ 40 : Nat) : Int) := by decide
        rw [h11]
        omega
      have nz : ∀ p ∈ l ++ [((10 : Int) ^ (40 : Int).toNat, (1 : Int))], p.2 ≠ 0 := fun p m => by
        rcases List.mem_append.mp m with m | m
        · exact ((hP.isC.mem p.1 p.2).mp m).2
        · rw [List.mem_singleton.mp m]
          show (1 : Int) ≠ 0
          decide
      have up : (l ++ [((10 : Int) ^ (40 : Int).toNat, (1 : Int))]).Pairwise fun p q => p.1 < q.1 := by
        rw [List.pairwise_append]
        refine ⟨hP.isC.up, List.pairwise_singleton _ _, fun a ha b hb => ?_⟩
        rw [List.mem_singleton.mp hb]
        exact big a ha
      refine q (.ref p3) _ p3 sd { s with cells := cellOf (l ++ [((10 : Int) ^ (40 : Int).toNat, (1 : Int))]) } (l ++ [((10 : Int) ^ (40 : Int).toNat, (1 : Int))]) (e0.trans (e1.trans (e2.trans e4))) rfl ?_ ⟨?_, ?_⟩
      · refine { hM.same (e1.trans (e2.trans e4)) with cat := ?_, isC := isC_cell up nz, len := by rw [List.length_append]; exact Nat.le_trans (show l.length + 1 ≤ 4 by omega) (by decide) }
        refine ⟨qs.map (·.1) ++ [t], .inl (.inl (.inl ?_)), paired_snoc hP4.pat.q (.inr (.inl (.inl h4)))⟩
        rw [upd_same, List.map_append, ← refsV_eq]
        rfl
      · have : PyData.eqv (cellsD l) (cellsD (l ++ [((10 : Int) ^ (40 : Int).toNat, (1 : Int))])) = false := eqvAll_len _ _ (by rw [List.length_map, List.length_map, List.length_append, List.length_singleton]; omega)
        rw [eqv_std, this]; simp
      · have : PyData.eqv (cellsD (l ++ [((10 : Int) ^ (40 : Int).toNat, (1 : Int))])) (cellsD l) = false := eqvAll_len _ _ (by rw [List.length_map, List.length_map, List.length_append, List.length_singleton]; omega)
        rw [eqv_std, this]; simp
    rw [decide_eq_false k3]
    have k3' : ¬ j = 8 := by omega
    refine iteF (A := _) ?_
    dsimp only [tNext]
    refine go_ret (go_ife (go_test (go_op (go_var rfl (go_c ⟨rfl, _, rfl, ?_⟩)))))
    rw [decI]
    by_cases k4 : (j : Int) = 10
    · rw [decide_eq_true k4]
      obtain rfl : j = 10 := by omega
      refine iteT (B := _) (go_op ?_)
      have hv := Option.some.inj hv
      subst hv
      refine go_cons (go_var rfl (go_nil ⟨sd, _, rfl, seqO_q hP.sat, fun p1 n1 => ?_⟩))
      have e1 := same_new (o := HO.lst (s.said.map V.int)) n1
      have h1 := upd_same (H := H0) (a := p1) (o := HO.lst (s.said.map V.int))
      refine go_lst (go_cons (go_c (go_nil ⟨sz1, fun p2 n2 => ?_⟩)))
      have e2 := same_new (o := HO.lst [V.int 0]) n2
      have s3 := hP.sln
      refine ⟨p1, p2, _, _, rfl, rfl, e2 _ _ h1, upd_same, ?_, fun p3 n3 => ?_⟩
      · rw [List.length_map]
        exact Nat.le_trans (show s.said.length + 1 ≤ 4 by omega) (by decide)
      have e3 := same_new (o := HO.lst (s.said.map V.int ++ [V.int 0])) n3
      refine q (.ref p3) _ c p3 { s with said := s.said ++ [0] } l (e0.trans (e1.trans (e2.trans e3))) rfl ?_ ⟨?_, ?_⟩
      · refine { hM.same (e1.trans (e2.trans e3)) with sat := .inl (.inl (.inl ?_)), sln := by show (s.said ++ [0]).length ≤ 90000; rw [List.length_append]; exact Nat.le_trans (show s.said.length + 1 ≤ 4 by omega) (by decide) }
        rw [upd_same, List.map_append]
        rfl
      · have : PyData.eqv (saidD s) (saidD { s with said := s.said ++ [0] }) = false := eqvAll_len _ _ (by rw [List.length_map, List.length_map, List.length_append, List.length_singleton]; omega)
        rw [eqv_std, this]; simp
      · have : PyData.eqv (saidD { s with said := s.said ++ [0] }) (saidD s) = false := eqvAll_len _ _ (by rw [List.length_map, List.length_map, List.length_append, List.length_singleton]; omega)
        rw [eqv_std, this]; simp
    rw [decide_eq_false k4]
    refine iteF (A := _) (go_op ?_)
    have ni : ∀ x : Int, (x == x + 1) = false ∧ (x + 1 == x) = false := fun x => ⟨by simp; omega, by simp; omega⟩
    have lo := hM.low
    obtain rfl | rfl | rfl | rfl | rfl : j = 0 ∨ j = 1 ∨ j = 6 ∨ j = 7 ∨ j = 9 := by omega
    all_goals (have hv := Option.some.inj hv; subst hv)
    · refine go_var rfl (go_c ⟨_, _, rfl, rfl, q (.int (s.block + 1)) H0 c sd { s with block := s.block + 1 } l e0 rfl { hM with low := by show -1 ≤ s.block + 1; omega } ⟨?_, ?_⟩⟩)
      · rw [eqv_std]; simp [ni]
      · rw [eqv_std]; simp [ni]
    · refine go_var rfl (go_c ⟨_, _, rfl, rfl, q (.int (s.room + 1)) H0 c sd { s with room := s.room + 1 } l e0 rfl { hM with } ⟨?_, ?_⟩⟩)
      · rw [eqv_std]; simp [ni]
      · rw [eqv_std]; simp [ni]
    · refine go_var rfl (go_c ⟨_, _, rfl, rfl, q (.int (s.first + 1)) H0 c sd { s with first := s.first + 1 } l e0 rfl { hM with } ⟨?_, ?_⟩⟩)
      · rw [eqv_std]; simp [ni]
      · rw [eqv_std]; simp [ni]
    · refine go_var rfl (go_c ⟨_, _, rfl, rfl, q (.int (s.second + 1)) H0 c sd { s with second := s.second + 1 } l e0 rfl { hM with } ⟨?_, ?_⟩⟩)
      · rw [eqv_std]; simp [ni]
      · rw [eqv_std]; simp [ni]
    · refine go_var rfl (go_c ⟨_, _, rfl, rfl, q (.int ((s.heard : Int) + 1)) H0 c sd { s with heard := s.heard + 1 } l e0 rfl { hM with } ⟨?_, ?_⟩⟩)
      · have : ((s.heard : Int) == ((s.heard + 1 : Nat) : Int)) = false := by simp; omega
        rw [eqv_std]; simp only [this]; simp
      · have : (((s.heard + 1 : Nat) : Int) == (s.heard : Int)) = false := by simp; omega
        rw [eqv_std]; simp only [this]; simp
end
end K28
namespace K28
open PySem PySem.Spec PyProof.Rows L2 Kx SX LamX Ms
section
variable {P : Program} {w : World} {K : PySem.W.Frag} {mg : Str → Option Value} {base : Heap} (T : Tx K mg)
theorem kb_Stand_cell_0_place : KBinds K T.fd_Stand_cell ["self", "place"] ["place"] selfG selfG := kb_self T.F_Stand_cell fun _ _ _ _ _ _ _ _ => rfl
theorem midS {t : TS} {σ : L2.St} {H : Hp} {D : Ends} (R : L2.St → Hp → Prop) (h1 : ∀ D1 : Ends, (∀ σ' H', R σ' H' → D1.nx σ' H') → t D1 σ H) (h2 : ∀ σ' H', R σ' H' → D.nx σ' H') : t D σ H := h1 D h2
theorem lc_seqix {K : PySem.W.Frag} {a : Addr} {xs : List V} {g : TG} {σ : L2.St} {H : Hp} {te0 : TE} {tt : TT} {te : TE} {vs : List Nat} {Q : VK} (P : Addr → Nat → Hp → Prop) (hi : ∀ R : VK, R (.ref a) H → te0 σ H R) (hq : SqQ K H a xs)
    (h0 : ∀ D, H D = none → P D 0 (upd H D (.lst []))) (hS : ∀ D i Hc, H D = none → P D i Hc → Same H Hc)
    (hs : ∀ D i x Hc, H D = none → xs[i]? = some x → P D i Hc → g x (wipe σ vs) Hc fun σ2 H2 => wipe σ2 vs = wipe σ vs ∧ tt σ2 H2 fun b H3 =>
      if b = true then te σ2 H3 fun y H4 => ∃ acc, H4 D = some (.lst acc) ∧ acc.length < sizeLine ∧ P D (i + 1) (upd H4 D (.lst (acc ++ [y]))) else P D (i + 1) H3)
    (hd : ∀ D Hc, H D = none → P D xs.length Hc → Q (.ref D) Hc) : tLc (fun σ H R => iList K te0 σ H R ∨ iTup K te0 σ H R) g tt te vs σ H Q := by
  rcases hq with h | h
  · exact .inl (hi _ ⟨a, rfl, ⟨_, h⟩, fun D nD => lc_list (P D) (h0 D nD) (fun i Hc _ p => (hS D i Hc nD p).seq h) (fun i x Hc hx p => hs D i x Hc nD hx p) (fun Hc p => hd D Hc nD p)⟩)
  · exact .inr (hi _ ⟨a, rfl, ⟨_, h⟩, fun D nD => lc_tup (P D) (h0 D nD) (fun i Hc _ p => Same.t (hS D i Hc nD p) h) (fun i x Hc hx p => hs D i x Hc nD hx p) (fun Hc p => hd D Hc nD p)⟩)
theorem shB_seq {k : Bool} {j m : Nat} {ds : List PyData} (h : ShBA j m ds) : ShB (j + 1) m (seqD k ds) := by
  cases k with
  | true => exact h.lst
  | false => exact h.tup
theorem shBA_zip : ∀ (qs : List (Addr × Bool)) (l : List (Int × Int)), (∀ p ∈ l, Bi 110 p.1 ∧ Bi 110 p.2) → ShBA 1 (l.length * 3) (List.zipWith cellD qs l)
  | [], l, _ => ⟨rfl, rfl, Nat.zero_le _, rfl, Nat.zero_le _⟩
  | _ :: _, [], _ => ShBA.nil
  | q :: qs, p :: l, h => by
    have hp := h p List.mem_cons_self
    have h1 : ShB 1 2 (cellD q p) := shB_seq (ShBA.cons (shB_int hp.1 (by decide)) (ShBA.cons (shB_int hp.2 (by decide)) ShBA.nil))
    have := ShBA.cons h1 (shBA_zip qs l fun x m => h x (List.mem_cons_of_mem _ m))
    rw [List.length_cons, Nat.succ_mul, Nat.add_comm (l.length * 3)]
    exact this
theorem kv_pairs {K : PySem.W.Frag} {H : Hp} {us : List Addr} {l : List (Int × Int)} (h : Paired (fun (q : Addr) (p : Int × Int) => SqT K H q [.int p.1, .int p.2]) us l) : Paired (fun p (kv : Key × V) => SqT K H p [kV kv.1, kv.2]) us (kvI l) := by
  induction h with
  | nil => exact .nil
  | cons h _ ih => exact .cons h ih
theorem merge_kvA : ∀ (l acc : List (Int × Int)), (∀ p ∈ acc, ∀ q ∈ l, p.1 ≠ q.1) → l.Pairwise (fun p q => p.1 < q.1) → mergeK (kvI acc) (kvI l) = kvI (acc ++ l)
  | [], acc, _, _ => by rw [List.append_nil]; rfl
  | x :: l, acc, h, up => by
    show mergeK (putK (kvI acc) (.inl x.1) (.int x.2)) (kvI l) = _
    have hn : valV (kvI acc) (.inl x.1) = none := by
      unfold valV kvI
      rw [List.find?_eq_none.mpr]
      · rfl
      · intro kv hkv
        obtain ⟨p, hp, rfl⟩ := List.mem_map.mp hkv
        have := h p hp x List.mem_cons_self
        simp
        exact this
    rw [putK_new _ hn]
    have e : kvI acc ++ [((Sum.inl x.1 : Key), V.int x.2)] = kvI (acc ++ [x]) := by
      unfold kvI
      rw [List.map_append]
      rfl
    rw [e, merge_kvA l (acc ++ [x]) (fun p hp q hq => ?_) (List.pairwise_cons.mp up).2, List.append_assoc]
    · rfl
    · rcases List.mem_append.mp hp with hp | hp
      · exact h p hp q (List.mem_cons_of_mem _ hq)
      · rw [List.mem_singleton.mp hp]
        have := (List.pairwise_cons.mp up).1 q hq
        omega
theorem merge_kvI {l : List (Int × Int)} (up : l.Pairwise fun p q => p.1 < q.1) : mergeK [] (kvI l) = kvI l := merge_kvA l [] (fun p m => by cases m) up
theorem val_cell (l : List (Int × Int)) (k : Int) : (valV (kvI l) (.inl k)).getD (.int 0) = .int (cellOf l k) := by
  unfold valV kvI cellOf
  rw [List.find?_map]
  have e : ((fun kv : Key × V => decide (kv.1 = Sum.inl k)) ∘ fun p : Int × Int => ((Sum.inl p.1 : Key), V.int p.2)) = fun p => p.1 == k := by
    funext p
    by_cases z : p.1 = k
    · rw [← z]; simp
    · have : ((p.1 == k) : Bool) = false := by simpa using z
      rw [this]
      show decide ((Sum.inl p.1 : Key) = Sum.inl k) = false
      exact decide_eq_false fun y => z (Sum.inl.inj y)
  rw [e]
  cases l.find? (fun p => p.1 == k) with
  | none => rfl
  | some p => rfl
theorem _root_.Ms.IsC.fn {l : List (Int × Int)} {f : Int → Int} (h : IsC l f) {k : Int} : f k = cellOf l k := by
  have iC := isC_cell h.up fun p m => ((h.mem p.1 p.2).mp m).2
  by_cases z : f k = 0
  · by_cases y : cellOf l k = 0
    · rw [z, y]
    · have := (h.mem k _).mp ((iC.mem k _).mpr ⟨rfl, y⟩)
      exact this.1
  · have := (iC.mem k _).mp ((h.mem k _).mpr ⟨rfl, z⟩)
    exact this.1.symm
def partsD (s : Mst) (l : List (Int × Int)) (kc ks : Bool) (qs : List (Addr × Bool)) : PyData := .list [.int s.block, .int s.room, .bool s.tick, .bool s.flag, .bool s.test, .int s.mode, .int s.first, .int s.second, seqD kc (List.zipWith cellD qs l), .int (s.heard : Nat), seqD ks (s.said.map PyData.int), .bool s.isd]
theorem PartsAt.dp {H : Hp} {w P c sd : Addr} {s : Mst} {l : List (Int × Int)} {kc ks : Bool} {qs : List (Addr × Bool)} (h : PartsAt H w P s c sd l kc ks qs) : Dp K H (.ref P) (partsD s l kc ks qs) :=
  .lst (.inl (.inl h.at_)) <| .cons (.int _) <| .cons (.int _) <| .cons (.bl _) <| .cons (.bl _) <| .cons (.bl _) <| .cons (.int _) <| .cons (.int _) <| .cons (.int _) <| .cons (seqO_dp h.cat h.pat.dp) <| .cons (.int _) <| .cons (seqO_dp h.sat (dpAll_map _ fun _ _ => .int _)) <| .cons (.bl _) .nil
theorem shB_parts {H : Hp} {w P c sd : Addr} {s : Mst} {l : List (Int × Int)} {kc ks : Bool} {qs : List (Addr × Bool)} (h : PartsAt H w P s c sd l kc ks qs) : ShB 3 200 (partsD s l kc ks qs) := by
  have z : ∀ i : Int, Bi 110 i → ShB 2 0 (.int i) := fun i hi => (shB_int hi (by decide)).up (by decide) (Nat.le_refl _)
  have bo : ∀ i : Bool, ShB 2 0 (.bool i) := fun i => (shB_bool i).up (by decide) (Nat.le_refl _)
  have m0 := h.bd.mode
  have h0 := h.bd.heard
  have hm : Bi 110 s.mode := bi_small (by omega) (by omega) (by decide)
  have hh : Bi 110 (s.heard : Int) := bi_small (by omega) (by omega) (by decide)
  have l3 := h.len
  have s3 := h.sln
  have hp : ∀ p ∈ l, Bi 110 p.1 ∧ Bi 110 p.2 := fun p m => by
    obtain ⟨z1, z2⟩ := (h.isC.mem p.1 p.2).mp m
    exact ⟨h.bd.keys p.1 (by rw [z1]; exact z2), z1 ▸ h.bd.cells p.1⟩
  have hc : ShB 2 9 (seqD kc (List.zipWith cellD qs l)) := (shB_seq (shBA_zip qs l hp)).up (Nat.le_refl _) (by omega)
  have hs : ShB 2 3 (seqD ks (s.said.map PyData.int)) := (shB_seq (shBA_all (w := 0) (f := PyData.int) s.said fun i hi => shB_int (h.bd.said i hi) (by decide))).up (by decide) (by omega)
  exact (ShBA.cons (z _ h.bd.block) <| ShBA.cons (z _ h.bd.room) <| ShBA.cons (bo _) <| ShBA.cons (bo _) <| ShBA.cons (bo _) <| ShBA.cons (z _ hm) <| ShBA.cons (z _ h.bd.first) <| ShBA.cons (z _ h.bd.second) <| ShBA.cons hc <| ShBA.cons (z _ hh) <| ShBA.cons hs <| ShBA.cons (bo _) ShBA.nil).lst.up (Nat.le_refl _) (by decide)
theorem ixN_nat {n j : Nat} (hj : j < n) : ixN n (j : Int) = some j := by
  unfold ixN
  rw [if_pos (by omega), if_pos (by omega)]
  simp
theorem sqQ_set {H : Hp} {ot a : Addr} {xs ys : List V} {o : HO} (h : H ot = some (.lst ys)) (hne : xs ≠ ys) (q : SqQ K H a xs) : SqQ K (upd H ot o) a xs := by
  rcases q with ((q | ⟨ob, q⟩) | q) | ((q | ⟨ob, q⟩) | q)
  · exact .inl (.inl (.inl (by rw [upd_ne (ne_of_two q h (fun z => hne (by injection z)))]; exact q)))
  · exact .inl (.inl (.inr ⟨ob, by rw [upd_ne (ne_of_two q h (fun z => by cases z))]; exact q⟩))
  · exact .inl (.inr q)
  · exact .inr (.inl (.inl (by rw [upd_ne (ne_of_two q h (fun z => by cases z))]; exact q)))
  · exact .inr (.inl (.inr ⟨ob, by rw [upd_ne (ne_of_two q h (fun z => by cases z))]; exact q⟩))
  · exact .inr (.inr q)
theorem MadeS.set {H : Hp} {ot c sd c0 sd0 : Addr} {s s0 : Mst} {l : List (Int × Int)} {o : HO} (hM : MadeS K H s c sd l) (h : H ot = some (.lst (standV s0 c0 sd0))) : MadeS K (upd H ot o) s c sd l := by
  obtain ⟨ps, c1, c2⟩ := hM.cat
  refine { hM with cat := ⟨ps, sqQ_set h (fun z => ?_) c1, Paired.mapP c2 fun q p z => sqQ_set h (fun z => ?_) z⟩, sat := sqQ_set h (fun z => ?_) hM.sat }
  · cases ps with
    | nil => cases z
    | cons a r => injection z with z1 z2; cases z1
  · injection z with z1 z2
    injection z2 with z3 z4
    cases z4
  · have := congrArg (fun l : List V => l[2]?) z
    rw [List.getElem?_map] at this
    cases e : s.said[2]? with
    | none => rw [e] at this; cases this
    | some i => rw [e] at this; cases this
def fitAt (K : PySem.W.Frag) (H : Hp) (j : Nat) (x : V) (b : Bool) : Prop :=
  if j = 0 then HasInt K H x ∧ withinV x (some (-1)) none = b
  else if j = 5 then HasInt K H x ∧ withinV x (some 0) (some 2) = b
  else if j = 9 then HasInt K H x ∧ withinV x (some 0) none = b
  else if j = 8 then CellsV K H x b
  else if j = 10 then IntsV K H x b
  else if j = 2 ∨ j = 3 ∨ j = 4 ∨ j = 11 then ∃ n : String, TyX K H x (.type n) ∧ kitB n "bool" = some b
  else HasInt K H x ∧ isIntV x = b
theorem bad_fit {N : Addr → Prop} {H : Hp} {j : Nat} {x : V} (h : Bad N H j x) (hj : j < 12) : fitAt K H j x false := by
  unfold Bad at h
  unfold fitAt
  by_cases k1 : j = 2 ∨ j = 3 ∨ j = 4 ∨ j = 11
  · rw [if_pos k1] at h
    rw [if_neg (by omega), if_neg (by omega), if_neg (by omega), if_neg (by omega), if_neg (by omega), if_pos k1]
    exact h.1.notB h.2
  rw [if_neg k1] at h
  by_cases k2 : j = 8
  · rw [if_pos k2] at h
    rw [if_neg (by omega), if_neg (by omega), if_neg (by omega), if_pos k2]
    exact h.cells
  rw [if_neg k2] at h
  by_cases k3 : j = 10
  · rw [if_pos k3] at h
    rw [if_neg (by omega), if_neg (by omega), if_neg (by omega), if_neg k2, if_pos k3]
    exact h.ints
  rw [if_neg k3] at h
  have wv : ∀ lo hi, (∀ i, x = .int i → withinB i lo hi = false) → withinV x lo hi = false := fun lo hi q => by
    cases x with
    | int i => exact q i rfl
    | _ => rfl
  by_cases k4 : j = 0
  · rw [if_pos k4]
    refine ⟨h.1.has, wv _ _ fun i e => ?_⟩
    have := h.2 i e
    show (decide (-1 ≤ i) && true) = false
    rw [decide_eq_false (by omega)]
    rfl
  rw [if_neg k4]
  by_cases k5 : j = 5
  · rw [if_pos k5]
    refine ⟨h.1.has, wv _ _ fun i e => ?_⟩
    have := h.2 i e
    show (decide (0 ≤ i) && decide (i ≤ 2)) = false
    rcases (show i < 0 ∨ 2 < i by omega) with z | z
    · rw [decide_eq_false (by omega : ¬ (0 ≤ i))]
      rfl
    · rw [decide_eq_false (by omega : ¬ (i ≤ 2)), Bool.and_false]
  rw [if_neg k5]
  by_cases k6 : j = 9
  · rw [if_pos k6]
    refine ⟨h.1.has, wv _ _ fun i e => ?_⟩
    have := h.2 i e
    show (decide (0 ≤ i) && true) = false
    rw [decide_eq_false (by omega)]
    rfl
  rw [if_neg k6, if_neg k2, if_neg k3, if_neg k1]
  refine ⟨h.1.has, ?_⟩
  cases x with
  | int i =>
    have := h.2 i rfl
    omega
  | _ => rfl
theorem good_fit {H : Hp} {s : Mst} {c sd : Addr} {l : List (Int × Int)} (hM : MadeS K H s c sd l) : ∀ j v, (standV s c sd)[j]? = some v → fitAt K H j v true := by
  obtain ⟨f0, f1, f2, f3, f4, f5, f6, f7, f8, f9, f10, f11⟩ := fits_good hM
  intro j v hv
  match j, hv with
  | 0, hv => cases hv; exact f0
  | 1, hv => cases hv; exact f1
  | 2, hv => cases hv; exact f2
  | 3, hv => cases hv; exact f3
  | 4, hv => cases hv; exact f4
  | 5, hv => cases hv; exact f5
  | 6, hv => cases hv; exact f6
  | 7, hv => cases hv; exact f7
  | 8, hv => cases hv; exact f8
  | 9, hv => cases hv; exact f9
  | 10, hv => cases hv; exact f10
  | 11, hv => cases hv; exact f11
theorem bent_made {N : Addr → Prop} {CS : Addr} {H : Hp} {s : Mst} {c sd bt : Addr} {l : List (Int × Int)} {x1 x2 : V} {at_ to_ : Nat} {nm : Str} {Q : VK} {E : XK} (hM : MadeS K H s c sd l) (h1 : Bad N H at_ x1) (h2 : Bad N H to_ x2) (ha : at_ < 12) (ht : to_ < 12)
    (hb : H bt = some (.lst (((standV s c sd).set at_ x1).set to_ x2))) (hn : partN[min at_ to_]? = some nm) (q : ∀ t H', Same H H' → H' t = some (.tup [.str "BadMachine", .str nm]) → Q (.ref t) H') : sp_law_made K CS [.ref bt] H Q E := by
  have hl : (((standV s c sd).set at_ x1).set to_ x2).length = 12 := by rw [List.length_set, List.length_set]; rfl
  have F : ∀ j v, (((standV s c sd).set at_ x1).set to_ x2)[j]? = some v → fitAt K H j v (!(decide (j = at_) || decide (j = to_))) := fun j v hv => by
    have hj : j < 12 := by rw [← hl]; exact (List.getElem?_eq_some_iff.mp hv).1
    rw [List.getElem?_set] at hv
    by_cases e2 : to_ = j
    · subst e2
      rw [if_pos rfl, if_pos (by rw [List.length_set]; exact hj)] at hv
      cases hv
      rw [decide_eq_true (rfl : to_ = to_), Bool.or_true]
      exact bad_fit h2 ht
    · rw [if_neg e2, List.getElem?_set] at hv
      by_cases e1 : at_ = j
      · subst e1
        rw [if_pos rfl, if_pos (show at_ < (standV s c sd).length from hj)] at hv
        cases hv
        rw [decide_eq_true (rfl : at_ = at_), Bool.true_or]
        exact bad_fit h1 ha
      · rw [if_neg e1] at hv
        rw [decide_eq_false (fun z => e1 z.symm), decide_eq_false (fun z => e2 z.symm)]
        exact good_fit hM j v hv
  generalize (((standV s c sd).set at_ x1).set to_ x2) = ys at hl F hb
  match ys, hl with
  | [y0, y1, y2, y3, y4, y5, y6, y7, y8, y9, y10, y11], _ =>
  refine ⟨bt, y0, y1, y2, y3, y4, y5, y6, y7, y8, y9, y10, y11, _, _, _, _, _, _, _, _, _, _, _, _, rfl, hb, ⟨F 0 y0 rfl, F 1 y1 rfl, F 2 y2 rfl, F 3 y3 rfl, F 4 y4 rfl, F 5 y5 rfl, F 6 y6 rfl, F 7 y7 rfl, F 8 y8 rfl, F 9 y9 rfl, F 10 y10 rfl, F 11 y11 rfl⟩, .inr ⟨nm, ⟨min at_ to_, by omega, hn, ?_, fun j hj => ?_⟩, q⟩⟩
  · show ((List.range 12).map fun j => !(decide (j = at_) || decide (j = to_)))[min at_ to_]? = some false
    rw [List.getElem?_map, List.getElem?_range (by omega)]
    show some (!(decide (min at_ to_ = at_) || decide (min at_ to_ = to_))) = some false
    rcases (show min at_ to_ = at_ ∨ min at_ to_ = to_ by omega) with z | z
    · rw [decide_eq_true z, Bool.true_or]; rfl
    · rw [decide_eq_true z, Bool.or_true]; rfl
  · show ((List.range 12).map fun j => !(decide (j = at_) || decide (j = to_)))[j]? = some true
    rw [List.getElem?_map, List.getElem?_range (by omega)]
    show some (!(decide (j = at_) || decide (j = to_))) = some true
    rw [decide_eq_false (by omega : ¬ j = at_), decide_eq_false (by omega : ¬ j = to_)]
    rfl
def sp_law_stands_right (K : PySem.W.Frag) : Sp := fun vs H Q _ => ∃ (w c0 : Addr) (n : Nat), vs = [.ref w] ∧ Wh H w c0 n ∧ n < 700000 ∧ ∀ H', Wh H' w c0 (n + 100) → Q (.bl true) H'
theorem ok_law_stands_right : FnG P w K mg base CX0 8 T.f_law_stands_right T.fd_law_stands_right ["shelf"] (sp_law_stands_right K) := by
  refine okG T.F_law_stands_right sc_law_stands_right (fun vs H Q E h => ?_) (fun cdv A outer s H vs Q E hg hr h => ?_)
  · obtain ⟨w, c0, n, rfl, _⟩ := h
    rfl
  · obtain ⟨w, c0, n, rfl, wh, hn, q⟩ := h
    refine ⟨_, (pss_cons (ps_set (i := 1) sc_law_stands_right.nd rfl (.inl rfl) (pe_lst (pa_cons pe_str (pa_cons pe_str (pa_cons pe_str (pa_cons pe_str (pa_cons pe_str (pa_cons pe_str (pa_cons pe_str (pa_cons pe_str (pa_cons pe_str (pa_cons pe_str (pa_cons pe_str (pa_cons pe_str pa_nil))))))))))))))
    (pss_cons (ps_set (i := 2) sc_law_stands_right.nd rfl (.inl rfl) (pe_call (ok_law_parts T) (hr.mono (by decide)) (by rfl) T.g_law_parts T.F_law_parts.kp T.b_law_parts .nil pass0 (pa_cons (pv 0) pa_nil)))
    (pss_cons (ps_set (i := 4) sc_law_stands_right.nd rfl (.inl rfl) (pe_op op_cat (pe_slice sl_list (pv 2) po_none (po_some pe_int)) (pe_lst (pa_cons (pe_callTy call_tuple_of (by rfl) T.m_tuple (by decide +kernel) (pa_cons (pe_lc (own := [("pair", 3)]) rfl sc_law_stands_right.nd (pi_seq (pe_ix ix_list (pv 2) pe_int (fun _ _ => rfl))) (blkOk_by (own := [("pair", 3)]) (N := ["shelf", "names", "parts", "pair", "due", "before", "stand", "known", "place", "at", "to", "bent", "other"]) (sc := defScope s_law_stands_right) (by decide +kernel)) (fun _ _ _ _ _ => (pg_name (i := 3) sc_law_stands_right.nd rfl (.inl rfl))) (fun _ _ _ _ _ => pts_nil) (fun _ _ _ _ _ => (pe_callTy (inK_call_tuple_of (K := K) rfl) (by rfl) T.m_tuple (by decide +kernel) (pa_cons (pv 3) pa_nil)))) pa_nil)) (pa_cons (pe_ix ix_list (pv 2) pe_int (fun _ _ => rfl)) (pa_cons (pe_callTy call_tuple_of (by rfl) T.m_tuple (by decide +kernel) (pa_cons (pe_ix ix_list (pv 2) pe_int (fun _ _ => rfl)) pa_nil)) (pa_cons (pe_ix ix_list (pv 2) pe_int (fun _ _ => rfl)) pa_nil)))))))
    (pss_cons (ps_par (i := 5) (j := 6) rfl sc_law_stands_right.nd rfl rfl (by decide) rfl rfl (pa_cons (pe_callB (call_reprD hg hr.units) (by rfl) T.m_repr (by decide +kernel) (pa_cons (pv 2) pa_nil)) (pa_cons (pe_call (ok_law_made T) (hr.mono (by decide)) (by rfl) T.g_law_made T.F_law_made.kp T.b_law_made .nil pass0 (pa_cons (pv 2) pa_nil)) pa_nil)) (by rfl))
    (pss_cons (ps_if (PW.pt (pw_or (pt_cmpR op_ne (pe_callB (call_reprD hg hr.units) (by rfl) T.m_repr (by decide +kernel) (pa_cons (pe_call (ok_law_seen T) (hr.mono (by decide)) (by rfl) T.g_law_seen T.F_law_seen.kp T.b_law_seen .nil pass0 (pa_cons (pv 6) pa_nil)) pa_nil)) (pe_callB (call_reprD hg hr.units) (by rfl) T.m_repr (by decide +kernel) (pa_cons (pv 4) pa_nil)) (nomark _)) (pw_or (pt_cmpR (op_neI (ok_Stand_eq T) T.b_Stand_eq (hr.mono (by decide)) T.me_Stand_eq.at_ T.me_Stand_eq.fn T.ob_Stand T.ne_Stand) (pv 6) (pe_call (ok_law_named T) (hr.mono (by decide)) (by rfl) T.g_law_named T.F_law_named.kp T.b_law_named .nil pass0 (pa_cons (pv 2) pa_nil)) (nomark _)) (pw_or (pt_cmpR op_ne (pe_callB (call_reprD hg hr.units) (by rfl) T.m_repr (by decide +kernel) (pa_cons (pe_call (ok_law_seen T) (hr.mono (by decide)) (by rfl) T.g_law_seen T.F_law_seen.kp T.b_law_seen .nil pass0 (pa_cons (pe_call (ok_law_named T) (hr.mono (by decide)) (by rfl) T.g_law_named T.F_law_named.kp T.b_law_named .nil pass0 (pa_cons (pv 2) pa_nil)) pa_nil)) pa_nil)) (pe_callB (call_reprD hg hr.units) (by rfl) T.m_repr (by decide +kernel) (pa_cons (pv 4) pa_nil)) (nomark _)) (pw_or1 (pt_cmpR op_ne (pe_callB (call_reprD hg hr.units) (by rfl) T.m_repr (by decide +kernel) (pa_cons (pv 2) pa_nil)) (pv 5) (nomark _)))))))
      (pss_one (ps_ret pe_bl))
      pss_nil)
    (pss_cons (ps_set (i := 7) sc_law_stands_right.nd rfl (.inl rfl) (pe_callTy (call_dictP rfl) (by rfl) T.m_dict (by decide +kernel) (pa_cons (pe_lc (own := [("pair", 3)]) rfl sc_law_stands_right.nd (pi_seq (pe_ix ix_list (pv 2) pe_int (fun _ _ => rfl))) (blkOk_by (own := [("pair", 3)]) (N := ["shelf", "names", "parts", "pair", "due", "before", "stand", "known", "place", "at", "to", "bent", "other"]) (sc := defScope s_law_stands_right) (by decide +kernel)) (fun _ _ _ _ _ => (pg_name (i := 3) sc_law_stands_right.nd rfl (.inl rfl))) (fun _ _ _ _ _ => pts_nil) (fun _ _ _ _ _ => (pe_callTy (inK_call_tuple_of (K := K) rfl) (by rfl) T.m_tuple (by decide +kernel) (pa_cons (pv 3) pa_nil)))) pa_nil)))
    (pss_cons (ps_for PassesOwn.never rfl (pi_list (pe_op op_cat (pe_callTy (call_listD rfl) (by rfl) T.m_list (by decide +kernel) (pa_cons (pv 7) pa_nil)) (pe_lst (pa_cons (pe_op op_sub (pe_call (ok_law_deal T) (hr.mono (by decide)) (by rfl) T.g_law_deal T.F_law_deal.kp T.b_law_deal .nil pass0 (pa_cons (pv 0) (pa_cons pe_int pa_nil))) pe_int) (pa_cons (pe_op op_pow pe_int pe_int) pa_nil))))) (pg_name (i := 8) sc_law_stands_right.nd rfl (.inl rfl))
      (pss_one (ps_if (pt_cmpR op_ne (pe_callB (call_reprD hg hr.units) (by rfl) T.m_repr (by decide +kernel) (pa_cons (pe_lst (pa_cons (pe_meth (pv 6) T.cl_Stand T.me_Stand_cell (ok_Stand_cell T) (hr.mono (by decide)) T.b_Stand_cell .nil passF (pa_cons (pv 8) pa_nil)) (pa_cons (pe_methK0 (pv 6) T.cl_Stand T.me_Stand_cell (ok_Stand_cell T) (hr.mono (by decide)) (kb_Stand_cell_0_place T) passF (pk_cons (pv 8) pk_nil)) pa_nil))) pa_nil)) (pe_callB (call_reprD hg hr.units) (by rfl) T.m_repr (by decide +kernel) (pa_cons (pe_op op_rep (pe_lst (pa_cons (pe_dget2 (Nat.lt_of_le_of_lt (Nat.add_le_add_left (show 1 ≤ 64 by decide) _) hr.units) (pv 7) (pv 8) pe_int ⟨by rfl, by rfl, by rfl, by rfl⟩) pa_nil)) pe_int) pa_nil)) (nomark _))
        (pss_one (ps_ret pe_bl))
        pss_nil)))
    (pss_cons (ps_set (i := 9) sc_law_stands_right.nd rfl (.inl rfl) (pe_call (ok_law_deal T) (hr.mono (by decide)) (by rfl) T.g_law_deal T.F_law_deal.kp T.b_law_deal .nil pass0 (pa_cons (pv 0) (pa_cons pe_int pa_nil))))
    (pss_cons (ps_set (i := 10) sc_law_stands_right.nd rfl (.inl rfl) (pe_call (ok_law_pick T) (hr.mono (by decide)) (by rfl) T.g_law_pick T.F_law_pick.kp T.b_law_pick .nil pass0 (pa_cons (pv 0) (pa_cons (pe_lst (pa_cons (pv 9) (pa_cons (pe_call (ok_law_deal T) (hr.mono (by decide)) (by rfl) T.g_law_deal T.F_law_deal.kp T.b_law_deal .nil pass0 (pa_cons (pv 0) (pa_cons pe_int pa_nil))) pa_nil))) pa_nil))))
    (pss_cons (ps_set (i := 11) sc_law_stands_right.nd rfl (.inl rfl) (pe_callTy call_list_of (by rfl) T.m_list (by decide +kernel) (pa_cons (pv 2) pa_nil)))
    (pss_cons (ps_asg (pe_tup (pa_cons (pe_call (ok_law_spoilt T) (hr.mono (by decide)) (by rfl) T.g_law_spoilt T.F_law_spoilt.kp T.b_law_spoilt .nil pass0 (pa_cons (pv 0) (pa_cons (pv 9) pa_nil))) (pa_cons (pe_call (ok_law_spoilt T) (hr.mono (by decide)) (by rfl) T.g_law_spoilt T.F_law_spoilt.kp T.b_law_spoilt .nil pass0 (pa_cons (pv 0) (pa_cons (pv 10) pa_nil))) pa_nil))) (pg_tup rfl (pgs_cons (pg_sub (pv 11) (pv 9) set_list) (pgs_cons (pg_sub (pv 11) (pv 10) set_list) pgs_nil))))
    (pss_cons (ps_if (pt_cmpR (op_neD hr.units) (pe_call (ok_law_made T) (hr.mono (by decide)) (by rfl) T.g_law_made T.F_law_made.kp T.b_law_made .nil pass0 (pa_cons (pv 11) pa_nil)) (pe_tup (pa_cons pe_str (pa_cons (pe_ix ix_list (pv 1) (pe_callB (call_min2 rfl) (by rfl) T.m_min (by decide +kernel) (pa_cons (pv 9) (pa_cons (pv 10) pa_nil))) (fun _ _ => rfl)) pa_nil))) (nomark _))
      (pss_one (ps_ret pe_bl))
      pss_nil)
    (pss_cons (ps_for PassesOwn.never rfl (pi_range1 (by rfl) T.m_range (pa_cons pe_int pa_nil)) (pg_name (i := 8) sc_law_stands_right.nd rfl (.inl rfl))
      (pss_cons (ps_set (i := 12) sc_law_stands_right.nd rfl (.inl rfl) (pe_callTy call_list_of (by rfl) T.m_list (by decide +kernel) (pa_cons (pv 2) pa_nil)))
      (pss_cons (ps_asg (pe_call (ok_law_changed T) (hr.mono (by decide)) (by rfl) T.g_law_changed T.F_law_changed.kp T.b_law_changed .nil pass0 (pa_cons (pe_ix ix_list (pv 2) (pv 8) (fun _ _ => rfl)) (pa_cons (pv 8) pa_nil))) (pg_sub (pv 12) (pv 8) set_list))
      (pss_one (ps_if (PW.pt (pw_or (pt_cmpR (op_eqI (ok_Stand_eq T) T.b_Stand_eq (hr.mono (by decide)) T.me_Stand_eq.at_ T.me_Stand_eq.fn) (pe_call (ok_law_made T) (hr.mono (by decide)) (by rfl) T.g_law_made T.F_law_made.kp T.b_law_made .nil pass0 (pa_cons (pv 12) pa_nil)) (pv 6) (nomark _)) (pw_or (pt_cmpR (op_eqI (ok_Stand_eq T) T.b_Stand_eq (hr.mono (by decide)) T.me_Stand_eq.at_ T.me_Stand_eq.fn) (pv 6) (pe_call (ok_law_made T) (hr.mono (by decide)) (by rfl) T.g_law_made T.F_law_made.kp T.b_law_made .nil pass0 (pa_cons (pv 12) pa_nil)) (nomark _)) (pw_or1 (pt_not (pt_cmpR (op_eqI (ok_Stand_eq T) T.b_Stand_eq (hr.mono (by decide)) T.me_Stand_eq.at_ T.me_Stand_eq.fn) (pe_call (ok_law_made T) (hr.mono (by decide)) (by rfl) T.g_law_made T.F_law_made.kp T.b_law_made .nil pass0 (pa_cons (pv 12) pa_nil)) (pe_call (ok_law_made T) (hr.mono (by decide)) (by rfl) T.g_law_made T.F_law_made.kp T.b_law_made .nil pass0 (pa_cons (pv 12) pa_nil)) (nomark _)))))))
        (pss_one (ps_ret pe_bl))
        pss_nil)))))
    (pss_one (ps_ret (pe_and (pe_cmpR (op_neI (ok_Stand_eq T) T.b_Stand_eq (hr.mono (by decide)) T.me_Stand_eq.at_ T.me_Stand_eq.fn T.ob_Stand T.ne_Stand) (pv 6) (pv 4) (nomark _)) (pe_one (pe_cmpR (op_neII (ok_Stand_eq T) T.b_Stand_eq (hr.mono (by decide)) T.me_Stand_eq.at_ T.me_Stand_eq.fn T.ob_Stand T.ne_Stand) (pv 6) pe_int (nomark _))))))))))))))))))), ?_⟩
    refine go_seq (go_asg (go_lst ?_))
    refine go_cons (go_c (go_cons (go_c (go_cons (go_c (go_cons (go_c (go_cons (go_c (go_cons (go_c (go_cons (go_c (go_cons (go_c (go_cons (go_c (go_cons (go_c (go_cons (go_c (go_cons (go_c (go_nil ⟨show 12 ≤ sizeLine by decide, fun nl nnl => ?_⟩))))))))))))))))))))))))
    have hnl := upd_same (H := H) (a := nl) (o := HO.lst [V.str "block", V.str "room", V.str "tick", V.str "flag", V.str "test", V.str "mode", V.str "first", V.str "second", V.str "cells", V.str "heard", V.str "said", V.str "is_done"])
    have w1 := wh.same (same_new (o := HO.lst [V.str "block", V.str "room", V.str "tick", V.str "flag", V.str "test", V.str "mode", V.str "first", V.str "second", V.str "cells", V.str "heard", V.str "said", V.str "is_done"]) nnl)
    have nw := wh.ne nnl
    generalize upd H nl (.lst [V.str "block", V.str "room", V.str "tick", V.str "flag", V.str "test", V.str "mode", V.str "first", V.str "second", V.str "cells", V.str "heard", V.str "said", V.str "is_done"]) = H1 at hnl w1 ⊢
    clear wh nnl
    dsimp only [gName]
    refine go_seq (go_asg ?_)
    refine ⟨_, rfl, w, c0, n, rfl, w1, by omega, fun P cc sd s l kc ks qs H2 hP m2 w2 => ?_⟩
    have hnl := m2 _ _ nw hnl
    clear m2 w1
    dsimp only [gName]
    refine go_seq (go_asg (go_op ?_))
    refine ⟨_, rfl, 8, rfl, P, _, rfl, .inl (.inl hP.at_), fun p1 n1 => ?_⟩
    rw [show cutV (standV s cc sd) none (some 8) = [.int s.block, .int s.room, .bl s.tick, .bl s.flag, .bl s.test, .int s.mode, .int s.first, .int s.second] from cut_to _ 8]
    have e1 := same_new (o := HO.lst [V.int s.block, V.int s.room, V.bl s.tick, V.bl s.flag, V.bl s.test, V.int s.mode, V.int s.first, V.int s.second]) n1
    have hp1 := upd_same (H := H2) (a := p1) (o := HO.lst [V.int s.block, V.int s.room, V.bl s.tick, V.bl s.flag, V.bl s.test, V.int s.mode, V.int s.first, V.int s.second])
    have hP3 := hP.mv (Mv.of e1)
    have hM3 := hP3.made (K := K)
    generalize upd H2 p1 (.lst [V.int s.block, V.int s.room, V.bl s.tick, V.bl s.flag, V.bl s.test, V.int s.mode, V.int s.first, V.int s.second]) = H3 at e1 hp1 hP3 hM3 ⊢
    obtain ⟨ps, c1, c2⟩ := hM3.cat
    have lc2 : ps.length = l.length := c2.length
    have l3 := hP.len
    refine go_lst (go_cons (go_cb (go_cons (lc_seqix (a := cc) (TupsP K H3 l) (fun R r => ⟨_, rfl, P, _, 8, _, rfl, rfl, .inl (.inl hP3.at_), rfl, r⟩) c1 (fun D nD => TupsP.new nD) (fun D i Hc nD h => h.choose_spec.2.2) (fun D i x Hc nD hx h => ?_) (fun D Hc nD h => ?_)))))
    · obtain ⟨q0, p0, rfl, k1, k2⟩ := pq_get c2 hx
      have k3 := Same.q h.choose_spec.2.2 k2
      refine ⟨rfl, ?_⟩
      refine iteT (B := True) ?_
      rcases k3 with k3 | k3
      · exact ⟨_, rfl, q0, _, rfl, .inl ⟨k3, fun t nt => h.app nD k1 (same_new nt) (.inl (.inl upd_same)) (by omega)⟩⟩
      · exact ⟨_, rfl, q0, _, rfl, .inr ⟨k3, h.app nD k1 (Same.refl _) k3 (by omega)⟩⟩
    obtain ⟨us, g1, g2, g3⟩ := h
    rw [List.length_map, lc2, List.take_length] at g2
    refine go_nil ⟨D, _, rfl, .inl ⟨.inl (.inl g1), fun t1 nt1 => ?_⟩⟩
    have st := same_new (o := HO.tup (us.map V.ref)) nt1
    have hT : PairsT K (upd Hc t1 (.tup (us.map V.ref))) t1 l := ⟨us, .inl (.inl upd_same), Paired.mapP g2 fun _ _ z => Same.t st z⟩
    have e4 := g3.trans st
    generalize upd Hc t1 (.tup (us.map V.ref)) = H4 at hT st e4 ⊢
    clear g1 g2 g3 st nD nt1 c1 c2 lc2
    have hP4 := hP3.mv (Mv.of e4)
    have hp4 := e4 _ _ hp1
    refine go_cons ⟨_, rfl, P, _, 9, _, rfl, rfl, .inl (.inl hP4.at_), rfl, ?_⟩
    refine go_cons (midE (fun v H' => ∃ u1, v = .ref u1 ∧ SqT K H' u1 (s.said.map V.int) ∧ Same H4 H') (fun Q1 q1 => ?_) (fun v H5 h => ?_))
    · refine go_cb (go_cons ⟨_, rfl, P, _, 10, _, rfl, rfl, .inl (.inl hP4.at_), rfl, go_nil ?_⟩)
      rcases seqO_q (K := K) hP4.sat with hs | hs
      · exact ⟨sd, _, rfl, .inl ⟨hs, fun u nu => q1 _ _ ⟨u, rfl, .inl (.inl upd_same), same_new nu⟩⟩⟩
      · exact ⟨sd, _, rfl, .inr ⟨hs, q1 _ _ ⟨sd, rfl, hs, Same.refl _⟩⟩⟩
    obtain ⟨u1, rfl, hu1, e5⟩ := h
    have hP5 := hP4.mv (Mv.of e5)
    refine go_cons ⟨_, rfl, P, _, 11, _, rfl, rfl, .inl (.inl hP5.at_), rfl, ?_⟩
    refine go_nil ⟨show 4 ≤ sizeLine by decide, fun r nr => ?_⟩
    have e6 := same_new (o := HO.lst [V.ref t1, V.int (s.heard : Nat), V.ref u1, V.bl s.isd]) nr
    refine ⟨p1, r, _, _, rfl, rfl, e6 _ _ (e5 _ _ hp4), upd_same, show 12 ≤ sizeLine by decide, fun du ndu => ?_⟩
    have duw : du ≠ w := (w2.same (e1.trans (e4.trans (e5.trans e6)))).ne ndu
    have e7 := (e5.trans e6).trans (same_new (o := HO.lst ([V.int s.block, V.int s.room, V.bl s.tick, V.bl s.flag, V.bl s.test, V.int s.mode, V.int s.first, V.int s.second] ++ [V.ref t1, V.int (s.heard : Nat), V.ref u1, V.bl s.isd])) ndu)
    have hdu := upd_same (H := upd H5 r (.lst [V.ref t1, V.int (s.heard : Nat), V.ref u1, V.bl s.isd])) (a := du) (o := HO.lst ([V.int s.block, V.int s.room, V.bl s.tick, V.bl s.flag, V.bl s.test, V.int s.mode, V.int s.first, V.int s.second] ++ [V.ref t1, V.int (s.heard : Nat), V.ref u1, V.bl s.isd]))
    have hT7 := hT.same e7
    have hu7 := Same.t (e6.trans (same_new (o := HO.lst ([V.int s.block, V.int s.room, V.bl s.tick, V.bl s.flag, V.bl s.test, V.int s.mode, V.int s.first, V.int s.second] ++ [V.ref t1, V.int (s.heard : Nat), V.ref u1, V.bl s.isd])) ndu)) hu1
    have eA := e1.trans (e4.trans e7)
    generalize upd (upd H5 r (.lst [V.ref t1, V.int (s.heard : Nat), V.ref u1, V.bl s.isd])) du (.lst ([V.int s.block, V.int s.room, V.bl s.tick, V.bl s.flag, V.bl s.test, V.int s.mode, V.int s.first, V.int s.second] ++ [V.ref t1, V.int (s.heard : Nat), V.ref u1, V.bl s.isd])) = H7 at e7 hdu hT7 hu7 eA ⊢
    have hP7 := hP.mv (Mv.of eA)
    have hnl7 := eA _ _ hnl
    have w7 := w2.same eA
    clear e1 hp1 hP3 hM3 e4 hP4 hp4 hu1 e5 hP5 nr e6 ndu e7 eA hnl hP hT w2 n1
    have hdu : H7 du = some (.lst (standL s t1 u1)) := hdu
    dsimp only [gName]
    refine go_seq (go_par2 (go_cons (go_cb (go_cons (go_var rfl (go_nil ?_))))))
    have sh := shB_parts hP7
    refine ⟨P, _, rfl, hP7.dp, sh.sh, sh.nd, Nat.le_trans sh.dp (by decide), sh.len (by decide), ?_⟩
    obtain ⟨before, hbef⟩ : ∃ z : Str, z = (partsD s l kc ks qs).shown := ⟨_, rfl⟩
    rw [← hbef]
    refine go_cons ?_
    refine ⟨_, rfl, P, _, _, _, _, _, _, _, _, _, _, _, _, true, true, true, true, true, true, true, true, true, true, true, true, rfl, hP7.at_, fits_good hP7.made, .inl ⟨cc, sd, s, l, rfl, by simp, hP7.made, fun sp dx t u H8 e8 hS => ?_⟩⟩
    refine go_nil ⟨_, _, rfl, ?_⟩
    dsimp only
    have hP8 := hP7.mv (Mv.of e8)
    have hdu8 := e8 _ _ hdu
    have hT8 := hT7.same e8
    have hu8 := Same.t e8 hu7
    have hnl8 := e8 _ _ hnl7
    have w8 := w7.same e8
    clear hP7 hdu hT7 hu7 hnl7 w7 e8 sh
    -- the stand tells what it was made of
    refine go_seq (go_if (go_or1 (go_test (go_op (go_cb (go_cons ?_))))))
    refine ⟨_, rfl, sp, s, l, dx, t, u, rfl, hS, fun g1 H9 e9 hg1 => go_nil ?_⟩
    have hS9 := hS.same e9
    have bd := hP8.bd
    have s3 := hP8.sln
    refine repr_stand hg1 hS9.cat hS9.sat bd (by decide) (by decide) hS9.isC (by omega) (by omega) ?_
    refine go_cb (go_cons (go_var rfl (go_nil ?_)))
    refine repr_stand (e9 _ _ hdu8) (hT8.same e9) (Same.t e9 hu8) bd (by decide) (by decide) hS9.isC (by omega) (by omega) ?_
    refine ⟨rfl, false, by rw [decide_eq_true rfl]; rfl, iteF (A := _) ?_⟩
    have hP9 := hP8.mv (Mv.of e9)
    refine go_or1 (go_test (go_op (go_var rfl ?_)))
    refine ⟨_, rfl, P, cc, sd, s, l, rfl, hP9.at_, hP9.made, fun s2 dx2 t2 u2 H10 e10 hS2 => ?_⟩
    have hS10 := hS9.same e10
    refine ⟨sp, dx, _, rfl, hS10.at_, ⟨s2, rfl, .inl ⟨_, _, hS2.at_⟩⟩, sp, .ref s2, s, l, dx, t, u, _, rfl, hS10, .inl ⟨s2, s, l, dx2, t2, u2, rfl, hS2, rfl⟩, fun H11 e11 => ⟨_, rfl, ?_⟩⟩
    rw [eqv_self]
    refine ⟨false, rfl, iteF (A := _) ?_⟩
    have hP11 := (hP9.mv (Mv.of e10)).mv (Mv.of e11)
    refine go_or1 (go_test (go_op (go_cb (go_cons ?_))))
    refine go_cons ?_
    refine ⟨_, rfl, P, cc, sd, s, l, rfl, hP11.at_, hP11.made, fun s3a dx3 t3 u3 H12 e12 hS3 => ?_⟩
    refine go_nil ⟨s3a, s, l, dx3, t3, u3, rfl, hS3, fun g2 H13 e13 hg2 => go_nil ?_⟩
    have hS13 := hS3.same e13
    have e9' := e9.trans (e10.trans (e11.trans (e12.trans e13)))
    refine repr_stand hg2 hS13.cat hS13.sat bd (by decide) (by decide) hS13.isC (by omega) (by omega) ?_
    refine go_cb (go_cons (go_var rfl (go_nil ?_)))
    refine repr_stand (e9' _ _ hdu8) (hT8.same e9') (Same.t e9' hu8) bd (by decide) (by decide) hS13.isC (by omega) (by omega) ?_
    refine ⟨rfl, false, by rw [decide_eq_true rfl]; rfl, iteF (A := _) ?_⟩
    have hPa := hP8.mv (Mv.of e9')
    have sh := shB_parts hPa
    refine go_test (go_op (go_cb (go_cons (go_var rfl (go_nil ?_)))))
    refine ⟨P, _, rfl, hPa.dp, sh.sh, sh.nd, Nat.le_trans sh.dp (by decide), sh.len (by decide), ?_⟩
    refine go_var rfl ⟨rfl, false, by rw [hbef, decide_eq_true rfl]; rfl, iteF (A := _) ?_⟩
    dsimp only [tNext]
    have hSa := hS.same e9'
    have hnla := e9' _ _ hnl8
    have hdua := e9' _ _ hdu8
    have wa := w8.same e9'
    clear hS hdu8 hT8 hu8 hnl8 w8 hS9 hP9 hS10 hS2 hP11 hS3 hg1 hg2 hS13 e9' e9 e10 e11 e12 e13 sh hP8 hbef
    -- what stands at its places
    obtain ⟨ps, c1, c2⟩ := (hPa.made (K := K)).cat
    have lc2 : ps.length = l.length := c2.length
    refine go_seq (go_asg (go_cb (go_cons (lc_seqix (a := cc) (TupsP K H13 l) (fun R r => ⟨_, rfl, P, _, 8, _, rfl, rfl, .inl (.inl hPa.at_), rfl, r⟩) c1 (fun D nD => TupsP.new nD) (fun D i Hc nD h => h.choose_spec.2.2) (fun D i x Hc nD hx h => ?_) (fun D Hc nD h => ?_)))))
    · obtain ⟨q0, p0, rfl, k1, k2⟩ := pq_get c2 hx
      have k3 := Same.q h.choose_spec.2.2 k2
      refine ⟨rfl, ?_⟩
      refine iteT (B := True) ?_
      rcases k3 with k3 | k3
      · exact ⟨_, rfl, q0, _, rfl, .inl ⟨k3, fun t nt => h.app nD k1 (same_new nt) (.inl (.inl upd_same)) (by omega)⟩⟩
      · exact ⟨_, rfl, q0, _, rfl, .inr ⟨k3, h.app nD k1 (Same.refl _) k3 (by omega)⟩⟩
    obtain ⟨us, g1, g2, g3⟩ := h
    rw [List.length_map, lc2, List.take_length] at g2
    refine go_nil ⟨D, us, kvI l, rfl, .inl (.inl g1), kv_pairs g2, fun kd nkd => ?_⟩
    rw [merge_kvI hPa.isC.up]
    have eK := g3.trans (same_new (o := HO.dK (kvI l)) nkd)
    have hkd := upd_same (H := Hc) (a := kd) (o := HO.dK (kvI l))
    have hPb := hPa.mv (Mv.of eK)
    have hSb := hSa.same eK
    have hnlb := eK _ _ hnla
    have hdub := eK _ _ hdua
    have wb := wa.same eK
    have kdw := (wa.same g3).ne nkd
    generalize upd Hc kd (.dK (kvI l)) = Hb at hkd hPb hSb hnlb hdub wb ⊢
    clear g1 g2 g3 nD nkd eK hPa hSa hnla hdua wa c1 c2 lc2
    dsimp only [gName]
    refine go_seq ?_
    generalize hDd : Ends.mk _ _ _ _ = D0
    dsimp only [tFor, iList]
    refine go_op (go_cb (go_cons (go_var rfl (go_nil ?_))))
    refine ⟨kd, kvI l, rfl, .inl hkd, fun p1 np1 => ?_⟩
    have e1 := same_new (o := HO.lst ((kvI l).map fun kv => kV kv.1)) np1
    have hp1 := upd_same (H := Hb) (a := p1) (o := HO.lst ((kvI l).map fun kv => kV kv.1))
    have w1 := wb.same e1
    have pw1 := wb.ne np1
    refine go_lst (go_cons (go_op ?_))
    refine ⟨_, rfl, w, c0, 30, _, rfl, by decide, by decide, w1, by omega, fun r1 Hr a0 a1 mr wr => go_c ⟨_, _, rfl, rfl, ?_⟩⟩
    refine go_cons (go_op (go_c (go_c ⟨_, _, rfl, rfl, ⟨by decide, by decide, by decide⟩, ?_⟩)))
    refine go_nil ⟨sz2, fun p2 np2 => ?_⟩
    dsimp only
    have e2 := same_new (o := HO.lst [V.int (r1 - 15), V.int ((10 : Int) ^ (30 : Int).toNat)]) np2
    refine ⟨p1, p2, _, _, rfl, rfl, e2 _ _ (mr _ _ pw1 hp1), upd_same, ?_, fun p3 np3 => ?_⟩
    · rw [List.length_map, kvI_len]
      exact Nat.le_trans (show l.length + 2 ≤ 5 by omega) (by decide)
    have e3 := e2.trans (same_new (o := HO.lst (((kvI l).map fun kv => kV kv.1) ++ [V.int (r1 - 15), V.int ((10 : Int) ^ (30 : Int).toNat)])) np3)
    have mC := ((Mv.of e1).trans mr).trans (Mv.of e3)
    have hp3 := upd_same (H := upd Hr p2 (.lst [V.int (r1 - 15), V.int ((10 : Int) ^ (30 : Int).toNat)])) (a := p3) (o := HO.lst (((kvI l).map fun kv => kV kv.1) ++ [V.int (r1 - 15), V.int ((10 : Int) ^ (30 : Int).toNat)]))
    obtain ⟨zs, hzs⟩ : ∃ zs : List Int, ((kvI l).map fun kv => kV kv.1) ++ [V.int (r1 - 15), V.int ((10 : Int) ^ (30 : Int).toNat)] = zs.map V.int := ⟨l.map (·.1) ++ [r1 - 15, (10 : Int) ^ (30 : Int).toNat], by
      unfold kvI
      rw [List.map_append, List.map_map, List.map_map]
      rfl⟩
    rw [hzs] at hp3 e3 mC ⊢
    have wC := wr.same e3
    generalize upd (upd Hr p2 (.lst [V.int (r1 - 15), V.int ((10 : Int) ^ (30 : Int).toNat)])) p3 (.lst (zs.map V.int)) = H3 at mC wC hp3 ⊢
    have hPc := hPb.mv mC
    have hSc := hSb.mvw wb mC
    have hnlc := mC _ _ nw hnlb
    have hkdc := mC _ _ kdw hkd
    clear e1 hp1 w1 np1 mr wr e2 np2 np3 e3 hPb hSb hnlb hkd
    refine ⟨p3, rfl, ⟨_, .inl (.inl hp3)⟩, for_list (xs := zs.map V.int) (fun i σ H' => Same H3 H' ∧ ∃ (o3 o8 : Option V), σ = [some (.ref w), some (.ref nl), some (.ref P), o3, some (.ref du), some (.str before), some (.ref sp), some (.ref kd), o8, none, none, none, none]) ⟨Same.refl _, _, _, rfl⟩ (fun i σ' H' _ h => h.1.seq (.inl (.inl hp3))) (fun i v σ' Hd hv h => ?_) (fun σ' Hd h => ?_)⟩
    · obtain ⟨eD, o3, o8, rfl⟩ := h
      obtain ⟨k, hk, rfl⟩ := map_at hv
      have hSd := hSc.same eD
      have hkdd := eD _ _ hkdc
      dsimp only [gName]
      refine go_if (go_test (go_op (go_cb (go_cons (go_lst (go_cons ?_))))))
      refine ⟨_, rfl, sp, dx, _, rfl, hSd.at_, rfl, _, rfl, ?_⟩
      refine ⟨sp, .int k, s, l, dx, t, u, rfl, hSd, hasInt_int _, .inr ⟨k, rfl, ?_⟩⟩
      refine go_cons ?_
      refine ⟨_, rfl, sp, dx, _, rfl, hSd.at_, rfl, _, rfl, ?_⟩
      refine ⟨sp, .int k, s, l, dx, t, u, rfl, hSd, hasInt_int _, .inr ⟨k, rfl, ?_⟩⟩
      have hv1 : Bi 110 (cellOf l k) := by
        rw [← hPc.isC.fn]
        exact hPc.bd.cells k
      have sh2 : ShB 1 2 (.list [.int (cellOf l k), .int (cellOf l k)]) := (ShBA.cons (shB_int hv1 (by decide)) (ShBA.cons (shB_int hv1 (by decide)) ShBA.nil)).lst
      refine go_nil ⟨sz2, fun pl npl => go_nil ?_⟩
      have e1 := same_new (o := HO.lst [V.int (cellOf l k), V.int (cellOf l k)]) npl
      refine ⟨pl, _, rfl, .lst (.inl (.inl upd_same)) (.cons (.int _) (.cons (.int _) .nil)), sh2.sh, sh2.nd, Nat.le_trans sh2.dp (by decide), sh2.len (by decide), ?_⟩
      have hkde := e1 _ _ hkdd
      refine go_cb (go_cons (go_op (go_lst (go_cons ?_))))
      refine ⟨_, rfl, kd, rfl, .inl ⟨_, .inl hkde⟩, _, rfl, _, .inl ⟨kvI l, .inl k, .inl hkde, rfl, rfl⟩, ?_⟩
      rw [val_cell]
      refine go_nil ⟨sz1, fun q1 nq1 => ?_⟩
      have e2 := same_new (o := HO.lst [V.int (cellOf l k)]) nq1
      refine go_c ⟨q1, _, _, rfl, rfl, upd_same, by decide, by decide, show 1 * 2 ≤ sizeLine by decide, fun q2 nq2 => ?_⟩
      have e3 := same_new (o := HO.lst [V.int (cellOf l k), V.int (cellOf l k)]) nq2
      refine go_nil ⟨q2, .list [.int (cellOf l k), .int (cellOf l k)], rfl, .lst (.inl (.inl upd_same)) (.cons (.int _) (.cons (.int _) .nil)), sh2.sh, sh2.nd, Nat.le_trans sh2.dp (by decide), sh2.len (by decide), ?_⟩
      refine ⟨rfl, false, by rw [decide_eq_true rfl]; rfl, iteF (A := _) ?_⟩
      exact ⟨eD.trans (e1.trans (e2.trans e3)), _, _, rfl⟩
    obtain ⟨eD, o3, o8, rfl⟩ := h
    subst hDd
    dsimp only
    have hPd := hPc.mv (Mv.of eD)
    have hSd := hSc.same eD
    have hnld := eD _ _ hnlc
    have hdud := (mC.trans (Mv.of eD)) _ _ duw hdub
    have wd := wC.same eD
    clear hPc hSc hnlc hkdc wC hzs hp3 zs eD
    refine go_seq (go_asg ?_)
    refine ⟨_, rfl, w, c0, 12, _, rfl, by decide, by decide, wd, by omega, fun a1 He b0 b1 me we => ?_⟩
    obtain ⟨at_, rfl⟩ : ∃ z : Nat, a1 = z := ⟨a1.toNat, by omega⟩
    dsimp only [gName]
    refine go_seq (go_asg ?_)
    refine ⟨_, rfl, ?_⟩
    refine go_cons (go_lst (go_cons (go_var rfl (go_cons ?_))))
    refine ⟨_, rfl, w, c0, 12, _, rfl, by decide, by decide, we, by omega, fun a2 Hf b2 b3 mf wf => ?_⟩
    refine go_nil ⟨sz2, fun pp np => go_nil (pick_new np wf (by omega) (by simp) (show 2 ≤ 1000000 by decide) fun v Hg hv mg' wg => ?_)⟩
    obtain ⟨to_, rfl, hto⟩ : ∃ z : Nat, v = .int (z : Int) ∧ z < 12 := by
      simp only [List.mem_cons, List.not_mem_nil, or_false] at hv
      rcases hv with rfl | rfl
      · exact ⟨at_, rfl, by omega⟩
      · exact ⟨a2.toNat, by rw [Int.toNat_of_nonneg b2], by omega⟩
    have hat : at_ < 12 := by omega
    have mG := me.trans (mf.trans mg')
    have hPg := hPd.mv mG
    have hSg := hSd.mvw wd mG
    have hnlg := mG _ _ nw hnld
    have hdug := mG _ _ duw hdud
    clear hv np me mf mg' we wf hPd hnld b0 b1 b2 b3
    dsimp only [gName]
    refine go_seq (go_asg (go_cb (go_cons (go_var rfl (go_nil ⟨P, _, rfl, .inl (.inl (.inl hPg.at_)), fun bt nbt => ?_⟩)))))
    have e1 := same_new (o := HO.lst (standV s cc sd)) nbt
    have hbt := upd_same (H := Hg) (a := bt) (o := HO.lst (standV s cc sd))
    have btw := wg.ne nbt
    have wh := wg.same e1
    have hPh := hPg.mv (Mv.of e1)
    have hSh := hSg.same e1
    have hnlh := e1 _ _ hnlg
    have btP : bt ≠ P := fun e => by
      rw [e, hPg.at_] at nbt
      cases nbt
    generalize upd Hg bt (.lst (standV s cc sd)) = Hh at e1 hbt wh hPh hSh hnlh ⊢
    have ebt := e1
    clear e1
    dsimp only [gName]
    refine go_seq (go_asg (go_tup (go_cons ?_)))
    obtain ⟨N, hN⟩ : ∃ N : Addr → Prop, ∀ u, N u ↔ u = w ∨ u = bt := ⟨fun u => u = w ∨ u = bt, fun u => Iff.rfl⟩
    have nW : N w := (hN w).mpr (.inl rfl)
    refine ⟨_, rfl, _, rfl, w, c0, _, at_, bt, _, N, rfl, hat, wh, by omega, hbt, btw, hN, fun x1 Hi hb1 mi wi => ?_⟩
    refine go_cons ?_
    refine ⟨_, rfl, _, rfl, w, c0, _, to_, bt, _, N, rfl, hto, wi, by omega, mi _ _ btw hbt, btw, hN, fun x2 Hj hb2 mj wj => ?_⟩
    refine go_nil ⟨sz2, fun t' nt' => ?_⟩
    have e1 := same_new (o := HO.tup [x1, x2]) nt'
    have ht' := upd_same (H := Hj) (a := t') (o := HO.tup [x1, x2])
    have hbt2 := e1 _ _ (mj _ _ btw (mi _ _ btw hbt))
    have m2 := mi.trans (mj.trans (Mv.of e1))
    have hb1' := (hb1.mv (MvN.of nW mj)).mv (MvN.of nW (Mv.of e1))
    have hb2' := hb2.mv (MvN.of nW (Mv.of e1))
    have mGK : Mv w Hg _ := (Mv.of ebt).trans m2
    have wj' := wj.same e1
    generalize upd Hj t' (.tup [x1, x2]) = Hk at ht' hbt2 hb1' hb2' wj' mGK ⊢
    clear e1 m2 hb1 hb2 hbt mi mj wi wj wh nt'
    dsimp only
    refine ⟨t', _, rfl, .inl (.inl ht'), rfl, _, _, rfl, ?_⟩
    refine ⟨_, rfl, _, rfl, ?_⟩
    refine ⟨bt, _, (at_ : Int), at_, rfl, rfl, hbt2, ixN_nat hat, ?_⟩
    have hbt3 := upd_same (H := Hk) (a := bt) (o := HO.lst ((standV s cc sd).set at_ x1))
    have mS1 : MvN N Hk (upd Hk bt (.lst ((standV s cc sd).set at_ x1))) := fun b o hb hz => by
      rw [upd_ne (fun e => hb ((hN b).mpr (.inr e)))]
      exact hz
    have mG1 : Mv w Hg (upd Hk bt (.lst ((standV s cc sd).set at_ x1))) := fun b o hb hz => by
      rw [upd_ne (ne_of_none hz nbt)]
      exact mGK b o hb hz
    have wS1 : Wh (upd Hk bt (.lst ((standV s cc sd).set at_ x1))) w c0 _ := wj'.set btw (wg.nc nbt)
    have hb1s := hb1'.mv mS1
    have hb2s := hb2'.mv mS1
    generalize upd Hk bt (.lst ((standV s cc sd).set at_ x1)) = Hl at hbt3 mG1 wS1 hb1s hb2s ⊢
    clear hbt2 mS1 mGK wj' hb1' hb2' ht'
    refine ⟨_, _, rfl, ?_⟩
    refine ⟨_, rfl, _, rfl, ?_⟩
    refine ⟨bt, _, (to_ : Int), to_, rfl, rfl, hbt3, ixN_nat (by rw [List.length_set]; exact hto), ?_⟩
    have hbt4 := upd_same (H := Hl) (a := bt) (o := HO.lst (((standV s cc sd).set at_ x1).set to_ x2))
    have mS2 : MvN N Hl (upd Hl bt (.lst (((standV s cc sd).set at_ x1).set to_ x2))) := fun b o hb hz => by
      rw [upd_ne (fun e => hb ((hN b).mpr (.inr e)))]
      exact hz
    have mG2 : Mv w Hg (upd Hl bt (.lst (((standV s cc sd).set at_ x1).set to_ x2))) := fun b o hb hz => by
      rw [upd_ne (ne_of_none hz nbt)]
      exact mG1 b o hb hz
    have wS2 : Wh (upd Hl bt (.lst (((standV s cc sd).set at_ x1).set to_ x2))) w c0 _ := wS1.set btw (wg.nc nbt)
    have hb1e := hb1s.mv mS2
    have hb2e := hb2s.mv mS2
    generalize upd Hl bt (.lst (((standV s cc sd).set at_ x1).set to_ x2)) = Hm at hbt4 mG2 wS2 hb1e hb2e ⊢
    clear hbt3 mS2 mG1 wS1 hb1s hb2s
    have hPm := hPg.mv mG2
    have hSm := hSg.mvw wg mG2
    have hnlm := mG2 _ _ nw hnlg
    have hdum := mG2 _ _ duw hdug
    clear hPg hSg hnlg hdug mG2 hPh hSh hnlh
    refine ⟨rfl, ?_⟩
    refine go_seq (go_if (go_test (go_op ?_)))
    obtain ⟨nm, hnm⟩ : ∃ nm, partN[min at_ to_]? = some nm := ⟨_, List.getElem?_eq_getElem (show min at_ to_ < 12 by omega)⟩
    refine ⟨_, rfl, ?_⟩
    refine go_nil ?_
    refine bent_made (K := K) (CS := T.C_Stand) (E := C8.E0) (s := s) (c := cc) (sd := sd) (l := l) hPm.made hb1e hb2e hat hto hbt4 hnm (fun tt Hn en htt => ?_)
    have hnln := en _ _ hnlm
    refine go_tup (go_cons (go_c (go_cons (go_op (go_var rfl (go_cb (go_cons (go_var rfl (go_cons (go_var rfl (go_nil ⟨_, _, rfl, ?_⟩)))))))))))
    rw [show (if (to_ : Int) < (at_ : Int) then (to_ : Int) else (at_ : Int)) = ((min at_ to_ : Nat) : Int) by split <;> omega]
    have hatn : atI (partN.map V.str) ((min at_ to_ : Nat) : Int) = some (.str nm) := by
      have hk12 : min at_ to_ < (partN.map V.str).length := by
        show min at_ to_ < 12
        omega
      rw [at_nat hk12, List.getElem_map, (List.getElem?_eq_some_iff.mp hnm).2]
    refine ⟨nl, partN.map V.str, _, .str nm, rfl, rfl, .inl (.inl hnln), hatn, ?_⟩
    refine go_nil ⟨sz2, fun t2 nt2 => ?_⟩
    have en2 := en.trans (same_new (o := HO.tup [V.str "BadMachine", V.str nm]) nt2)
    have hsh : ∀ nm ∈ partN, SeqAt.shaped (.tuple [.str "BadMachine", .str nm]) = true := by decide +kernel
    have hs1 := hsh nm (List.mem_of_getElem? hnm)
    refine ⟨.tuple [.str "BadMachine", .str nm], .tuple [.str "BadMachine", .str nm], .tup (.inl (.inl ((same_new nt2) _ _ htt))) (.cons (.str _) (.cons (.str _) .nil)), .tup (.inl (.inl upd_same)) (.cons (.str _) (.cons (.str _) .nil)), hs1, hs1, ?_⟩
    have hev : PyData.eqv (.tuple [.str "BadMachine", .str nm]) (.tuple [.str "BadMachine", .str nm]) = true := by
      show (("BadMachine" : Str) == "BadMachine" && (nm == nm && true)) = true
      simp
    rw [hev]
    refine ⟨_, rfl, iteF (A := _) ?_⟩
    dsimp only [tNext]
    have hPn := hPm.mv (Mv.of en2)
    have hSn := hSm.same en2
    have hdun := en2 _ _ hdum
    have wn := wS2.same en2
    generalize upd Hn t2 (.tup [V.str "BadMachine", V.str nm]) = Ho at hPn hSn hdun wn ⊢
    clear hPm hb1e hb2e hbt4 hnm en en2 htt hnln hnlm nt2 hSm hdum wS2 hatn
    -- each part changed
    refine go_seq ⟨12, rfl, by decide, by decide, for_range (lo := 0) (n := 12) (fun j σ H' => Same Ho H' ∧ ∃ (o8 o12 : Option V), σ = [some (.ref w), some (.ref nl), some (.ref P), o3, some (.ref du), some (.str before), some (.ref sp), some (.ref kd), o8, some (.int (at_ : Int)), some (.int (to_ : Int)), some (.ref bt), o12]) ⟨Same.refl _, _, _, rfl⟩ (fun j σ' Hz hj h => ?_) (fun σ' Hz h => ?_)⟩
    · obtain ⟨e0, o8, o12, rfl⟩ := h
      have hj12 : j < 12 := hj
      have hPp := hPn.mv (Mv.of e0)
      have hSp := hSn.same e0
      dsimp only [gName]
      have ej : V.int (0 + (j : Int)) = V.int (j : Int) := by rw [Int.zero_add]
      rw [ej]
      refine go_seq (go_asg (go_cb (go_cons (go_var rfl (go_nil ⟨P, _, rfl, .inl (.inl (.inl hPp.at_)), fun ot nto => ?_⟩)))))
      have e1 := same_new (o := HO.lst (standV s cc sd)) nto
      have hot := upd_same (H := Hz) (a := ot) (o := HO.lst (standV s cc sd))
      have hPq := hPp.mv (Mv.of e1)
      have hSq := hSp.same e1
      generalize upd Hz ot (.lst (standV s cc sd)) = Hq at e1 hot hPq hSq ⊢
      dsimp only [gName]
      obtain ⟨v, hv⟩ : ∃ v, (standV s cc sd)[j]? = some v := ⟨_, List.getElem?_eq_getElem (show j < 12 from hj)⟩
      refine go_seq (go_asg ?_)
      refine go_cons (go_op (go_var rfl (go_var rfl ⟨P, _, _, v, rfl, rfl, .inl (.inl hPq.at_), by rw [at_nat (show j < (standV s cc sd).length from hj), ← hv]; exact (List.getElem?_eq_getElem _).symm, ?_⟩)))
      refine go_cons (go_var rfl (go_nil ?_))
      refine ⟨w, P, cc, sd, s, l, kc, ks, qs, j, v, rfl, hj, hPq, hv, fun y Hr c' sd' s' l' e2 hset hM hne => ?_⟩
      have hot2 := e2 _ _ hot
      refine ⟨_, rfl, _, rfl, ot, _, (j : Int), j, rfl, rfl, hot2, ixN_nat hj, ?_⟩
      rw [hset]
      have hM2 := hM.set (o := HO.lst (standV s' c' sd')) hot2
      have hS2 := hSq.same e2
      have eZ : Same Ho (upd Hr ot (.lst (standV s' c' sd'))) := fun b o hb => by
        rw [upd_ne (ne_of_none (e0 _ _ hb) nto)]
        exact (e0.trans (e1.trans e2)) _ _ hb
      have hS3 : StandAt K T.C_Stand (upd Hr ot (.lst (standV s' c' sd'))) sp s l dx t u := hSn.same eZ
      have hot3 := upd_same (H := Hr) (a := ot) (o := HO.lst (standV s' c' sd'))
      generalize upd Hr ot (.lst (standV s' c' sd')) = Hs at hM2 eZ hS3 hot3 ⊢
      clear hM hset hot2 hS2 e2 hot hPq hSq e1 nto hPp hSp e0
      dsimp only
      have made : ∀ (Hx : Hp) (Q1 : VK), Same Hs Hx → (∀ (p dx t u : Addr) (H' : Hp), Same Hx H' → StandAt K T.C_Stand H' p s' l' dx t u → Q1 (.ref p) H') → sp_law_made K T.C_Stand [.ref ot] Hx Q1 C8.E0 := fun Hx Q1 ex q1 =>
        ⟨ot, _, _, _, _, _, _, _, _, _, _, _, _, true, true, true, true, true, true, true, true, true, true, true, true, rfl, ex _ _ hot3, fits_good (hM2.same ex), .inl ⟨c', sd', s', l', rfl, by simp, hM2.same ex, q1⟩⟩
      refine go_if (go_or1 (go_test (go_op ?_)))
      refine ⟨_, rfl, ?_⟩
      refine go_nil ?_
      refine made _ _ (Same.refl _) fun p1 dx1 t1' u1' H1' e1 hS1 => ?_
      have hS4 := hS3.same e1
      refine go_var rfl ⟨p1, dx1, _, rfl, hS1.at_, ⟨sp, rfl, .inl ⟨_, _, hS4.at_⟩⟩, p1, .ref sp, s', l', dx1, t1', u1', _, rfl, hS1, .inl ⟨sp, s, l, dx, t, u, rfl, hS4, rfl⟩, fun H2' e2 => ⟨_, rfl, _, rfl, ?_⟩⟩
      rw [hne.2]
      refine iteF (A := _) ?_
      refine go_or1 (go_test (go_op (go_var rfl ?_)))
      refine ⟨_, rfl, ?_⟩
      refine go_nil ?_
      refine made _ _ (e1.trans e2) fun p2 dx2 t2' u2' H3' e3 hS5 => ?_
      have hS6 := (hS4.same e2).same e3
      refine ⟨sp, dx, _, rfl, hS6.at_, ⟨p2, rfl, .inl ⟨_, _, hS5.at_⟩⟩, sp, .ref p2, s, l, dx, t, u, _, rfl, hS6, .inl ⟨p2, s', l', dx2, t2', u2', rfl, hS5, rfl⟩, fun H4' e4 => ⟨_, rfl, _, rfl, ?_⟩⟩
      rw [hne.1]
      refine iteF (A := _) ?_
      refine go_not (go_test (go_op ?_))
      have eY := e1.trans (e2.trans (e3.trans e4))
      refine ⟨_, rfl, ?_⟩
      refine go_nil ?_
      refine made _ _ eY fun p3 dx3 t3' u3' H5' e5 hS7 => ?_
      refine ⟨_, rfl, ?_⟩
      refine go_nil ?_
      refine made _ _ (eY.trans e5) fun p4 dx4 t4' u4' H6' e6 hS8 => ?_
      have hS9 := hS7.same e6
      refine ⟨p3, dx3, _, rfl, hS9.at_, ⟨p4, rfl, .inl ⟨_, _, hS8.at_⟩⟩, p3, .ref p4, s', l', dx3, t3', u3', _, rfl, hS9, .inl ⟨p4, s', l', dx4, t4', u4', rfl, hS8, rfl⟩, fun H7' e7 => ⟨_, rfl, _, rfl, ?_⟩⟩
      rw [eqv_self]
      refine iteF (A := _) ?_
      exact ⟨eZ.trans (eY.trans (e5.trans (e6.trans e7))), _, _, rfl⟩
    · obtain ⟨e0, o8, o12, rfl⟩ := h
      dsimp only
      have hSp := hSn.same e0
      have hdup := e0 _ _ hdun
      refine go_ret (go_and (go_op (go_var rfl (go_var rfl ?_))))
      refine ⟨sp, dx, _, rfl, hSp.at_, ⟨du, rfl, .inr ⟨_, .inl (.inl (.inl hdup))⟩⟩, sp, .ref du, s, l, dx, t, u, false, rfl, hSp, .inr ⟨⟨_, tyL (.inl (.inl hdup)), kitOne_no T.kc_Stand T.kt_Stand sub_list⟩, rfl⟩, fun H1' e1 => ⟨_, rfl, _, rfl, iteT (B := _) ?_⟩⟩
      have hSq := hSp.same e1
      refine go_op (go_var rfl (go_c ?_))
      refine ⟨sp, dx, _, 5, rfl, hSq.at_, rfl, sp, .int 5, s, l, dx, t, u, false, rfl, hSq, .inr ⟨⟨_, .base (.int _), kitOne_no T.kc_Stand T.kt_Stand sub_int⟩, rfl⟩, fun H2' e2 => ⟨_, rfl, ?_⟩⟩
      exact q _ ((wn.same (e0.trans (e1.trans e2))).lt (by omega))
end
end K28
namespace K28
open PySem PySem.Spec PyProof.Rows L2 Kx SX LamX Ms
section
variable {P : Program} {w : World} {K : PySem.W.Frag} {mg : Str → Option Value} {base : Heap} (T : Tx K mg)
def sp_law_no_cell (K : PySem.W.Frag) : Sp := fun vs H Q _ => ∃ (w c : Addr) (n : Nat), vs = [.ref w] ∧ Wh H w c n ∧ n < 900000 ∧ ∀ H', Q (.bl true) H'
theorem ok_law_no_cell : FnOk P w K mg base CX0 9 T.f_law_no_cell T.fd_law_no_cell ["shelf"] (sp_law_no_cell K) := by
  have eN : T.e_BadNumber.C = T.k_BadNumber := same_ref T.e_BadNumber.gC T.gk_BadNumber
  have xNN : PySem.W.exmOne K (.ref T.e_BadNumber.C) (.ref T.e_BadNumber.C) = some true := PySem.W.exm_ref T.e_BadNumber.exc.hs T.e_BadNumber.exc.hd T.e_BadNumber.oex.tyC (by rw [eN]; exact T.su_BadNumber_BadNumber)
  refine T.F_law_no_cell.ok sc_law_no_cell (fun vs H Q E h => ?_) (fun cdv A outer s H vs Q E hr h => ?_)
  · obtain ⟨w, c, n, rfl, _⟩ := h
    rfl
  · obtain ⟨w, c, n, rfl, wh, hn, q⟩ := h
    refine ⟨_, (pss_cons (ps_set (i := 1) sc_law_no_cell.nd rfl (.inl rfl) pe_non)
    (pss_cons (ps_manyN (i := 2) rfl rfl sc_law_no_cell.nd rfl rfl takes_none5 (fun W pn xe tk _ =>
      (pss_one (ps_set (i := 1) sc_law_no_cell.nd rfl (.inl rfl) (pe_methS (pe_call0 (ok_begun T) (hr.mono (by decide)) (by rfl) T.g_begun T.F_begun.kp T.b_begun .nil pass0) T.cl_Stand T.me_Stand_cell (ok_Stand_cell T) (hr.mono (by decide)) T.b_Stand_cell (fun σ => passAt tk σ) (pa_cons (pe_call (ok_law_pick T) (hr.mono (by decide)) (by rfl) T.g_law_pick T.F_law_pick.kp T.b_law_pick .nil pass0 (pa_cons (pv 0) (pa_cons (pe_lst (pa_cons pe_non (pa_cons pe_bl (pa_cons pe_str (pa_cons (pe_tup (pa_cons pe_int pa_nil)) (pa_cons (pe_lst (pa_cons pe_int pa_nil)) pa_nil)))))) pa_nil))) pa_nil)))))
      (HdsN.cons ⟨rfl, by decide, .inl T.e_BadNumber.gC⟩ (fun a ob cl dd pn hz hf => (pss_one (ps_set (i := 1) sc_law_no_cell.nd rfl (.inl rfl) (pe_xf T.e_BadNumber.xf T.e_BadNumber.np hz hf (pv 2))))) (HdsN.cons ⟨rfl, by decide, .inl T.e_BadNumber.gL⟩ (fun a ob cl dd pn hz hf => (pss_one (ps_set (i := 1) sc_law_no_cell.nd rfl (.inl rfl) (pe_tup (pa_cons pe_str pa_nil))))) HdsN.nil)))
    (pss_one (ps_ret (pe_cmpR op_eq (pv 1) pe_str (nomark _)))))), ?_⟩
    refine go_seq (go_asg (go_c ?_))
    dsimp only [gName]
    refine go_seq ?_
    refine go_asg ?_
    refine ⟨rfl, fun p l dx t u H1 ll hS e1 => ?_⟩
    have w1 := wh.same e1
    refine ⟨p, dx, _, rfl, hS.at_, rfl, ?_⟩
    refine go_cons ?_
    refine ⟨_, rfl, ?_⟩
    refine go_cons (go_lst (go_cons (go_c (go_cons (go_c (go_cons (go_c ?_)))))))
    refine go_cons (go_tup (go_cons (go_c (go_nil ⟨sz1, fun a1 n1 => ?_⟩))))
    have f1 := same_new (o := HO.tup [V.int 0]) n1
    have h1 := upd_same (H := H1) (a := a1) (o := HO.tup [V.int 0])
    have v1 := w1.ne n1
    have w2 := w1.same f1
    generalize upd H1 a1 (.tup [V.int 0]) = H2 at f1 h1 w2 ⊢
    refine go_cons (go_lst (go_cons (go_c (go_nil ⟨sz1, fun a2 n2 => ?_⟩))))
    have f2 := same_new (o := HO.lst [V.int 0]) n2
    have h2 := upd_same (H := H2) (a := a2) (o := HO.lst [V.int 0])
    have v2 := w2.ne n2
    have w3 := w2.same f2
    generalize upd H2 a2 (.lst [V.int 0]) = H3 at f2 h2 w3 ⊢
    refine go_nil ⟨show 5 ≤ sizeLine by decide, fun pp np => go_nil (pick_new np w3 (by omega) (by simp) (show 5 ≤ 1000000 by decide) fun v H4 hv m4 w4 => ?_)⟩
    have hS4 := (hS.same (f1.trans f2)).mvw w3 m4
    have ho : Od w H4 v ∧ isIntV v = false := by
      simp only [List.mem_cons, List.not_mem_nil, or_false] at hv
      rcases hv with rfl | rfl | rfl | rfl | rfl
      · exact ⟨.non, rfl⟩
      · exact ⟨.bl _, rfl⟩
      · exact ⟨.str _, rfl⟩
      · exact ⟨.tup v1 (m4 _ _ v1 (f2 _ _ h1)), rfl⟩
      · exact ⟨.lst v2 (m4 _ _ v2 h2), rfl⟩
    refine go_nil ?_
    refine ⟨p, v, startM, l, dx, t, u, rfl, hS4, ho.1.has, .inl ⟨ho.2, fun d H' e hd => ?_⟩⟩
    refine ⟨true, xNN, fun _ y ny => ?_, fun z => nomatch z⟩
    dsimp only
    refine go_asg ?_
    refine ⟨_, rfl, rfl, rfl, d, _, _, rfl, hd, rfl, ?_⟩
    dsimp only [gName]
    refine go_ret (go_op (go_var rfl (go_c ⟨rfl, ?_⟩)))
    rw [decide_eq_true rfl]
    exact q _
theorem ne_tupW {H : Hp} {w c a : Addr} {n : Nat} {xs : List V} (wh : Wh H w c n) (h : H a = some (.tup xs)) : a ≠ w := by
  obtain ⟨cs, t, l, h1, _⟩ := wh
  exact ne_of_two h h1 (fun z => by cases z)
theorem book_mvw {CB p w c : Addr} {H H' : Hp} {n : Nat} {ws : List (List Nat)} (h : BookAt K CB H p ws) (wh : Wh H w c n) (m : Mv w H H') : BookAt K CB H' p ws := by
  obtain ⟨cs, x, l, h1, _⟩ := wh
  obtain ⟨dx, t, h2, h3, h4⟩ := h
  refine ⟨dx, t, m _ _ (ne_of_two h2 h1 (fun z => by cases z)) h2, sqT_mv h1 (fun _ z => by cases z) (fun _ _ z => by cases z) m h3, ?_⟩
  rcases h4 with ⟨ob, ys, h, d⟩ | h
  · exact .inl ⟨ob, ys, m _ _ (ne_of_two h h1 (fun z => by cases z)) h, d⟩
  · exact .inr h
/-- the words, the book, the stand that is begun; four stands -/
def sp_law (K : PySem.W.Frag) : Sp := fun vs H Q _ => ∃ (a : Addr) (ns : List Int), vs = [.ref a] ∧ SqL K H a (ns.map V.int) ∧ ∀ H', Q (.bl true) H'
def plainD : PyData := .tuple (plainT.map PyData.str)
theorem rep_plain {H : Hp} {a : Addr} {Q : VK} (h : SqT K H a (plainL.map tx)) (q : Q (.str plainD.shown) H) : rRepr K [.ref a] H Q := by
  rw [← plain_tx] at h
  exact ⟨a, plainD, rfl, .tup h (dpAll_map _ fun x _ => .str x), by decide +kernel, by decide +kernel, by decide +kernel, by decide +kernel, q⟩
theorem ok_law : FnG P w K mg base CX0 10 T.f_law T.fd_law ["script"] (sp_law K) := by
  refine okG T.F_law sc_law (fun vs H Q E h => ?_) (fun cdv A outer s H vs Q E hg hr h => ?_)
  · obtain ⟨a, ns, rfl, _⟩ := h
    rfl
  · obtain ⟨a0, ns0, rfl, hs, q⟩ := h
    refine ⟨_, (pss_cons (ps_set (i := 1) sc_law.nd rfl (.inl rfl) (pe_call (ok_law_shelf T) (hr.mono (by decide)) (by rfl) T.g_law_shelf T.F_law_shelf.kp T.b_law_shelf .nil pass0 (pa_cons (pv 0) pa_nil)))
    (pss_cons (ps_par (i := 2) (j := 3) rfl sc_law.nd rfl rfl (by decide) rfl rfl (pa_cons (pe_call0 (ok_law_words T) (hr.mono (by decide)) (by rfl) T.g_law_words T.F_law_words.kp T.b_law_words .nil pass0) (pa_cons (pe_call0 (ok_plain_book T) (hr.mono (by decide)) (by rfl) T.g_plain_book T.F_plain_book.kp T.b_plain_book .nil pass0) pa_nil)) (by rfl))
    (pss_cons (ps_if (PW.pt (pw_or (pt_cmpR op_ne (pe_callB (call_reprD hg hr.units) (by rfl) T.m_repr (by decide +kernel) (pa_cons (pe_call0 (ok_plain_words T) (hr.mono (by decide)) (by rfl) T.g_plain_words T.F_plain_words.kp T.b_plain_words .nil pass0) pa_nil)) (pe_callB (call_reprD hg hr.units) (by rfl) T.m_repr (by decide +kernel) (pa_cons (pv 2) pa_nil)) (nomark _)) (pw_or (pt_not (pt_val (pe_callB call_isi (by rfl) T.m_isinstance (by decide +kernel) (pa_cons (pv 3) (pa_cons (pe_glob (v := .ref T.C_Book) (by rfl) T.gC_Book rfl) pa_nil))))) (pw_or (pt_cmpR op_ne (pe_callB (call_reprD hg hr.units) (by rfl) T.m_repr (by decide +kernel) (pa_cons (pe_fld (pv 3) rfl) pa_nil)) (pe_callB (call_reprD hg hr.units) (by rfl) T.m_repr (by decide +kernel) (pa_cons (pv 2) pa_nil)) (nomark _)) (pw_or1 (pt_cmpR (op_neI (ok_Book_eq T) T.b_Book_eq (hr.mono (by decide)) T.me_Book_eq.at_ T.me_Book_eq.fn T.ob_Book T.ne_Book) (pv 3) (pe_make T.mk_Book (ok_Book_init T) (hr.mono (by decide)) (by rfl) T.gC_Book T.b_Book_init .nil passF (pa_cons (pe_callTy call_list_of (by rfl) T.m_list (by decide +kernel) (pa_cons (pv 2) pa_nil)) pa_nil)) (nomark _)))))))
      (pss_one (ps_ret pe_bl))
      pss_nil)
    (pss_cons (ps_set (i := 4) sc_law.nd rfl (.inl rfl) (pe_call (ok_law_deal T) (hr.mono (by decide)) (by rfl) T.g_law_deal T.F_law_deal.kp T.b_law_deal .nil pass0 (pa_cons (pv 1) (pa_cons pe_int pa_nil))))
    (pss_cons (ps_if (PW.pt (pw_or (pt_cmpR op_ne (pe_callB SkE.call_repr_int (by rfl) T.m_repr (by decide +kernel) (pa_cons (pe_meth (pv 3) T.cl_Book T.me_Book_number (ok_Book_number T) (hr.mono (by decide)) T.b_Book_number .nil passF (pa_cons (pe_ix ix_tup (pv 2) (pv 4) (fun _ _ => rfl)) pa_nil)) pa_nil)) (pe_callB SkE.call_repr_int (by rfl) T.m_repr (by decide +kernel) (pa_cons (pv 4) pa_nil)) (nomark _)) (pw_or1 (pt_cmpR op_ne (pe_callB (call_reprD hg hr.units) (by rfl) T.m_repr (by decide +kernel) (pa_cons (pe_call (ok_law_seen T) (hr.mono (by decide)) (by rfl) T.g_law_seen T.F_law_seen.kp T.b_law_seen .nil pass0 (pa_cons (pe_call0 (ok_begun T) (hr.mono (by decide)) (by rfl) T.g_begun T.F_begun.kp T.b_begun .nil pass0) pa_nil)) pa_nil)) (pe_callB (call_reprD hg hr.units) (by rfl) T.m_repr (by decide +kernel) (pa_cons (pe_lst (pa_cons (pe_un un_neg pe_int) (pa_cons pe_int (pa_cons pe_bl (pa_cons pe_bl (pa_cons pe_bl (pa_cons pe_int (pa_cons pe_int (pa_cons pe_int (pa_cons (pe_tup pa_nil) (pa_cons pe_int (pa_cons (pe_tup pa_nil) (pa_cons pe_bl pa_nil))))))))))))) pa_nil)) (nomark _)))))
      (pss_one (ps_ret pe_bl))
      pss_nil)
    (pss_cons (ps_for PassesOwn.never rfl (pi_range1 (by rfl) T.m_range (pa_cons pe_int pa_nil)) (pg_name (i := 5) sc_law.nd rfl (.inl rfl))
      (pss_one (ps_if (pt_not (pt_val (pe_callG (ok_law_stands_right T) hg (hr.mono (by decide)) (by rfl) T.g_law_stands_right T.F_law_stands_right.kp T.b_law_stands_right (pa_cons (pv 1) pa_nil))))
        (pss_one (ps_ret pe_bl))
        pss_nil)))
    (pss_one (ps_ret (pe_call (ok_law_no_cell T) (hr.mono (by decide)) (by rfl) T.g_law_no_cell T.F_law_no_cell.kp T.b_law_no_cell .nil pass0 (pa_cons (pv 1) pa_nil)))))))))), ?_⟩
    refine go_seq (go_asg ⟨_, rfl, a0, ns0, rfl, hs, fun w c H1 nw e1 w1 => ?_⟩)
    dsimp only [gName]
    refine go_seq (go_par2 (go_cons ?_))
    refine ⟨rfl, fun wt H2 e2 hwt => ?_⟩
    refine go_cons ?_
    refine ⟨rfl, fun bk H3 e3 hbk => ?_⟩
    refine go_nil ⟨_, _, rfl, ?_⟩
    dsimp only
    have hwt3 := e3 _ _ hwt
    have w3 := w1.same (e2.trans e3)
    obtain ⟨dxb, tb, hb, htb, hnb⟩ := id hbk
    refine go_seq (go_if (go_or1 (go_test (go_op (go_cb (go_cons ?_))))))
    refine ⟨rfl, ?_⟩
    refine go_nil (rep_plain (plain_at T _) ?_)
    refine go_cb (go_cons (go_var rfl (go_nil (rep_plain (.inl (.inl hwt3)) ?_))))
    refine ⟨rfl, false, by rw [decide_eq_true rfl]; rfl, iteF (A := _) ?_⟩
    refine go_or1 (go_not (go_b ⟨_, rfl, .ref bk, .ref T.C_Book, _, _, true, rfl, .own _, .base (.ins hb T.cl_Book T.oc_Book T.on_Book T.ot_Book T.ob_Book), kitOne_self, _, rfl, iteF (A := _) ?_⟩))
    refine go_or1 (go_test (go_op (go_cb (go_cons ?_))))
    refine ⟨_, rfl, bk, T.C_Book, dxb, _, .ref tb, rfl, hb, T.cl_Book, T.na_Book_words, rfl, ?_⟩
    refine go_nil (rep_plain htb ?_)
    refine go_cb (go_cons (go_var rfl (go_nil (rep_plain (.inl (.inl hwt3)) ?_))))
    refine ⟨rfl, false, by rw [decide_eq_true rfl]; rfl, iteF (A := _) ?_⟩
    refine go_test (go_op (go_var rfl ?_))
    have h30 := plain_len
    refine go_make (go_cons (go_cb (go_cons (go_var rfl (go_nil ⟨wt, _, rfl, .inr (.inl (.inl hwt3)), fun li nli => ?_⟩)))))
    have el := same_new (o := HO.lst (plainL.map tx)) nli
    have hli := upd_same (H := H3) (a := li) (o := HO.lst (plainL.map tx))
    generalize upd H3 li (.lst (plainL.map tx)) = H4 at el hli ⊢
    refine go_nil fun x dx nx ndx _ => ?_
    refine book_new nx ndx (words_arg (.inl (.inl (.inl hli))) (by omega) (by omega) (by decide) plain_word plain_nodup) ⟨li, rfl, .inl (.inl (.inl hli))⟩ fun H5 e5 hb2 => ⟨rfl, ?_⟩
    have e6 := el.trans e5
    have hbk5 := hbk.same e6
    obtain ⟨dx2, t2, hb2a, _⟩ := id hb2
    refine ⟨bk, dxb, _, rfl, e6 _ _ hb, ⟨x, rfl, .inl ⟨_, _, hb2a⟩⟩, bk, .ref x, plainL, true, rfl, hbk5, plain_cd, .inl ⟨x, plainL, rfl, hb2, plain_cd, by simp⟩, _, rfl, _, rfl, iteF (A := _) ?_⟩
    dsimp only [tNext]
    have hwt5 := e6 _ _ hwt3
    have w5 := w3.same e6
    clear hbk hb htb hnb hwt hwt3 w3 hli el e5 hb2 hb2a nli nx ndx e2 e3 w1
    refine go_seq (go_asg ?_)
    refine ⟨_, rfl, w, c, 30, _, rfl, by decide, by decide, w5, by omega, fun a1 H6 b0 b1 m6 w6 => ?_⟩
    obtain ⟨at_, rfl⟩ : ∃ z : Nat, a1 = z := ⟨a1.toNat, by omega⟩
    have hat : at_ < plainL.length := by omega
    have wtw := ne_tupW w5 hwt5
    have hwt6 := m6 _ _ wtw hwt5
    have hbk6 := book_mvw hbk5 w5 m6
    obtain ⟨dxc, tc, hc, htc, hnc⟩ := id hbk6
    dsimp only [gName]
    have lg : ((at_ : Int)).natAbs.log2 < 1920 := by
      have : ((at_ : Int)).natAbs = at_ := Int.natAbs_natCast _
      rw [this]
      exact Nat.lt_of_le_of_lt (Nat.log2_le_self at_) (by omega)
    refine go_seq (go_if (go_or1 (go_test (go_op (go_cb (go_cons ?_))))))
    refine ⟨_, rfl, bk, dxc, _, rfl, hc, rfl, ?_⟩
    have hw0 : plainL[at_]? = some plainL[at_] := List.getElem?_eq_getElem hat
    generalize plainL[at_] = w0 at hw0
    have hwd : wordB w0 = true := plain_word w0 (List.mem_of_getElem? hw0)
    have hix : atI (plainL.map tx) (at_ : Int) = some (tx w0) := by
      have hl : at_ < (plainL.map tx).length := by rw [List.length_map]; exact hat
      rw [at_nat hl, List.getElem_map, (List.getElem?_eq_some_iff.mp hw0).2]
    refine go_cons (go_op (go_var rfl (go_var rfl ⟨wt, _, _, tx w0, rfl, rfl, .inl (.inl hwt6), hix, ?_⟩)))
    refine go_nil ?_
    refine ⟨bk, tx w0, plainL, rfl, hbk6, plain_word, ?_, fun hno => absurd rfl (hno w0 (List.mem_of_getElem? hw0)), fun j w1' he hj hfirst => ?_⟩
    · rw [txt_tx]
      refine ⟨rfl, ?_⟩
      unfold wordB at hwd
      rw [Bool.and_eq_true, decide_eq_true_eq] at hwd
      omega
    have ew : w0 = w1' := by
      have := congrArg txtV he
      rw [txt_tx, txt_tx] at this
      exact Option.some.inj this
    subst ew
    have ej : j = at_ := by
      obtain ⟨h1, h2⟩ := List.getElem?_eq_some_iff.mp hj
      obtain ⟨h3, h4⟩ := List.getElem?_eq_some_iff.mp hw0
      rcases Nat.lt_trichotomy j at_ with z | z | z
      · have := List.pairwise_iff_getElem.mp plain_nodup j at_ h1 h3 z
        exact absurd (h2.trans h4.symm) this
      · exact z
      · exact absurd hw0 (hfirst at_ z)
    subst ej
    refine go_nil ⟨_, rfl, lg, ?_⟩
    refine go_cb (go_cons (go_var rfl (go_nil ⟨_, rfl, lg, ?_⟩)))
    refine ⟨rfl, false, by rw [decide_eq_true rfl]; rfl, iteF (A := _) ?_⟩
    refine go_test (go_op (go_cb (go_cons ?_)))
    refine go_cons ?_
    refine ⟨rfl, fun p l dx t u H7 ll hS e7 => ?_⟩
    refine go_nil ⟨p, startM, l, dx, t, u, rfl, hS, fun g1 H8 e8 hg1 => go_nil ?_⟩
    have hS8 := hS.same e8
    obtain rfl : l = [] := List.length_eq_zero_iff.mp (by omega)
    refine repr_stand hg1 hS8.cat hS8.sat bd_start (by decide) (by decide) hS8.isC (by decide) (by decide) ?_
    refine go_cb (go_cons (go_lst (go_cons ?_)))
    refine ⟨_, rfl, ?_⟩
    refine go_cons (go_c (go_cons (go_c (go_cons (go_c (go_cons (go_c (go_cons (go_c (go_cons (go_c (go_cons (go_c ?_)))))))))))))
    refine go_cons (go_tup (go_nil ⟨Nat.zero_le _, fun ta nta => ?_⟩))
    refine go_cons (go_c ?_)
    refine go_cons (go_tup (go_nil ⟨Nat.zero_le _, fun tb' ntb => ?_⟩))
    refine go_cons (go_c (go_nil ⟨show 12 ≤ sizeLine by decide, fun pl npl => go_nil ?_⟩))
    have f2 := same_new (o := HO.tup []) ntb
    have ha1 := f2 _ _ (upd_same (H := H8) (a := ta) (o := HO.tup []))
    have hb1 := upd_same (H := upd H8 ta (.tup [])) (a := tb') (o := HO.tup [])
    have f3 := (same_new (o := HO.tup []) nta).trans f2
    generalize upd (upd H8 ta (.tup [])) tb' (.tup []) = H9 at ha1 hb1 f3 npl ⊢
    have f4 := same_new (o := HO.lst [V.int (-1), V.int 0, V.bl false, V.bl false, V.bl false, V.int 2, V.int 0, V.int 0, V.ref ta, V.int 0, V.ref tb', V.bl false]) npl
    have sh := shB_stand (s := startM) (l := []) bd_start (by decide) hS8.isC (by decide) (by decide) (by decide)
    refine ⟨pl, .list (standD startM []), rfl, .lst (.inl (.inl upd_same)) (.cons (.int _) <| .cons (.int _) <| .cons (.bl _) <| .cons (.bl _) <| .cons (.bl _) <| .cons (.int _) <| .cons (.int _) <| .cons (.int _) <| .cons (.tup (.inl (.inl (f4 _ _ ha1))) .nil) <| .cons (.int _) <| .cons (.tup (.inl (.inl (f4 _ _ hb1))) .nil) <| .cons (.bl _) .nil), sh.sh, sh.nd, Nat.le_trans sh.dp (by decide), sh.len (Nat.le_refl _), ?_⟩
    refine ⟨rfl, false, by
      show V.bl (!decide (V.str (standX startM []) = V.str (standX startM []))) = V.bl false
      rw [decide_eq_true rfl]
      rfl, iteF (A := _) ?_⟩
    dsimp only [tNext]
    have w9 := w6.same (e7.trans (e8.trans (f3.trans f4)))
    clear hwt5 hbk5 hbk6 hc htc hnc hwt6 hS e7 hS8 hg1 e8 sh ha1 hb1 f2 f3 w5 m6 w6 ll
    refine go_seq ⟨4, rfl, by decide, by decide, for_range (lo := 0) (n := 4) (fun i σ H' => ∃ o5 : Option V, σ = [some (.ref a0), some (.ref w), some (.ref wt), some (.ref bk), some (.int (j : Int)), o5] ∧ Wh H' w c (100 * i + 1)) ⟨_, rfl, w9.lt (by omega)⟩ (fun i σ' Ha hi h => ?_) (fun σ' Ha h => ?_)⟩
    · obtain ⟨o5, rfl, wi⟩ := h
      dsimp only [gName]
      refine go_if (go_not (go_b ?_))
      refine ⟨_, rfl, w, c, _, rfl, wi, by omega, fun H' w' => ⟨_, rfl, iteF (A := _) ?_⟩⟩
      exact ⟨_, rfl, w'.lt (by omega)⟩
    · obtain ⟨o5, rfl, wi⟩ := h
      dsimp only
      refine go_ret ?_
      exact ⟨_, rfl, w, c, _, rfl, wi, by decide, q⟩
end
end K28
namespace K28
open PySem PySem.Spec PyProof.Rows L2 Kx SX LamX Ms
def tx_mk {K : PySem.W.Frag} {h : Heap} {mg : Str → Option Value} (X : K.In h) (G : h.Ns mainGlobals mg)
    {f0 : Addr} {od0 an0 : Option Addr} {sl0 : Array (Option Value)} {oc0 kV0 dc0 pm0 cd0 ct0 : Value}
    {f1 : Addr} {od1 an1 : Option Addr} {sl1 : Array (Option Value)} {oc1 kV1 dc1 pm1 cd1 ct1 : Value}
    {f2 : Addr} {od2 an2 : Option Addr} {sl2 : Array (Option Value)} {oc2 kV2 dc2 pm2 cd2 ct2 : Value}
    {f3 : Addr} {od3 an3 : Option Addr} {sl3 : Array (Option Value)} {oc3 kV3 dc3 pm3 cd3 ct3 : Value}
    {f4 : Addr} {od4 an4 : Option Addr} {sl4 : Array (Option Value)} {oc4 kV4 dc4 pm4 cd4 ct4 : Value}
    {f5 : Addr} {od5 an5 : Option Addr} {sl5 : Array (Option Value)} {oc5 kV5 dc5 pm5 cd5 ct5 : Value}
    {f6 : Addr} {od6 an6 : Option Addr} {sl6 : Array (Option Value)} {oc6 kV6 dc6 pm6 cd6 ct6 : Value}
    {f7 : Addr} {od7 an7 : Option Addr} {sl7 : Array (Option Value)} {oc7 kV7 dc7 pm7 cd7 ct7 : Value}
    {f8 : Addr} {od8 an8 : Option Addr} {sl8 : Array (Option Value)} {oc8 kV8 dc8 pm8 cd8 ct8 : Value}
    {f9 : Addr} {od9 an9 : Option Addr} {sl9 : Array (Option Value)} {oc9 kV9 dc9 pm9 cd9 ct9 : Value}
    {f10 : Addr} {od10 an10 : Option Addr} {sl10 : Array (Option Value)} {oc10 kV10 dc10 pm10 cd10 ct10 : Value}
    {f11 : Addr} {od11 an11 : Option Addr} {sl11 : Array (Option Value)} {oc11 kV11 dc11 pm11 cd11 ct11 : Value}
    {f12 : Addr} {od12 an12 : Option Addr} {sl12 : Array (Option Value)} {oc12 kV12 dc12 pm12 cd12 ct12 : Value}
    {f13 : Addr} {od13 an13 : Option Addr} {sl13 : Array (Option Value)} {oc13 kV13 dc13 pm13 cd13 ct13 : Value}
    {f14 : Addr} {od14 an14 : Option Addr} {sl14 : Array (Option Value)} {oc14 kV14 dc14 pm14 cd14 ct14 : Value}
    {f15 : Addr} {od15 an15 : Option Addr} {sl15 : Array (Option Value)} {oc15 kV15 dc15 pm15 cd15 ct15 : Value}
    {f16 : Addr} {od16 an16 : Option Addr} {sl16 : Array (Option Value)} {oc16 kV16 dc16 pm16 cd16 ct16 : Value}
    {f17 : Addr} {od17 an17 : Option Addr} {sl17 : Array (Option Value)} {oc17 kV17 dc17 pm17 cd17 ct17 : Value}
    {f18 : Addr} {od18 an18 : Option Addr} {sl18 : Array (Option Value)} {oc18 kV18 dc18 pm18 cd18 ct18 : Value}
    {f19 : Addr} {od19 an19 : Option Addr} {sl19 : Array (Option Value)} {oc19 kV19 dc19 pm19 cd19 ct19 : Value}
    {f20 : Addr} {od20 an20 : Option Addr} {sl20 : Array (Option Value)} {oc20 kV20 dc20 pm20 cd20 ct20 : Value}
    {f21 : Addr} {od21 an21 : Option Addr} {sl21 : Array (Option Value)} {oc21 kV21 dc21 pm21 cd21 ct21 : Value}
    {f22 : Addr} {od22 an22 : Option Addr} {sl22 : Array (Option Value)} {oc22 kV22 dc22 pm22 cd22 ct22 : Value}
    {f23 : Addr} {od23 an23 : Option Addr} {sl23 : Array (Option Value)} {oc23 kV23 dc23 pm23 cd23 ct23 : Value}
    {f24 : Addr} {od24 an24 : Option Addr} {sl24 : Array (Option Value)} {oc24 kV24 dc24 pm24 cd24 ct24 : Value}
    {f25 : Addr} {od25 an25 : Option Addr} {sl25 : Array (Option Value)} {oc25 kV25 dc25 pm25 cd25 ct25 : Value}
    {f26 : Addr} {od26 an26 : Option Addr} {sl26 : Array (Option Value)} {oc26 kV26 dc26 pm26 cd26 ct26 : Value}
    {f27 : Addr} {od27 an27 : Option Addr} {sl27 : Array (Option Value)} {oc27 kV27 dc27 pm27 cd27 ct27 : Value}
    {f28 : Addr} {od28 an28 : Option Addr} {sl28 : Array (Option Value)} {oc28 kV28 dc28 pm28 cd28 ct28 : Value}
    {mf0 : Addr} {mod0 man0 : Option Addr} {msl0 : Array (Option Value)} {moc0 mkV0 mdc0 mpm0 mcd0 mct0 : Value}
    {mf1 : Addr} {mod1 man1 : Option Addr} {msl1 : Array (Option Value)} {moc1 mkV1 mdc1 mpm1 mcd1 mct1 : Value}
    {mf2 : Addr} {mod2 man2 : Option Addr} {msl2 : Array (Option Value)} {moc2 mkV2 mdc2 mpm2 mcd2 mct2 : Value}
    {mf3 : Addr} {mod3 man3 : Option Addr} {msl3 : Array (Option Value)} {moc3 mkV3 mdc3 mpm3 mcd3 mct3 : Value}
    {mf4 : Addr} {mod4 man4 : Option Addr} {msl4 : Array (Option Value)} {moc4 mkV4 mdc4 mpm4 mcd4 mct4 : Value}
    {mf5 : Addr} {mod5 man5 : Option Addr} {msl5 : Array (Option Value)} {moc5 mkV5 mdc5 mpm5 mcd5 mct5 : Value}
    {mf6 : Addr} {mod6 man6 : Option Addr} {msl6 : Array (Option Value)} {moc6 mkV6 mdc6 mpm6 mcd6 mct6 : Value}
    {KC_Stand : Addr}
    {KC_Work : Addr}
    {KC_Book : Addr}
    {KD_BadNumber : Addr}
    {KD_BadWord : Addr}
    {KD_BadBook : Addr}
    {KD_BadMachine : Addr}
    {KW_PLAIN_WORDS : Addr} {wi_PLAIN_WORDS : Array Value} {wn_PLAIN_WORDS : Nat} {ws_PLAIN_WORDS : Array (Option Value)}
    {t0 : Tok}
    {t1 : Tok}
    {t2 : Tok}
    (a0 : PySem.W.nsIn K mainGlobals "is_list" = some (some (.ref f0))) (l0 : K.lookup f0 = some ⟨oc0, od0, .func (PySem.W.fnOf "is_list" "is_list" (defArgs s_is_list) (defBody s_is_list) (defScope s_is_list) .none kV0 dc0 pm0 an0 cd0 ct0), sl0⟩) (c0 : PySem.W.codeIn K cd0 "is_list" = true) (k0 : PySem.W.keepIn K (.ref f0) = true)
    (a1 : PySem.W.nsIn K mainGlobals "is_integer" = some (some (.ref f1))) (l1 : K.lookup f1 = some ⟨oc1, od1, .func (PySem.W.fnOf "is_integer" "is_integer" (defArgs s_is_integer) (defBody s_is_integer) (defScope s_is_integer) .none kV1 dc1 pm1 an1 cd1 ct1), sl1⟩) (c1 : PySem.W.codeIn K cd1 "is_integer" = true) (k1 : PySem.W.keepIn K (.ref f1) = true)
    (a2 : PySem.W.nsIn K mainGlobals "is_within" = some (some (.ref f2))) (l2 : K.lookup f2 = some ⟨oc2, od2, .func (PySem.W.fnOf "is_within" "is_within" (defArgs s_is_within) (defBody s_is_within) (defScope s_is_within) .none kV2 dc2 pm2 an2 cd2 ct2), sl2⟩) (c2 : PySem.W.codeIn K cd2 "is_within" = true) (k2 : PySem.W.keepIn K (.ref f2) = true)
    (a3 : PySem.W.nsIn K mainGlobals "are_integers" = some (some (.ref f3))) (l3 : K.lookup f3 = some ⟨oc3, od3, .func (PySem.W.fnOf "are_integers" "are_integers" (defArgs s_are_integers) (defBody s_are_integers) (defScope s_are_integers) .none kV3 dc3 pm3 an3 cd3 ct3), sl3⟩) (c3 : PySem.W.codeIn K cd3 "are_integers" = true) (k3 : PySem.W.keepIn K (.ref f3) = true)
    (a4 : PySem.W.nsIn K mainGlobals "are_letters" = some (some (.ref f4))) (l4 : K.lookup f4 = some ⟨oc4, od4, .func (PySem.W.fnOf "are_letters" "are_letters" (defArgs s_are_letters) (defBody s_are_letters) (defScope s_are_letters) .none kV4 dc4 pm4 an4 cd4 ct4), sl4⟩) (c4 : PySem.W.codeIn K cd4 "are_letters" = true) (k4 : PySem.W.keepIn K (.ref f4) = true)
    (a5 : PySem.W.nsIn K mainGlobals "is_word" = some (some (.ref f5))) (l5 : K.lookup f5 = some ⟨oc5, od5, .func (PySem.W.fnOf "is_word" "is_word" (defArgs s_is_word) (defBody s_is_word) (defScope s_is_word) .none kV5 dc5 pm5 an5 cd5 ct5), sl5⟩) (c5 : PySem.W.codeIn K cd5 "is_word" = true) (k5 : PySem.W.keepIn K (.ref f5) = true)
    (a6 : PySem.W.nsIn K mainGlobals "are_words" = some (some (.ref f6))) (l6 : K.lookup f6 = some ⟨oc6, od6, .func (PySem.W.fnOf "are_words" "are_words" (defArgs s_are_words) (defBody s_are_words) (defScope s_are_words) .none kV6 dc6 pm6 an6 cd6 ct6), sl6⟩) (c6 : PySem.W.codeIn K cd6 "are_words" = true) (k6 : PySem.W.keepIn K (.ref f6) = true)
    (a7 : PySem.W.nsIn K mainGlobals "plain_words" = some (some (.ref f7))) (l7 : K.lookup f7 = some ⟨oc7, od7, .func (PySem.W.fnOf "plain_words" "plain_words" (defArgs s_plain_words) (defBody s_plain_words) (defScope s_plain_words) .none kV7 dc7 pm7 an7 cd7 ct7), sl7⟩) (c7 : PySem.W.codeIn K cd7 "plain_words" = true) (k7 : PySem.W.keepIn K (.ref f7) = true)
    (a8 : PySem.W.nsIn K mainGlobals "plain_book" = some (some (.ref f8))) (l8 : K.lookup f8 = some ⟨oc8, od8, .func (PySem.W.fnOf "plain_book" "plain_book" (defArgs s_plain_book) (defBody s_plain_book) (defScope s_plain_book) .none kV8 dc8 pm8 an8 cd8 ct8), sl8⟩) (c8 : PySem.W.codeIn K cd8 "plain_book" = true) (k8 : PySem.W.keepIn K (.ref f8) = true)
    (a9 : PySem.W.nsIn K mainGlobals "is_truth" = some (some (.ref f9))) (l9 : K.lookup f9 = some ⟨oc9, od9, .func (PySem.W.fnOf "is_truth" "is_truth" (defArgs s_is_truth) (defBody s_is_truth) (defScope s_is_truth) .none kV9 dc9 pm9 an9 cd9 ct9), sl9⟩) (c9 : PySem.W.codeIn K cd9 "is_truth" = true) (k9 : PySem.W.keepIn K (.ref f9) = true)
    (a10 : PySem.W.nsIn K mainGlobals "is_pair" = some (some (.ref f10))) (l10 : K.lookup f10 = some ⟨oc10, od10, .func (PySem.W.fnOf "is_pair" "is_pair" (defArgs s_is_pair) (defBody s_is_pair) (defScope s_is_pair) .none kV10 dc10 pm10 an10 cd10 ct10), sl10⟩) (c10 : PySem.W.codeIn K cd10 "is_pair" = true) (k10 : PySem.W.keepIn K (.ref f10) = true)
    (a11 : PySem.W.nsIn K mainGlobals "are_cells" = some (some (.ref f11))) (l11 : K.lookup f11 = some ⟨oc11, od11, .func (PySem.W.fnOf "are_cells" "are_cells" (defArgs s_are_cells) (defBody s_are_cells) (defScope s_are_cells) .none kV11 dc11 pm11 an11 cd11 ct11), sl11⟩) (c11 : PySem.W.codeIn K cd11 "are_cells" = true) (k11 : PySem.W.keepIn K (.ref f11) = true)
    (a12 : PySem.W.nsIn K mainGlobals "attributes_of" = some (some (.ref f12))) (l12 : K.lookup f12 = some ⟨oc12, od12, .func (PySem.W.fnOf "attributes_of" "attributes_of" (defArgs s_attributes_of) (defBody s_attributes_of) (defScope s_attributes_of) .none kV12 dc12 pm12 an12 cd12 ct12), sl12⟩) (c12 : PySem.W.codeIn K cd12 "attributes_of" = true) (k12 : PySem.W.keepIn K (.ref f12) = true)
    (a13 : PySem.W.nsIn K mainGlobals "stand_of" = some (some (.ref f13))) (l13 : K.lookup f13 = some ⟨oc13, od13, .func (PySem.W.fnOf "stand_of" "stand_of" (defArgs s_stand_of) (defBody s_stand_of) (defScope s_stand_of) .none kV13 dc13 pm13 an13 cd13 ct13), sl13⟩) (c13 : PySem.W.codeIn K cd13 "stand_of" = true) (k13 : PySem.W.keepIn K (.ref f13) = true)
    (a14 : PySem.W.nsIn K mainGlobals "begun" = some (some (.ref f14))) (l14 : K.lookup f14 = some ⟨oc14, od14, .func (PySem.W.fnOf "begun" "begun" (defArgs s_begun) (defBody s_begun) (defScope s_begun) .none kV14 dc14 pm14 an14 cd14 ct14), sl14⟩) (c14 : PySem.W.codeIn K cd14 "begun" = true) (k14 : PySem.W.keepIn K (.ref f14) = true)
    (a15 : PySem.W.nsIn K mainGlobals "_law_shelf" = some (some (.ref f15))) (l15 : K.lookup f15 = some ⟨oc15, od15, .func (PySem.W.fnOf "_law_shelf" "_law_shelf" (defArgs s_law_shelf) (defBody s_law_shelf) (defScope s_law_shelf) .none kV15 dc15 pm15 an15 cd15 ct15), sl15⟩) (c15 : PySem.W.codeIn K cd15 "_law_shelf" = true) (k15 : PySem.W.keepIn K (.ref f15) = true)
    (a16 : PySem.W.nsIn K mainGlobals "_law_deal" = some (some (.ref f16))) (l16 : K.lookup f16 = some ⟨oc16, od16, .func (PySem.W.fnOf "_law_deal" "_law_deal" (defArgs s_law_deal) (defBody s_law_deal) (defScope s_law_deal) .none kV16 dc16 pm16 an16 cd16 ct16), sl16⟩) (c16 : PySem.W.codeIn K cd16 "_law_deal" = true) (k16 : PySem.W.keepIn K (.ref f16) = true)
    (a17 : PySem.W.nsIn K mainGlobals "_law_pick" = some (some (.ref f17))) (l17 : K.lookup f17 = some ⟨oc17, od17, .func (PySem.W.fnOf "_law_pick" "_law_pick" (defArgs s_law_pick) (defBody s_law_pick) (defScope s_law_pick) .none kV17 dc17 pm17 an17 cd17 ct17), sl17⟩) (c17 : PySem.W.codeIn K cd17 "_law_pick" = true) (k17 : PySem.W.keepIn K (.ref f17) = true)
    (a18 : PySem.W.nsIn K mainGlobals "_law_words" = some (some (.ref f18))) (l18 : K.lookup f18 = some ⟨oc18, od18, .func (PySem.W.fnOf "_law_words" "_law_words" (defArgs s_law_words) (defBody s_law_words) (defScope s_law_words) .none kV18 dc18 pm18 an18 cd18 ct18), sl18⟩) (c18 : PySem.W.codeIn K cd18 "_law_words" = true) (k18 : PySem.W.keepIn K (.ref f18) = true)
    (a19 : PySem.W.nsIn K mainGlobals "_law_number" = some (some (.ref f19))) (l19 : K.lookup f19 = some ⟨oc19, od19, .func (PySem.W.fnOf "_law_number" "_law_number" (defArgs s_law_number) (defBody s_law_number) (defScope s_law_number) .none kV19 dc19 pm19 an19 cd19 ct19), sl19⟩) (c19 : PySem.W.codeIn K cd19 "_law_number" = true) (k19 : PySem.W.keepIn K (.ref f19) = true)
    (a20 : PySem.W.nsIn K mainGlobals "_law_parts" = some (some (.ref f20))) (l20 : K.lookup f20 = some ⟨oc20, od20, .func (PySem.W.fnOf "_law_parts" "_law_parts" (defArgs s_law_parts) (defBody s_law_parts) (defScope s_law_parts) .none kV20 dc20 pm20 an20 cd20 ct20), sl20⟩) (c20 : PySem.W.codeIn K cd20 "_law_parts" = true) (k20 : PySem.W.keepIn K (.ref f20) = true)
    (a21 : PySem.W.nsIn K mainGlobals "_law_made" = some (some (.ref f21))) (l21 : K.lookup f21 = some ⟨oc21, od21, .func (PySem.W.fnOf "_law_made" "_law_made" (defArgs s_law_made) (defBody s_law_made) (defScope s_law_made) .none kV21 dc21 pm21 an21 cd21 ct21), sl21⟩) (c21 : PySem.W.codeIn K cd21 "_law_made" = true) (k21 : PySem.W.keepIn K (.ref f21) = true)
    (a22 : PySem.W.nsIn K mainGlobals "_law_named" = some (some (.ref f22))) (l22 : K.lookup f22 = some ⟨oc22, od22, .func (PySem.W.fnOf "_law_named" "_law_named" (defArgs s_law_named) (defBody s_law_named) (defScope s_law_named) .none kV22 dc22 pm22 an22 cd22 ct22), sl22⟩) (c22 : PySem.W.codeIn K cd22 "_law_named" = true) (k22 : PySem.W.keepIn K (.ref f22) = true)
    (a23 : PySem.W.nsIn K mainGlobals "_law_seen" = some (some (.ref f23))) (l23 : K.lookup f23 = some ⟨oc23, od23, .func (PySem.W.fnOf "_law_seen" "_law_seen" (defArgs s_law_seen) (defBody s_law_seen) (defScope s_law_seen) .none kV23 dc23 pm23 an23 cd23 ct23), sl23⟩) (c23 : PySem.W.codeIn K cd23 "_law_seen" = true) (k23 : PySem.W.keepIn K (.ref f23) = true)
    (a24 : PySem.W.nsIn K mainGlobals "_law_spoilt" = some (some (.ref f24))) (l24 : K.lookup f24 = some ⟨oc24, od24, .func (PySem.W.fnOf "_law_spoilt" "_law_spoilt" (defArgs s_law_spoilt) (defBody s_law_spoilt) (defScope s_law_spoilt) .none kV24 dc24 pm24 an24 cd24 ct24), sl24⟩) (c24 : PySem.W.codeIn K cd24 "_law_spoilt" = true) (k24 : PySem.W.keepIn K (.ref f24) = true)
    (a25 : PySem.W.nsIn K mainGlobals "_law_changed" = some (some (.ref f25))) (l25 : K.lookup f25 = some ⟨oc25, od25, .func (PySem.W.fnOf "_law_changed" "_law_changed" (defArgs s_law_changed) (defBody s_law_changed) (defScope s_law_changed) .none kV25 dc25 pm25 an25 cd25 ct25), sl25⟩) (c25 : PySem.W.codeIn K cd25 "_law_changed" = true) (k25 : PySem.W.keepIn K (.ref f25) = true)
    (a26 : PySem.W.nsIn K mainGlobals "_law_stands_right" = some (some (.ref f26))) (l26 : K.lookup f26 = some ⟨oc26, od26, .func (PySem.W.fnOf "_law_stands_right" "_law_stands_right" (defArgs s_law_stands_right) (defBody s_law_stands_right) (defScope s_law_stands_right) .none kV26 dc26 pm26 an26 cd26 ct26), sl26⟩) (c26 : PySem.W.codeIn K cd26 "_law_stands_right" = true) (k26 : PySem.W.keepIn K (.ref f26) = true)
    (a27 : PySem.W.nsIn K mainGlobals "_law_no_cell" = some (some (.ref f27))) (l27 : K.lookup f27 = some ⟨oc27, od27, .func (PySem.W.fnOf "_law_no_cell" "_law_no_cell" (defArgs s_law_no_cell) (defBody s_law_no_cell) (defScope s_law_no_cell) .none kV27 dc27 pm27 an27 cd27 ct27), sl27⟩) (c27 : PySem.W.codeIn K cd27 "_law_no_cell" = true) (k27 : PySem.W.keepIn K (.ref f27) = true)
    (a28 : PySem.W.nsIn K mainGlobals "law" = some (some (.ref f28))) (l28 : K.lookup f28 = some ⟨oc28, od28, .func (PySem.W.fnOf "law" "law" (defArgs s_law) (defBody s_law) (defScope s_law) .none kV28 dc28 pm28 an28 cd28 ct28), sl28⟩) (c28 : PySem.W.codeIn K cd28 "law" = true) (k28 : PySem.W.keepIn K (.ref f28) = true)
    (ca_Stand : PySem.W.nsIn K mainGlobals "Stand" = some (some (.ref KC_Stand)))
    (cp_Stand : PySem.W.plainGet K KC_Stand Str.empty = true)
    (cd_Stand : PySem.W.hasDictIn K KC_Stand = true)
    (co_Stand : PySem.W.plainOver K KC_Stand = true)
    (cs_Stand : PySem.W.findIn K (.ref KC_Stand) "__setattr__" = some (some (.builtin "object.__setattr__")))
    (cm_Stand : PySem.W.makesIn K KC_Stand = true)
    (ck_Stand : PySem.W.keepIn K (.ref KC_Stand) = true)
    (cb_Stand : PySem.W.mroIn K KC_Stand (.type "object") = some true)
    (cn_Stand : PySem.W.findIn K (.ref KC_Stand) "__ne__" = some (some (.builtin "object.__ne__")))
    (cc_Stand : PySem.W.findIn K (.ref KC_Stand) "__class__" = some (some (.builtin "object.__class__")))
    (cg_Stand : PySem.W.specialIn K (.builtin "object.__class__") "__get__" = some (some (.builtin "getset_descriptor.__get__")))
    (ct_Stand : PySem.W.takesIn K (.builtin "object.__class__") = some true)
    (ci_Stand : PySem.W.isClsIn K KC_Stand = true)
    (cy_Stand : PySem.W.typeIn K (.ref KC_Stand) = some (.type "type"))
    (cx_Stand_block : PySem.W.findIn K (.ref KC_Stand) "block" = some none)
    (cx_Stand_room : PySem.W.findIn K (.ref KC_Stand) "room" = some none)
    (cx_Stand_tick : PySem.W.findIn K (.ref KC_Stand) "tick" = some none)
    (cx_Stand_flag : PySem.W.findIn K (.ref KC_Stand) "flag" = some none)
    (cx_Stand_test : PySem.W.findIn K (.ref KC_Stand) "test" = some none)
    (cx_Stand_mode : PySem.W.findIn K (.ref KC_Stand) "mode" = some none)
    (cx_Stand_first : PySem.W.findIn K (.ref KC_Stand) "first" = some none)
    (cx_Stand_second : PySem.W.findIn K (.ref KC_Stand) "second" = some none)
    (cx_Stand_cells : PySem.W.findIn K (.ref KC_Stand) "cells" = some none)
    (cx_Stand_heard : PySem.W.findIn K (.ref KC_Stand) "heard" = some none)
    (cx_Stand_said : PySem.W.findIn K (.ref KC_Stand) "said" = some none)
    (cx_Stand_is_done : PySem.W.findIn K (.ref KC_Stand) "is_done" = some none)
    (ca_Work : PySem.W.nsIn K mainGlobals "Work" = some (some (.ref KC_Work)))
    (cp_Work : PySem.W.plainGet K KC_Work Str.empty = true)
    (cd_Work : PySem.W.hasDictIn K KC_Work = true)
    (co_Work : PySem.W.plainOver K KC_Work = true)
    (cs_Work : PySem.W.findIn K (.ref KC_Work) "__setattr__" = some (some (.builtin "object.__setattr__")))
    (cm_Work : PySem.W.makesIn K KC_Work = true)
    (ck_Work : PySem.W.keepIn K (.ref KC_Work) = true)
    (cb_Work : PySem.W.mroIn K KC_Work (.type "object") = some true)
    (cn_Work : PySem.W.findIn K (.ref KC_Work) "__ne__" = some (some (.builtin "object.__ne__")))
    (cc_Work : PySem.W.findIn K (.ref KC_Work) "__class__" = some (some (.builtin "object.__class__")))
    (cg_Work : PySem.W.specialIn K (.builtin "object.__class__") "__get__" = some (some (.builtin "getset_descriptor.__get__")))
    (ct_Work : PySem.W.takesIn K (.builtin "object.__class__") = some true)
    (ci_Work : PySem.W.isClsIn K KC_Work = true)
    (cy_Work : PySem.W.typeIn K (.ref KC_Work) = some (.type "type"))
    (cx_Work_numbers : PySem.W.findIn K (.ref KC_Work) "numbers" = some none)
    (cx_Work_block : PySem.W.findIn K (.ref KC_Work) "block" = some none)
    (cx_Work_room : PySem.W.findIn K (.ref KC_Work) "room" = some none)
    (cx_Work_tick : PySem.W.findIn K (.ref KC_Work) "tick" = some none)
    (cx_Work_flag : PySem.W.findIn K (.ref KC_Work) "flag" = some none)
    (cx_Work_test : PySem.W.findIn K (.ref KC_Work) "test" = some none)
    (cx_Work_mode : PySem.W.findIn K (.ref KC_Work) "mode" = some none)
    (cx_Work_first : PySem.W.findIn K (.ref KC_Work) "first" = some none)
    (cx_Work_second : PySem.W.findIn K (.ref KC_Work) "second" = some none)
    (cx_Work_cells : PySem.W.findIn K (.ref KC_Work) "cells" = some none)
    (cx_Work_heard : PySem.W.findIn K (.ref KC_Work) "heard" = some none)
    (cx_Work_said : PySem.W.findIn K (.ref KC_Work) "said" = some none)
    (cx_Work_is_done : PySem.W.findIn K (.ref KC_Work) "is_done" = some none)
    (ca_Book : PySem.W.nsIn K mainGlobals "Book" = some (some (.ref KC_Book)))
    (cp_Book : PySem.W.plainGet K KC_Book Str.empty = true)
    (cd_Book : PySem.W.hasDictIn K KC_Book = true)
    (co_Book : PySem.W.plainOver K KC_Book = true)
    (cs_Book : PySem.W.findIn K (.ref KC_Book) "__setattr__" = some (some (.builtin "object.__setattr__")))
    (cm_Book : PySem.W.makesIn K KC_Book = true)
    (ck_Book : PySem.W.keepIn K (.ref KC_Book) = true)
    (cb_Book : PySem.W.mroIn K KC_Book (.type "object") = some true)
    (cn_Book : PySem.W.findIn K (.ref KC_Book) "__ne__" = some (some (.builtin "object.__ne__")))
    (cc_Book : PySem.W.findIn K (.ref KC_Book) "__class__" = some (some (.builtin "object.__class__")))
    (cg_Book : PySem.W.specialIn K (.builtin "object.__class__") "__get__" = some (some (.builtin "getset_descriptor.__get__")))
    (ct_Book : PySem.W.takesIn K (.builtin "object.__class__") = some true)
    (ci_Book : PySem.W.isClsIn K KC_Book = true)
    (cy_Book : PySem.W.typeIn K (.ref KC_Book) = some (.type "type"))
    (cx_Book_words : PySem.W.findIn K (.ref KC_Book) "words" = some none)
    (da_BadNumber : PySem.W.nsIn K mainGlobals "BadNumber" = some (some (.ref KD_BadNumber)))
    (di_BadNumber : PySem.W.isClsIn K KD_BadNumber = true)
    (dy_BadNumber : PySem.W.typeIn K (.ref KD_BadNumber) = some (.type "type"))
    (da_BadWord : PySem.W.nsIn K mainGlobals "BadWord" = some (some (.ref KD_BadWord)))
    (di_BadWord : PySem.W.isClsIn K KD_BadWord = true)
    (dy_BadWord : PySem.W.typeIn K (.ref KD_BadWord) = some (.type "type"))
    (da_BadBook : PySem.W.nsIn K mainGlobals "BadBook" = some (some (.ref KD_BadBook)))
    (di_BadBook : PySem.W.isClsIn K KD_BadBook = true)
    (dy_BadBook : PySem.W.typeIn K (.ref KD_BadBook) = some (.type "type"))
    (da_BadMachine : PySem.W.nsIn K mainGlobals "BadMachine" = some (some (.ref KD_BadMachine)))
    (di_BadMachine : PySem.W.isClsIn K KD_BadMachine = true)
    (dy_BadMachine : PySem.W.typeIn K (.ref KD_BadMachine) = some (.type "type"))
    (ds_Stand_Stand : PySem.W.subIn K (.ref KC_Stand) (.ref KC_Stand) = some true)
    (ds_Book_Book : PySem.W.subIn K (.ref KC_Book) (.ref KC_Book) = some true)
    (ds_BadNumber_BadNumber : PySem.W.subIn K (.ref KD_BadNumber) (.ref KD_BadNumber) = some true)
    (ds_BadNumber_BadWord : PySem.W.subIn K (.ref KD_BadNumber) (.ref KD_BadWord) = some false)
    (ds_BadNumber_BadBook : PySem.W.subIn K (.ref KD_BadNumber) (.ref KD_BadBook) = some false)
    (ds_BadNumber_BadMachine : PySem.W.subIn K (.ref KD_BadNumber) (.ref KD_BadMachine) = some false)
    (ds_BadWord_BadNumber : PySem.W.subIn K (.ref KD_BadWord) (.ref KD_BadNumber) = some false)
    (ds_BadWord_BadWord : PySem.W.subIn K (.ref KD_BadWord) (.ref KD_BadWord) = some true)
    (ds_BadWord_BadBook : PySem.W.subIn K (.ref KD_BadWord) (.ref KD_BadBook) = some false)
    (ds_BadWord_BadMachine : PySem.W.subIn K (.ref KD_BadWord) (.ref KD_BadMachine) = some false)
    (ds_BadBook_BadNumber : PySem.W.subIn K (.ref KD_BadBook) (.ref KD_BadNumber) = some false)
    (ds_BadBook_BadWord : PySem.W.subIn K (.ref KD_BadBook) (.ref KD_BadWord) = some false)
    (ds_BadBook_BadBook : PySem.W.subIn K (.ref KD_BadBook) (.ref KD_BadBook) = some true)
    (ds_BadBook_BadMachine : PySem.W.subIn K (.ref KD_BadBook) (.ref KD_BadMachine) = some false)
    (ds_BadMachine_BadNumber : PySem.W.subIn K (.ref KD_BadMachine) (.ref KD_BadNumber) = some false)
    (ds_BadMachine_BadWord : PySem.W.subIn K (.ref KD_BadMachine) (.ref KD_BadWord) = some false)
    (ds_BadMachine_BadBook : PySem.W.subIn K (.ref KD_BadMachine) (.ref KD_BadBook) = some false)
    (ds_BadMachine_BadMachine : PySem.W.subIn K (.ref KD_BadMachine) (.ref KD_BadMachine) = some true)
    (ma0 : PySem.W.findIn K (.ref KC_Work) "__init__" = some (some (.ref mf0))) (mi0 : PySem.W.isFn K (.ref mf0) = true) (ml0 : K.lookup mf0 = some ⟨moc0, mod0, .func (PySem.W.fnOf "__init__" "Work.__init__" (defArgs s_Work_init) (defBody s_Work_init) (defScope s_Work_init) .none mkV0 mdc0 mpm0 man0 mcd0 mct0), msl0⟩) (mc0 : PySem.W.codeIn K mcd0 "Work.__init__" = true) (mk0 : PySem.W.keepIn K (.ref mf0) = true)
    (ma1 : PySem.W.findIn K (.ref KC_Book) "__init__" = some (some (.ref mf1))) (mi1 : PySem.W.isFn K (.ref mf1) = true) (ml1 : K.lookup mf1 = some ⟨moc1, mod1, .func (PySem.W.fnOf "__init__" "Book.__init__" (defArgs s_Book_init) (defBody s_Book_init) (defScope s_Book_init) .none mkV1 mdc1 mpm1 man1 mcd1 mct1), msl1⟩) (mc1 : PySem.W.codeIn K mcd1 "Book.__init__" = true) (mk1 : PySem.W.keepIn K (.ref mf1) = true)
    (ma2 : PySem.W.findIn K (.ref KC_Book) "__eq__" = some (some (.ref mf2))) (mi2 : PySem.W.isFn K (.ref mf2) = true) (ml2 : K.lookup mf2 = some ⟨moc2, mod2, .func (PySem.W.fnOf "__eq__" "Book.__eq__" (defArgs s_Book_eq) (defBody s_Book_eq) (defScope s_Book_eq) .none mkV2 mdc2 mpm2 man2 mcd2 mct2), msl2⟩) (mc2 : PySem.W.codeIn K mcd2 "Book.__eq__" = true) (mk2 : PySem.W.keepIn K (.ref mf2) = true)
    (ma3 : PySem.W.findIn K (.ref KC_Book) "number" = some (some (.ref mf3))) (mi3 : PySem.W.isFn K (.ref mf3) = true) (ml3 : K.lookup mf3 = some ⟨moc3, mod3, .func (PySem.W.fnOf "number" "Book.number" (defArgs s_Book_number) (defBody s_Book_number) (defScope s_Book_number) .none mkV3 mdc3 mpm3 man3 mcd3 mct3), msl3⟩) (mc3 : PySem.W.codeIn K mcd3 "Book.number" = true) (mk3 : PySem.W.keepIn K (.ref mf3) = true)
    (ma4 : PySem.W.findIn K (.ref KC_Stand) "__init__" = some (some (.ref mf4))) (mi4 : PySem.W.isFn K (.ref mf4) = true) (ml4 : K.lookup mf4 = some ⟨moc4, mod4, .func (PySem.W.fnOf "__init__" "Stand.__init__" (defArgs s_Stand_init) (defBody s_Stand_init) (defScope s_Stand_init) .none mkV4 mdc4 mpm4 man4 mcd4 mct4), msl4⟩) (mc4 : PySem.W.codeIn K mcd4 "Stand.__init__" = true) (mk4 : PySem.W.keepIn K (.ref mf4) = true)
    (ma5 : PySem.W.findIn K (.ref KC_Stand) "__eq__" = some (some (.ref mf5))) (mi5 : PySem.W.isFn K (.ref mf5) = true) (ml5 : K.lookup mf5 = some ⟨moc5, mod5, .func (PySem.W.fnOf "__eq__" "Stand.__eq__" (defArgs s_Stand_eq) (defBody s_Stand_eq) (defScope s_Stand_eq) .none mkV5 mdc5 mpm5 man5 mcd5 mct5), msl5⟩) (mc5 : PySem.W.codeIn K mcd5 "Stand.__eq__" = true) (mk5 : PySem.W.keepIn K (.ref mf5) = true)
    (ma6 : PySem.W.findIn K (.ref KC_Stand) "cell" = some (some (.ref mf6))) (mi6 : PySem.W.isFn K (.ref mf6) = true) (ml6 : K.lookup mf6 = some ⟨moc6, mod6, .func (PySem.W.fnOf "cell" "Stand.cell" (defArgs s_Stand_cell) (defBody s_Stand_cell) (defScope s_Stand_cell) .none mkV6 mdc6 mpm6 man6 mcd6 mct6), msl6⟩) (mc6 : PySem.W.codeIn K mcd6 "Stand.cell" = true) (mk6 : PySem.W.keepIn K (.ref mf6) = true)
    (z0 : PySem.W.nsIn K mainGlobals "isinstance" = some none)
    (z1 : PySem.W.nsIn K mainGlobals "list" = some none)
    (z2 : PySem.W.nsIn K mainGlobals "tuple" = some none)
    (z3 : PySem.W.nsIn K mainGlobals "int" = some none)
    (z4 : PySem.W.nsIn K mainGlobals "bool" = some none)
    (z5 : PySem.W.nsIn K mainGlobals "all" = some none)
    (z6 : PySem.W.nsIn K mainGlobals "str" = some none)
    (z7 : PySem.W.nsIn K mainGlobals "len" = some none)
    (z8 : PySem.W.nsIn K mainGlobals "set" = some none)
    (z9 : PySem.W.nsIn K mainGlobals "range" = some none)
    (z10 : PySem.W.nsIn K mainGlobals "sorted" = some none)
    (z11 : PySem.W.nsIn K mainGlobals "abs" = some none)
    (z12 : PySem.W.nsIn K mainGlobals "dict" = some none)
    (z13 : PySem.W.nsIn K mainGlobals "repr" = some none)
    (z14 : PySem.W.nsIn K mainGlobals "min" = some none)
    (er_BadNumber : Er K mg "BadNumber" "BadNumber.__init__" s_BadNumber_init "LetterError")
    (er_BadWord : Er K mg "BadWord" "BadWord.__init__" s_BadWord_init "LetterError")
    (er_BadBook : Er K mg "BadBook" "BadBook.__init__" s_BadBook_init "LetterError")
    (er_BadMachine : Er K mg "BadMachine" "BadMachine.__init__" s_BadMachine_init "LetterError")
    (wa_PLAIN_WORDS : PySem.W.nsIn K mainGlobals "PLAIN_WORDS" = some (some (.ref KW_PLAIN_WORDS))) (wl_PLAIN_WORDS : K.lookup KW_PLAIN_WORDS = some ⟨.type "tuple", none, .seq wi_PLAIN_WORDS wn_PLAIN_WORDS, ws_PLAIN_WORDS⟩) (wz_PLAIN_WORDS : wi_PLAIN_WORDS.size ≤ sizeLine) (wv_PLAIN_WORDS : Vals [.str "outset", .str "uplift", .str "advance", .str "prepare", .str "augment", .str "lessen", .str "multiply", .str "portion", .str "exchange", .str "inquire", .str "proclaim", .str "obtain", .str "cipher", .str "single", .str "couple", .str "tripled", .str "quarter", .str "fivefold", .str "hexagon", .str "weekday", .str "nothing", .str "duplicate", .str "deposit", .str "whether", .str "negative", .str "granted", .str "otherwise", .str "anyway", .str "journey", .str "finish"] wi_PLAIN_WORDS.toList)
    (q0 : PySem.W.nsIn K mainGlobals "MODE_ANYWAY" = some (some (.int 2 t0)))
    (q1 : PySem.W.nsIn K mainGlobals "MOST_LETTERS" = some (some (.int 12 t1)))
    (q2 : PySem.W.nsIn K mainGlobals "MOST_WORDS" = some (some (.int 40 t2))) : Tx K mg :=
  {
    f_is_list := f0
    fd_is_list := _
    F_is_list := fun_mk (st := s_is_list) l0 c0 k0
    g_is_list := PySem.W.mg_of X G a0
    b_is_list := (fun_mk (st := s_is_list) l0 c0 k0).binds (ps := ["value"]) fun _ _ _ _ _ _ us hl => match us, hl with | [_], _ => rfl
    f_is_integer := f1
    fd_is_integer := _
    F_is_integer := fun_mk (st := s_is_integer) l1 c1 k1
    g_is_integer := PySem.W.mg_of X G a1
    b_is_integer := (fun_mk (st := s_is_integer) l1 c1 k1).binds (ps := ["value"]) fun _ _ _ _ _ _ us hl => match us, hl with | [_], _ => rfl
    f_is_within := f2
    fd_is_within := _
    F_is_within := fun_mk (st := s_is_within) l2 c2 k2
    g_is_within := PySem.W.mg_of X G a2
    b_is_within := (fun_mk (st := s_is_within) l2 c2 k2).binds (ps := ["value", "least", "most"]) fun _ _ _ _ _ _ us hl => match us, hl with | [_, _, _], _ => rfl
    f_are_integers := f3
    fd_are_integers := _
    F_are_integers := fun_mk (st := s_are_integers) l3 c3 k3
    g_are_integers := PySem.W.mg_of X G a3
    b_are_integers := (fun_mk (st := s_are_integers) l3 c3 k3).binds (ps := ["value"]) fun _ _ _ _ _ _ us hl => match us, hl with | [_], _ => rfl
    f_are_letters := f4
    fd_are_letters := _
    F_are_letters := fun_mk (st := s_are_letters) l4 c4 k4
    g_are_letters := PySem.W.mg_of X G a4
    b_are_letters := (fun_mk (st := s_are_letters) l4 c4 k4).binds (ps := ["text"]) fun _ _ _ _ _ _ us hl => match us, hl with | [_], _ => rfl
    f_is_word := f5
    fd_is_word := _
    F_is_word := fun_mk (st := s_is_word) l5 c5 k5
    g_is_word := PySem.W.mg_of X G a5
    b_is_word := (fun_mk (st := s_is_word) l5 c5 k5).binds (ps := ["value"]) fun _ _ _ _ _ _ us hl => match us, hl with | [_], _ => rfl
    f_are_words := f6
    fd_are_words := _
    F_are_words := fun_mk (st := s_are_words) l6 c6 k6
    g_are_words := PySem.W.mg_of X G a6
    b_are_words := (fun_mk (st := s_are_words) l6 c6 k6).binds (ps := ["value", "most"]) fun _ _ _ _ _ _ us hl => match us, hl with | [_, _], _ => rfl
    f_plain_words := f7
    fd_plain_words := _
    F_plain_words := fun_mk (st := s_plain_words) l7 c7 k7
    g_plain_words := PySem.W.mg_of X G a7
    b_plain_words := (fun_mk (st := s_plain_words) l7 c7 k7).binds (ps := []) fun _ _ _ _ _ _ us hl => match us, hl with | [], _ => rfl
    f_plain_book := f8
    fd_plain_book := _
    F_plain_book := fun_mk (st := s_plain_book) l8 c8 k8
    g_plain_book := PySem.W.mg_of X G a8
    b_plain_book := (fun_mk (st := s_plain_book) l8 c8 k8).binds (ps := []) fun _ _ _ _ _ _ us hl => match us, hl with | [], _ => rfl
    f_is_truth := f9
    fd_is_truth := _
    F_is_truth := fun_mk (st := s_is_truth) l9 c9 k9
    g_is_truth := PySem.W.mg_of X G a9
    b_is_truth := (fun_mk (st := s_is_truth) l9 c9 k9).binds (ps := ["value"]) fun _ _ _ _ _ _ us hl => match us, hl with | [_], _ => rfl
    f_is_pair := f10
    fd_is_pair := _
    F_is_pair := fun_mk (st := s_is_pair) l10 c10 k10
    g_is_pair := PySem.W.mg_of X G a10
    b_is_pair := (fun_mk (st := s_is_pair) l10 c10 k10).binds (ps := ["value"]) fun _ _ _ _ _ _ us hl => match us, hl with | [_], _ => rfl
    f_are_cells := f11
    fd_are_cells := _
    F_are_cells := fun_mk (st := s_are_cells) l11 c11 k11
    g_are_cells := PySem.W.mg_of X G a11
    b_are_cells := (fun_mk (st := s_are_cells) l11 c11 k11).binds (ps := ["value"]) fun _ _ _ _ _ _ us hl => match us, hl with | [_], _ => rfl
    f_attributes_of := f12
    fd_attributes_of := _
    F_attributes_of := fun_mk (st := s_attributes_of) l12 c12 k12
    g_attributes_of := PySem.W.mg_of X G a12
    b_attributes_of := (fun_mk (st := s_attributes_of) l12 c12 k12).binds (ps := ["stand"]) fun _ _ _ _ _ _ us hl => match us, hl with | [_], _ => rfl
    f_stand_of := f13
    fd_stand_of := _
    F_stand_of := fun_mk (st := s_stand_of) l13 c13 k13
    g_stand_of := PySem.W.mg_of X G a13
    b_stand_of := (fun_mk (st := s_stand_of) l13 c13 k13).binds (ps := ["work"]) fun _ _ _ _ _ _ us hl => match us, hl with | [_], _ => rfl
    f_begun := f14
    fd_begun := _
    F_begun := fun_mk (st := s_begun) l14 c14 k14
    g_begun := PySem.W.mg_of X G a14
    b_begun := (fun_mk (st := s_begun) l14 c14 k14).binds (ps := []) fun _ _ _ _ _ _ us hl => match us, hl with | [], _ => rfl
    f_law_shelf := f15
    fd_law_shelf := _
    F_law_shelf := fun_mk (st := s_law_shelf) l15 c15 k15
    g_law_shelf := PySem.W.mg_of X G a15
    b_law_shelf := (fun_mk (st := s_law_shelf) l15 c15 k15).binds (ps := ["script"]) fun _ _ _ _ _ _ us hl => match us, hl with | [_], _ => rfl
    f_law_deal := f16
    fd_law_deal := _
    F_law_deal := fun_mk (st := s_law_deal) l16 c16 k16
    g_law_deal := PySem.W.mg_of X G a16
    b_law_deal := (fun_mk (st := s_law_deal) l16 c16 k16).binds (ps := ["shelf", "many"]) fun _ _ _ _ _ _ us hl => match us, hl with | [_, _], _ => rfl
    f_law_pick := f17
    fd_law_pick := _
    F_law_pick := fun_mk (st := s_law_pick) l17 c17 k17
    g_law_pick := PySem.W.mg_of X G a17
    b_law_pick := (fun_mk (st := s_law_pick) l17 c17 k17).binds (ps := ["shelf", "some"]) fun _ _ _ _ _ _ us hl => match us, hl with | [_, _], _ => rfl
    f_law_words := f18
    fd_law_words := _
    F_law_words := fun_mk (st := s_law_words) l18 c18 k18
    g_law_words := PySem.W.mg_of X G a18
    b_law_words := (fun_mk (st := s_law_words) l18 c18 k18).binds (ps := []) fun _ _ _ _ _ _ us hl => match us, hl with | [], _ => rfl
    f_law_number := f19
    fd_law_number := _
    F_law_number := fun_mk (st := s_law_number) l19 c19 k19
    g_law_number := PySem.W.mg_of X G a19
    b_law_number := (fun_mk (st := s_law_number) l19 c19 k19).binds (ps := ["shelf"]) fun _ _ _ _ _ _ us hl => match us, hl with | [_], _ => rfl
    f_law_parts := f20
    fd_law_parts := _
    F_law_parts := fun_mk (st := s_law_parts) l20 c20 k20
    g_law_parts := PySem.W.mg_of X G a20
    b_law_parts := (fun_mk (st := s_law_parts) l20 c20 k20).binds (ps := ["shelf"]) fun _ _ _ _ _ _ us hl => match us, hl with | [_], _ => rfl
    f_law_made := f21
    fd_law_made := _
    F_law_made := fun_mk (st := s_law_made) l21 c21 k21
    g_law_made := PySem.W.mg_of X G a21
    b_law_made := (fun_mk (st := s_law_made) l21 c21 k21).binds (ps := ["parts"]) fun _ _ _ _ _ _ us hl => match us, hl with | [_], _ => rfl
    f_law_named := f22
    fd_law_named := _
    F_law_named := fun_mk (st := s_law_named) l22 c22 k22
    g_law_named := PySem.W.mg_of X G a22
    b_law_named := (fun_mk (st := s_law_named) l22 c22 k22).binds (ps := ["parts"]) fun _ _ _ _ _ _ us hl => match us, hl with | [_], _ => rfl
    f_law_seen := f23
    fd_law_seen := _
    F_law_seen := fun_mk (st := s_law_seen) l23 c23 k23
    g_law_seen := PySem.W.mg_of X G a23
    b_law_seen := (fun_mk (st := s_law_seen) l23 c23 k23).binds (ps := ["stand"]) fun _ _ _ _ _ _ us hl => match us, hl with | [_], _ => rfl
    f_law_spoilt := f24
    fd_law_spoilt := _
    F_law_spoilt := fun_mk (st := s_law_spoilt) l24 c24 k24
    g_law_spoilt := PySem.W.mg_of X G a24
    b_law_spoilt := (fun_mk (st := s_law_spoilt) l24 c24 k24).binds (ps := ["shelf", "at"]) fun _ _ _ _ _ _ us hl => match us, hl with | [_, _], _ => rfl
    f_law_changed := f25
    fd_law_changed := _
    F_law_changed := fun_mk (st := s_law_changed) l25 c25 k25
    g_law_changed := PySem.W.mg_of X G a25
    b_law_changed := (fun_mk (st := s_law_changed) l25 c25 k25).binds (ps := ["part", "place"]) fun _ _ _ _ _ _ us hl => match us, hl with | [_, _], _ => rfl
    f_law_stands_right := f26
    fd_law_stands_right := _
    F_law_stands_right := fun_mk (st := s_law_stands_right) l26 c26 k26
    g_law_stands_right := PySem.W.mg_of X G a26
    b_law_stands_right := (fun_mk (st := s_law_stands_right) l26 c26 k26).binds (ps := ["shelf"]) fun _ _ _ _ _ _ us hl => match us, hl with | [_], _ => rfl
    f_law_no_cell := f27
    fd_law_no_cell := _
    F_law_no_cell := fun_mk (st := s_law_no_cell) l27 c27 k27
    g_law_no_cell := PySem.W.mg_of X G a27
    b_law_no_cell := (fun_mk (st := s_law_no_cell) l27 c27 k27).binds (ps := ["shelf"]) fun _ _ _ _ _ _ us hl => match us, hl with | [_], _ => rfl
    f_law := f28
    fd_law := _
    F_law := fun_mk (st := s_law) l28 c28 k28
    g_law := PySem.W.mg_of X G a28
    b_law := (fun_mk (st := s_law) l28 c28 k28).binds (ps := ["script"]) fun _ _ _ _ _ _ us hl => match us, hl with | [_], _ => rfl
    f_Work_init := mf0
    fd_Work_init := _
    F_Work_init := fun_mk (st := s_Work_init) ml0 mc0 mk0
    b_Work_init := (fun_mk (st := s_Work_init) ml0 mc0 mk0).binds (ps := ["self", "numbers"]) fun _ _ _ _ _ _ us hl => match us, hl with | [_, _], _ => rfl
    mk_Work := ⟨cm_Work, ma0, mi0, ck_Work⟩
    f_Book_init := mf1
    fd_Book_init := _
    F_Book_init := fun_mk (st := s_Book_init) ml1 mc1 mk1
    b_Book_init := (fun_mk (st := s_Book_init) ml1 mc1 mk1).binds (ps := ["self", "words"]) fun _ _ _ _ _ _ us hl => match us, hl with | [_, _], _ => rfl
    mk_Book := ⟨cm_Book, ma1, mi1, ck_Book⟩
    f_Book_eq := mf2
    fd_Book_eq := _
    F_Book_eq := fun_mk (st := s_Book_eq) ml2 mc2 mk2
    b_Book_eq := (fun_mk (st := s_Book_eq) ml2 mc2 mk2).binds (ps := ["self", "other"]) fun _ _ _ _ _ _ us hl => match us, hl with | [_, _], _ => rfl
    me_Book_eq := ⟨ma2, mi2, mk2⟩
    f_Book_number := mf3
    fd_Book_number := _
    F_Book_number := fun_mk (st := s_Book_number) ml3 mc3 mk3
    b_Book_number := (fun_mk (st := s_Book_number) ml3 mc3 mk3).binds (ps := ["self", "word"]) fun _ _ _ _ _ _ us hl => match us, hl with | [_, _], _ => rfl
    me_Book_number := ⟨ma3, mi3, mk3⟩
    f_Stand_init := mf4
    fd_Stand_init := _
    F_Stand_init := fun_mk (st := s_Stand_init) ml4 mc4 mk4
    b_Stand_init := (fun_mk (st := s_Stand_init) ml4 mc4 mk4).binds (ps := ["self", "block", "room", "tick", "flag", "test", "mode", "first", "second", "cells", "heard", "said", "is_done"]) fun _ _ _ _ _ _ us hl => match us, hl with | [_, _, _, _, _, _, _, _, _, _, _, _, _], _ => rfl
    mk_Stand := ⟨cm_Stand, ma4, mi4, ck_Stand⟩
    f_Stand_eq := mf5
    fd_Stand_eq := _
    F_Stand_eq := fun_mk (st := s_Stand_eq) ml5 mc5 mk5
    b_Stand_eq := (fun_mk (st := s_Stand_eq) ml5 mc5 mk5).binds (ps := ["self", "other"]) fun _ _ _ _ _ _ us hl => match us, hl with | [_, _], _ => rfl
    me_Stand_eq := ⟨ma5, mi5, mk5⟩
    f_Stand_cell := mf6
    fd_Stand_cell := _
    F_Stand_cell := fun_mk (st := s_Stand_cell) ml6 mc6 mk6
    b_Stand_cell := (fun_mk (st := s_Stand_cell) ml6 mc6 mk6).binds (ps := ["self", "place"]) fun _ _ _ _ _ _ us hl => match us, hl with | [_, _], _ => rfl
    me_Stand_cell := ⟨ma6, mi6, mk6⟩
    na_Stand_block := cx_Stand_block
    na_Stand_room := cx_Stand_room
    na_Stand_tick := cx_Stand_tick
    na_Stand_flag := cx_Stand_flag
    na_Stand_test := cx_Stand_test
    na_Stand_mode := cx_Stand_mode
    na_Stand_first := cx_Stand_first
    na_Stand_second := cx_Stand_second
    na_Stand_cells := cx_Stand_cells
    na_Stand_heard := cx_Stand_heard
    na_Stand_said := cx_Stand_said
    na_Stand_is_done := cx_Stand_is_done
    C_Stand := KC_Stand
    gC_Stand := PySem.W.mg_of X G ca_Stand
    cl_Stand := ⟨cp_Stand, cd_Stand, co_Stand, cs_Stand⟩
    ob_Stand := cb_Stand
    ne_Stand := cn_Stand
    oc_Stand := cc_Stand
    on_Stand := cg_Stand
    ot_Stand := ct_Stand
    kc_Stand := ci_Stand
    kt_Stand := cy_Stand
    na_Work_numbers := cx_Work_numbers
    na_Work_block := cx_Work_block
    na_Work_room := cx_Work_room
    na_Work_tick := cx_Work_tick
    na_Work_flag := cx_Work_flag
    na_Work_test := cx_Work_test
    na_Work_mode := cx_Work_mode
    na_Work_first := cx_Work_first
    na_Work_second := cx_Work_second
    na_Work_cells := cx_Work_cells
    na_Work_heard := cx_Work_heard
    na_Work_said := cx_Work_said
    na_Work_is_done := cx_Work_is_done
    C_Work := KC_Work
    gC_Work := PySem.W.mg_of X G ca_Work
    cl_Work := ⟨cp_Work, cd_Work, co_Work, cs_Work⟩
    ob_Work := cb_Work
    ne_Work := cn_Work
    oc_Work := cc_Work
    on_Work := cg_Work
    ot_Work := ct_Work
    kc_Work := ci_Work
    kt_Work := cy_Work
    na_Book_words := cx_Book_words
    C_Book := KC_Book
    gC_Book := PySem.W.mg_of X G ca_Book
    cl_Book := ⟨cp_Book, cd_Book, co_Book, cs_Book⟩
    ob_Book := cb_Book
    ne_Book := cn_Book
    oc_Book := cc_Book
    on_Book := cg_Book
    ot_Book := ct_Book
    kc_Book := ci_Book
    kt_Book := cy_Book
    k_BadNumber := KD_BadNumber
    gk_BadNumber := PySem.W.mg_of X G da_BadNumber
    kc_BadNumber := di_BadNumber
    kt_BadNumber := dy_BadNumber
    k_BadWord := KD_BadWord
    gk_BadWord := PySem.W.mg_of X G da_BadWord
    kc_BadWord := di_BadWord
    kt_BadWord := dy_BadWord
    k_BadBook := KD_BadBook
    gk_BadBook := PySem.W.mg_of X G da_BadBook
    kc_BadBook := di_BadBook
    kt_BadBook := dy_BadBook
    k_BadMachine := KD_BadMachine
    gk_BadMachine := PySem.W.mg_of X G da_BadMachine
    kc_BadMachine := di_BadMachine
    kt_BadMachine := dy_BadMachine
    su_Stand_Stand := ds_Stand_Stand
    su_Book_Book := ds_Book_Book
    su_BadNumber_BadNumber := ds_BadNumber_BadNumber
    su_BadNumber_BadWord := ds_BadNumber_BadWord
    su_BadNumber_BadBook := ds_BadNumber_BadBook
    su_BadNumber_BadMachine := ds_BadNumber_BadMachine
    su_BadWord_BadNumber := ds_BadWord_BadNumber
    su_BadWord_BadWord := ds_BadWord_BadWord
    su_BadWord_BadBook := ds_BadWord_BadBook
    su_BadWord_BadMachine := ds_BadWord_BadMachine
    su_BadBook_BadNumber := ds_BadBook_BadNumber
    su_BadBook_BadWord := ds_BadBook_BadWord
    su_BadBook_BadBook := ds_BadBook_BadBook
    su_BadBook_BadMachine := ds_BadBook_BadMachine
    su_BadMachine_BadNumber := ds_BadMachine_BadNumber
    su_BadMachine_BadWord := ds_BadMachine_BadWord
    su_BadMachine_BadBook := ds_BadMachine_BadBook
    su_BadMachine_BadMachine := ds_BadMachine_BadMachine
    m_isinstance := PySem.W.mg_none_of X G z0
    m_list := PySem.W.mg_none_of X G z1
    m_tuple := PySem.W.mg_none_of X G z2
    m_int := PySem.W.mg_none_of X G z3
    m_bool := PySem.W.mg_none_of X G z4
    m_all := PySem.W.mg_none_of X G z5
    m_str := PySem.W.mg_none_of X G z6
    m_len := PySem.W.mg_none_of X G z7
    m_set := PySem.W.mg_none_of X G z8
    m_range := PySem.W.mg_none_of X G z9
    m_sorted := PySem.W.mg_none_of X G z10
    m_abs := PySem.W.mg_none_of X G z11
    m_dict := PySem.W.mg_none_of X G z12
    m_repr := PySem.W.mg_none_of X G z13
    m_min := PySem.W.mg_none_of X G z14
    e_BadNumber := er_BadNumber
    e_BadWord := er_BadWord
    e_BadBook := er_BadBook
    e_BadMachine := er_BadMachine
    D_PLAIN_WORDS := KW_PLAIN_WORDS
    gD_PLAIN_WORDS := PySem.W.mg_of X G wa_PLAIN_WORDS
    tD_PLAIN_WORDS := fun _ => .inr ⟨_, wi_PLAIN_WORDS, wn_PLAIN_WORDS, wl_PLAIN_WORDS, rfl, rfl, wz_PLAIN_WORDS, wv_PLAIN_WORDS⟩
    nD_PLAIN_WORDS := ⟨_, wl_PLAIN_WORDS, rfl, rfl⟩
    t_MODE_ANYWAY := t0
    c_MODE_ANYWAY := PySem.W.mg_of X G q0
    t_MOST_LETTERS := t1
    c_MOST_LETTERS := PySem.W.mg_of X G q1
    t_MOST_WORDS := t2
    c_MOST_WORDS := PySem.W.mg_of X G q2 }
end K28
open PySem PySem.W PyProof.Rows
set_option maxHeartbeats 0 in
theorem PySem.Challenge.cw_anyletter_k28_words_and_stands_holds : PySem.Challenge.rw_anyletter_k28_words_and_stands.Holds := by
  w_on; o_law; k_head; (case hw => w_witness2)
  k_fill
  refine Kx.walkG (l := PySem.Challenge.rw_anyletter_k28_words_and_stands) (n := 63) (k := 10) (x := "script") (sp := K28.sp_law) rfl (by decide) rfl ⟨rfl, by decide, by decide⟩ (fun w h Y => PySem.W.kIn_of Y) ?FF (fun K H a ns hl ho hS => ⟨a, ns, rfl, hS, fun _ => rfl⟩)
  case FF =>
    intro w mg fa h KX G hmg
    refine' Kx.useIt (K28.tx_mk KX G ?a0 ?l0 ?c0 ?k0 ?a1 ?l1 ?c1 ?k1 ?a2 ?l2 ?c2 ?k2 ?a3 ?l3 ?c3 ?k3 ?a4 ?l4 ?c4 ?k4 ?a5 ?l5 ?c5 ?k5 ?a6 ?l6 ?c6 ?k6 ?a7 ?l7 ?c7 ?k7 ?a8 ?l8 ?c8 ?k8 ?a9 ?l9 ?c9 ?k9 ?a10 ?l10 ?c10 ?k10 ?a11 ?l11 ?c11 ?k11 ?a12 ?l12 ?c12 ?k12 ?a13 ?l13 ?c13 ?k13 ?a14 ?l14 ?c14 ?k14 ?a15 ?l15 ?c15 ?k15 ?a16 ?l16 ?c16 ?k16 ?a17 ?l17 ?c17 ?k17 ?a18 ?l18 ?c18 ?k18 ?a19 ?l19 ?c19 ?k19 ?a20 ?l20 ?c20 ?k20 ?a21 ?l21 ?c21 ?k21 ?a22 ?l22 ?c22 ?k22 ?a23 ?l23 ?c23 ?k23 ?a24 ?l24 ?c24 ?k24 ?a25 ?l25 ?c25 ?k25 ?a26 ?l26 ?c26 ?k26 ?a27 ?l27 ?c27 ?k27 ?a28 ?l28 ?c28 ?k28 ?ca_Stand ?cp_Stand ?cd_Stand ?co_Stand ?cs_Stand ?cm_Stand ?ck_Stand ?cb_Stand ?cn_Stand ?cc_Stand ?cg_Stand ?ct_Stand ?ci_Stand ?cy_Stand ?cx_Stand_block ?cx_Stand_room ?cx_Stand_tick ?cx_Stand_flag ?cx_Stand_test ?cx_Stand_mode ?cx_Stand_first ?cx_Stand_second ?cx_Stand_cells ?cx_Stand_heard ?cx_Stand_said ?cx_Stand_is_done ?ca_Work ?cp_Work ?cd_Work ?co_Work ?cs_Work ?cm_Work ?ck_Work ?cb_Work ?cn_Work ?cc_Work ?cg_Work ?ct_Work ?ci_Work ?cy_Work ?cx_Work_numbers ?cx_Work_block ?cx_Work_room ?cx_Work_tick ?cx_Work_flag ?cx_Work_test ?cx_Work_mode ?cx_Work_first ?cx_Work_second ?cx_Work_cells ?cx_Work_heard ?cx_Work_said ?cx_Work_is_done ?ca_Book ?cp_Book ?cd_Book ?co_Book ?cs_Book ?cm_Book ?ck_Book ?cb_Book ?cn_Book ?cc_Book ?cg_Book ?ct_Book ?ci_Book ?cy_Book ?cx_Book_words ?da_BadNumber ?di_BadNumber ?dy_BadNumber ?da_BadWord ?di_BadWord ?dy_BadWord ?da_BadBook ?di_BadBook ?dy_BadBook ?da_BadMachine ?di_BadMachine ?dy_BadMachine ?ds_Stand_Stand ?ds_Book_Book ?ds_BadNumber_BadNumber ?ds_BadNumber_BadWord ?ds_BadNumber_BadBook ?ds_BadNumber_BadMachine ?ds_BadWord_BadNumber ?ds_BadWord_BadWord ?ds_BadWord_BadBook ?ds_BadWord_BadMachine ?ds_BadBook_BadNumber ?ds_BadBook_BadWord ?ds_BadBook_BadBook ?ds_BadBook_BadMachine ?ds_BadMachine_BadNumber ?ds_BadMachine_BadWord ?ds_BadMachine_BadBook ?ds_BadMachine_BadMachine ?ma0 ?mi0 ?ml0 ?mc0 ?mk0 ?ma1 ?mi1 ?ml1 ?mc1 ?mk1 ?ma2 ?mi2 ?ml2 ?mc2 ?mk2 ?ma3 ?mi3 ?ml3 ?mc3 ?mk3 ?ma4 ?mi4 ?ml4 ?mc4 ?mk4 ?ma5 ?mi5 ?ml5 ?mc5 ?mk5 ?ma6 ?mi6 ?ml6 ?mc6 ?mk6 ?z0 ?z1 ?z2 ?z3 ?z4 ?z5 ?z6 ?z7 ?z8 ?z9 ?z10 ?z11 ?z12 ?z13 ?z14 ?er_BadNumber ?er_BadWord ?er_BadBook ?er_BadMachine ?wa_PLAIN_WORDS ?wl_PLAIN_WORDS ?wz_PLAIN_WORDS ?wv_PLAIN_WORDS ?q0 ?q1 ?q2) (fun T => ?main)
    (case a0 => k_is)
    (case l0 => k_is)
    (case c0 => k_is)
    (case k0 => k_is)
    (case a1 => k_is)
    (case l1 => k_is)
    (case c1 => k_is)
    (case k1 => k_is)
    (case a2 => k_is)
    (case l2 => k_is)
    (case c2 => k_is)
    (case k2 => k_is)
    (case a3 => k_is)
    (case l3 => k_is)
    (case c3 => k_is)
    (case k3 => k_is)
    (case a4 => k_is)
    (case l4 => k_is)
    (case c4 => k_is)
    (case k4 => k_is)
    (case a5 => k_is)
    (case l5 => k_is)
    (case c5 => k_is)
    (case k5 => k_is)
    (case a6 => k_is)
    (case l6 => k_is)
    (case c6 => k_is)
    (case k6 => k_is)
    (case a7 => k_is)
    (case l7 => k_is)
    (case c7 => k_is)
    (case k7 => k_is)
    (case a8 => k_is)
    (case l8 => k_is)
    (case c8 => k_is)
    (case k8 => k_is)
    (case a9 => k_is)
    (case l9 => k_is)
    (case c9 => k_is)
    (case k9 => k_is)
    (case a10 => k_is)
    (case l10 => k_is)
    (case c10 => k_is)
    (case k10 => k_is)
    (case a11 => k_is)
    (case l11 => k_is)
    (case c11 => k_is)
    (case k11 => k_is)
    (case a12 => k_is)
    (case l12 => k_is)
    (case c12 => k_is)
    (case k12 => k_is)
    (case a13 => k_is)
    (case l13 => k_is)
    (case c13 => k_is)
    (case k13 => k_is)
    (case a14 => k_is)
    (case l14 => k_is)
    (case c14 => k_is)
    (case k14 => k_is)
    (case a15 => k_is)
    (case l15 => k_is)
    (case c15 => k_is)
    (case k15 => k_is)
    (case a16 => k_is)
    (case l16 => k_is)
    (case c16 => k_is)
    (case k16 => k_is)
    (case a17 => k_is)
    (case l17 => k_is)
    (case c17 => k_is)
    (case k17 => k_is)
    (case a18 => k_is)
    (case l18 => k_is)
    (case c18 => k_is)
    (case k18 => k_is)
    (case a19 => k_is)
    (case l19 => k_is)
    (case c19 => k_is)
    (case k19 => k_is)
    (case a20 => k_is)
    (case l20 => k_is)
    (case c20 => k_is)
    (case k20 => k_is)
    (case a21 => k_is)
    (case l21 => k_is)
    (case c21 => k_is)
    (case k21 => k_is)
    (case a22 => k_is)
    (case l22 => k_is)
    (case c22 => k_is)
    (case k22 => k_is)
    (case a23 => k_is)
    (case l23 => k_is)
    (case c23 => k_is)
    (case k23 => k_is)
    (case a24 => k_is)
    (case l24 => k_is)
    (case c24 => k_is)
    (case k24 => k_is)
    (case a25 => k_is)
    (case l25 => k_is)
    (case c25 => k_is)
    (case k25 => k_is)
    (case a26 => k_is)
    (case l26 => k_is)
    (case c26 => k_is)
    (case k26 => k_is)
    (case a27 => k_is)
    (case l27 => k_is)
    (case c27 => k_is)
    (case k27 => k_is)
    (case a28 => k_is)
    (case l28 => k_is)
    (case c28 => k_is)
    (case k28 => k_is)
    (case ca_Stand => k_is)
    (case cp_Stand => k_is)
    (case cd_Stand => k_is)
    (case co_Stand => k_is)
    (case cs_Stand => k_is)
    (case cm_Stand => k_is)
    (case ck_Stand => k_is)
    (case cb_Stand => k_is)
    (case cn_Stand => k_is)
    (case cc_Stand => k_is)
    (case cg_Stand => k_is)
    (case ct_Stand => k_is)
    (case ci_Stand => k_is)
    (case cy_Stand => k_is)
    (case cx_Stand_block => k_is)
    (case cx_Stand_room => k_is)
    (case cx_Stand_tick => k_is)
    (case cx_Stand_flag => k_is)
    (case cx_Stand_test => k_is)
    (case cx_Stand_mode => k_is)
    (case cx_Stand_first => k_is)
    (case cx_Stand_second => k_is)
    (case cx_Stand_cells => k_is)
    (case cx_Stand_heard => k_is)
    (case cx_Stand_said => k_is)
    (case cx_Stand_is_done => k_is)
    (case ca_Work => k_is)
    (case cp_Work => k_is)
    (case cd_Work => k_is)
    (case co_Work => k_is)
    (case cs_Work => k_is)
    (case cm_Work => k_is)
    (case ck_Work => k_is)
    (case cb_Work => k_is)
    (case cn_Work => k_is)
    (case cc_Work => k_is)
    (case cg_Work => k_is)
    (case ct_Work => k_is)
    (case ci_Work => k_is)
    (case cy_Work => k_is)
    (case cx_Work_numbers => k_is)
    (case cx_Work_block => k_is)
    (case cx_Work_room => k_is)
    (case cx_Work_tick => k_is)
    (case cx_Work_flag => k_is)
    (case cx_Work_test => k_is)
    (case cx_Work_mode => k_is)
    (case cx_Work_first => k_is)
    (case cx_Work_second => k_is)
    (case cx_Work_cells => k_is)
    (case cx_Work_heard => k_is)
    (case cx_Work_said => k_is)
    (case cx_Work_is_done => k_is)
    (case ca_Book => k_is)
    (case cp_Book => k_is)
    (case cd_Book => k_is)
    (case co_Book => k_is)
    (case cs_Book => k_is)
    (case cm_Book => k_is)
    (case ck_Book => k_is)
    (case cb_Book => k_is)
    (case cn_Book => k_is)
    (case cc_Book => k_is)
    (case cg_Book => k_is)
    (case ct_Book => k_is)
    (case ci_Book => k_is)
    (case cy_Book => k_is)
    (case cx_Book_words => k_is)
    (case da_BadNumber => k_is)
    (case di_BadNumber => k_is)
    (case dy_BadNumber => k_is)
    (case da_BadWord => k_is)
    (case di_BadWord => k_is)
    (case dy_BadWord => k_is)
    (case da_BadBook => k_is)
    (case di_BadBook => k_is)
    (case dy_BadBook => k_is)
    (case da_BadMachine => k_is)
    (case di_BadMachine => k_is)
    (case dy_BadMachine => k_is)
    (case ds_Stand_Stand => k_is)
    (case ds_Book_Book => k_is)
    (case ds_BadNumber_BadNumber => k_is)
    (case ds_BadNumber_BadWord => k_is)
    (case ds_BadNumber_BadBook => k_is)
    (case ds_BadNumber_BadMachine => k_is)
    (case ds_BadWord_BadNumber => k_is)
    (case ds_BadWord_BadWord => k_is)
    (case ds_BadWord_BadBook => k_is)
    (case ds_BadWord_BadMachine => k_is)
    (case ds_BadBook_BadNumber => k_is)
    (case ds_BadBook_BadWord => k_is)
    (case ds_BadBook_BadBook => k_is)
    (case ds_BadBook_BadMachine => k_is)
    (case ds_BadMachine_BadNumber => k_is)
    (case ds_BadMachine_BadWord => k_is)
    (case ds_BadMachine_BadBook => k_is)
    (case ds_BadMachine_BadMachine => k_is)
    (case ma0 => k_is)
    (case mi0 => k_is)
    (case ml0 => k_is)
    (case mc0 => k_is)
    (case mk0 => k_is)
    (case ma1 => k_is)
    (case mi1 => k_is)
    (case ml1 => k_is)
    (case mc1 => k_is)
    (case mk1 => k_is)
    (case ma2 => k_is)
    (case mi2 => k_is)
    (case ml2 => k_is)
    (case mc2 => k_is)
    (case mk2 => k_is)
    (case ma3 => k_is)
    (case mi3 => k_is)
    (case ml3 => k_is)
    (case mc3 => k_is)
    (case mk3 => k_is)
    (case ma4 => k_is)
    (case mi4 => k_is)
    (case ml4 => k_is)
    (case mc4 => k_is)
    (case mk4 => k_is)
    (case ma5 => k_is)
    (case mi5 => k_is)
    (case ml5 => k_is)
    (case mc5 => k_is)
    (case mk5 => k_is)
    (case ma6 => k_is)
    (case mi6 => k_is)
    (case ml6 => k_is)
    (case mc6 => k_is)
    (case mk6 => k_is)
    (case z0 => k_is)
    (case z1 => k_is)
    (case z2 => k_is)
    (case z3 => k_is)
    (case z4 => k_is)
    (case z5 => k_is)
    (case z6 => k_is)
    (case z7 => k_is)
    (case z8 => k_is)
    (case z9 => k_is)
    (case z10 => k_is)
    (case z11 => k_is)
    (case z12 => k_is)
    (case z13 => k_is)
    (case z14 => k_is)
    (case er_BadNumber =>
      refine' Kx.er_mk KX G ?waC ?waL ?wxL ?whbm ?wsa ?weC ?wtC ?wkC ?wa1 ?wt1 ?wl1 ?wc1 ?wk1 ?wb1 ?wnb ?wga ?wgg ?whd ?whc ?whn ?wht ?whm ?weL ?wdL ?wtL ?wsCL
      (case waC => k_is); (case waL => k_is); (case wxL => k_is); (case whbm => rfl); (case wsa => k_is); (case weC => k_is); (case wtC => k_is); (case wkC => k_is); (case wa1 => k_is); (case wt1 => k_is); (case wl1 => k_is); (case wc1 => k_is); (case wk1 => k_is)
      (case wb1 => exact fun _ _ _ _ _ _ us hl => match us, hl with | [_, _], _ => rfl)
      (case wnb => k_is); (case wga => k_is); (case wgg => k_is); (case whd => k_is); (case whc => k_is); (case whn => k_is); (case wht => k_is); (case whm => k_is); (case weL => k_is); (case wdL => k_is); (case wtL => k_is); (case wsCL => k_is))
    (case er_BadWord =>
      refine' Kx.er_mk KX G ?waC ?waL ?wxL ?whbm ?wsa ?weC ?wtC ?wkC ?wa1 ?wt1 ?wl1 ?wc1 ?wk1 ?wb1 ?wnb ?wga ?wgg ?whd ?whc ?whn ?wht ?whm ?weL ?wdL ?wtL ?wsCL
      (case waC => k_is); (case waL => k_is); (case wxL => k_is); (case whbm => rfl); (case wsa => k_is); (case weC => k_is); (case wtC => k_is); (case wkC => k_is); (case wa1 => k_is); (case wt1 => k_is); (case wl1 => k_is); (case wc1 => k_is); (case wk1 => k_is)
      (case wb1 => exact fun _ _ _ _ _ _ us hl => match us, hl with | [_, _], _ => rfl)
      (case wnb => k_is); (case wga => k_is); (case wgg => k_is); (case whd => k_is); (case whc => k_is); (case whn => k_is); (case wht => k_is); (case whm => k_is); (case weL => k_is); (case wdL => k_is); (case wtL => k_is); (case wsCL => k_is))
    (case er_BadBook =>
      refine' Kx.er_mk KX G ?waC ?waL ?wxL ?whbm ?wsa ?weC ?wtC ?wkC ?wa1 ?wt1 ?wl1 ?wc1 ?wk1 ?wb1 ?wnb ?wga ?wgg ?whd ?whc ?whn ?wht ?whm ?weL ?wdL ?wtL ?wsCL
      (case waC => k_is); (case waL => k_is); (case wxL => k_is); (case whbm => rfl); (case wsa => k_is); (case weC => k_is); (case wtC => k_is); (case wkC => k_is); (case wa1 => k_is); (case wt1 => k_is); (case wl1 => k_is); (case wc1 => k_is); (case wk1 => k_is)
      (case wb1 => exact fun _ _ _ _ _ _ us hl => match us, hl with | [_, _], _ => rfl)
      (case wnb => k_is); (case wga => k_is); (case wgg => k_is); (case whd => k_is); (case whc => k_is); (case whn => k_is); (case wht => k_is); (case whm => k_is); (case weL => k_is); (case wdL => k_is); (case wtL => k_is); (case wsCL => k_is))
    (case er_BadMachine =>
      refine' Kx.er_mk KX G ?waC ?waL ?wxL ?whbm ?wsa ?weC ?wtC ?wkC ?wa1 ?wt1 ?wl1 ?wc1 ?wk1 ?wb1 ?wnb ?wga ?wgg ?whd ?whc ?whn ?wht ?whm ?weL ?wdL ?wtL ?wsCL
      (case waC => k_is); (case waL => k_is); (case wxL => k_is); (case whbm => rfl); (case wsa => k_is); (case weC => k_is); (case wtC => k_is); (case wkC => k_is); (case wa1 => k_is); (case wt1 => k_is); (case wl1 => k_is); (case wc1 => k_is); (case wk1 => k_is)
      (case wb1 => exact fun _ _ _ _ _ _ us hl => match us, hl with | [_, _], _ => rfl)
      (case wnb => k_is); (case wga => k_is); (case wgg => k_is); (case whd => k_is); (case whc => k_is); (case whn => k_is); (case wht => k_is); (case whm => k_is); (case weL => k_is); (case wdL => k_is); (case wtL => k_is); (case wsCL => k_is))
    (case wa_PLAIN_WORDS => k_is)
    (case wl_PLAIN_WORDS => k_is)
    (case wz_PLAIN_WORDS => first | decide | decide +kernel | (exact Nat.le_of_ble_eq_true rfl))
    (case wv_PLAIN_WORDS => exact .cons ⟨_, rfl⟩ (.cons ⟨_, rfl⟩ (.cons ⟨_, rfl⟩ (.cons ⟨_, rfl⟩ (.cons ⟨_, rfl⟩ (.cons ⟨_, rfl⟩ (.cons ⟨_, rfl⟩ (.cons ⟨_, rfl⟩ (.cons ⟨_, rfl⟩ (.cons ⟨_, rfl⟩ (.cons ⟨_, rfl⟩ (.cons ⟨_, rfl⟩ (.cons ⟨_, rfl⟩ (.cons ⟨_, rfl⟩ (.cons ⟨_, rfl⟩ (.cons ⟨_, rfl⟩ (.cons ⟨_, rfl⟩ (.cons ⟨_, rfl⟩ (.cons ⟨_, rfl⟩ (.cons ⟨_, rfl⟩ (.cons ⟨_, rfl⟩ (.cons ⟨_, rfl⟩ (.cons ⟨_, rfl⟩ (.cons ⟨_, rfl⟩ (.cons ⟨_, rfl⟩ (.cons ⟨_, rfl⟩ (.cons ⟨_, rfl⟩ (.cons ⟨_, rfl⟩ (.cons ⟨_, rfl⟩ (.cons ⟨_, rfl⟩ (.nil)))))))))))))))))))))))))))))))
    (case q0 => k_is)
    (case q1 => k_is)
    (case q2 => k_is)
    case main =>
      obtain rfl := Kx.same_ref (x := "law") T.g_law hmg
      exact ⟨T.fd_law, Kx.binds_one T.F_law (fun _ _ _ _ _ _ _ => rfl), fun base hk hg => K28.ok_law T⟩
