import PyProof.Rows.All
import Wide.All
import OpenK.AllK
import Wide.FinOn
import PyProof.EqAt
import PyProof.EqKinds
import PyProof.TupleCall
import HandS.ForMost
import HandS.Exc
import HandS.IsInst
import HandS.StrMore
import HandS.Replace
import HandS.ReplaceDef
import HandS.ReplaceLit
import HandS.ReplaceList
import HandS.Defaults
import HandS.Style
import HandS.Zip
import HandS.Conv
import HandS.Lambda
import HandS.Codes
import HandS.Evl
import HandS.ExcValue
import HandS.ExcInit
import HandS.ExcIs
import HandS.ExcField
import KE.KDflt
import KE.KExcIs
import HandS.EndTab
import PyProof.ReprRoads
import PyProof.ReprBulk
import HandS.ExcOwn
import HandS.WordsExc
import HandS.Walk
import PyProof.Rows.StrStrike
import PyProof.Draws
import PyProof.ListStr
import PyProof.Rows.RegStrFacts
import PyProof.Rows.RegReprOcc
import KE.KxIndex
import HandS.OwnEq
import HandS.More
import HandS.Strs
import HandS.SetFor
import KE.KRevSl
import KE.GoesMore
import HandS.DictComp
import PyProof.StrCalls6
import PyProof.MeetsStr3
import PyProof.CallFns
import KE.GoesZip
import KE.SortData
import PyProof.StrWalks
import PyProof.DictUpdate
import PyProof.AssignAttr
import HandS.Finally
import HandS.Small
import HandS.SortRule
import HandS.Iter
import HandS.Wide
import HandS.TryMany
import HandS.DeepEq
import HandS.DictEq
import KE.KItemsList
import HandS.MakeKwOnly
import PySem.Challenge.RW_anyletter_k54_where_two_texts_part
set_option Elab.async false
set_option linter.all false
set_option maxRecDepth 100000
set_option maxHeartbeats 4000000
set_option autoImplicit false
namespace Kx
open PySem PySem.Spec PyProof.Rows L2
/-! ### a def that is promised only where no repr runs around it -/
structure FnG (P : Program) (w : World) (K : PySem.W.Frag) (mg : Str → Option Value) (base : Heap) (CX : CXT) (k : Nat) (f : Addr) (fd : FuncData) (ps : List Str) (sp : Sp) : Prop where
  len : ∀ vs H Q E, sp vs H Q E → vs.length = ps.length
  go : ∀ (A : Around) (outer : List Env) (s : Shared) (H : Hp) (args : Args) (us : List Value) (vs : List V) (Q : VK) (E : XK), A.guards = some [] → Room k A → Env0 P w K mg base A outer s H →
    BindsTo s fd args (ps.zip us) → Vals vs us → sp vs H Q E → codeAny (model P w) A (.call (.ref f) args) (CR CX outer P w H s Q E) s
section
variable {P : Program} {w : World} {K : PySem.W.Frag} {mg : Str → Option Value} {base : Heap}
theorem FnG.of {CX : CXT} {k : Nat} {f : Addr} {fd : FuncData} {ps : List Str} {sp : Sp} (F : FnOk P w K mg base CX k f fd ps sp) : FnG P w K mg base CX k f fd ps sp :=
  ⟨F.len, fun A outer s H args us vs Q E _ => F.run A outer s H args us vs Q E⟩
/-- the body's rule, guards told -/
theorem okG {x qual : Str} {st : Stmt} {f : Addr} {fd : FuncData} {N ps : List Str} {k : Nat} {sp : Sp} (F : Fun K x qual st f fd) (S : FnScope N ps (defScope st)) (len : ∀ vs H Q E, sp vs H Q E → vs.length = ps.length)
    (hbody : ∀ (cdv : Value) (A : Around) (outer : List Env) (s : Shared) (H : Hp) (vs : List V) (Q : VK) (E : XK), A.guards = some [] → Room k (A.deeper (envOfC qual (defScope st) s.heap.objs.size f cdv)) → sp vs H Q E →
      ∃ t, PSs (cxOf CX0 P w K mg base N qual (defScope st) f cdv A outer s H E).nox (defBody st) t ∧ t { nx := fun _ H' => Q .non H', rt := Q } (start N vs) H) :
    FnG P w K mg base CX0 (k + 1) f fd ps sp := by
  obtain ⟨oc, od, kV, doc, pm, an, cdv, ct, osl, rfl, lk, hcd⟩ := F.ex
  refine ⟨len, fun A outer s H args us vs Q E hg hr e0 hb r hsp => ?_⟩
  refine LamX.run_ofS lk hcd S hr e0 hb r (len _ _ _ _ hsp) fun hr' => ?_
  obtain ⟨t, h, q⟩ := hbody cdv A outer s H vs Q E hg hr' hsp
  exact ⟨t, h.nox, q⟩
end
/-! ### the law's own call, guards told -/
section
variable {P : Program} {w : World} {K : PySem.W.Frag} {mg mb : Str → Option Value} {k : Nat} {fa a : Addr} {fd : FuncData} {x : Str} {sp : Sp} {s : Shared} {vs : List Value} {ns : List Int}
/-- what the law's call has to leave -/
def LawEnd (s : Shared) (r : Result) (t : Shared) : Prop := r = .ok (.ret (.bool true)) ∧ OldK s.heap t.heap ∧ t.os = s.os ∧ AllBare t.gens
theorem lawG_of (KX : K.In s.heap) (G : s.heap.Ns mainGlobals mg) (B : s.heap.Ns builtinsNs mb) (BB : ∀ y : Str, y ≠ "__name__" → mb y = bootBuiltins y) (NL : s.heap.NoLimit) (g0 : s.gens = #[])
    (hr : Room k callerA) (F : ∀ base : Heap, K.In base → base.Ns mainGlobals mg → FnG P w K mg base CX0 k fa fd [x] sp) (bd : ∀ (t : Shared) (u : Value), BindsTo t fd ⟨[u], []⟩ [(x, u)])
    (H : Hp) (one : ∀ b u, H b = some u → b = a ∧ K.lookup a = none ∧ (∃ o xs, u = .frz o (.lst xs)) ∧ ∀ o es ep, s.heap.get? a = some o → o.data ≠ .dict es ep) (ok : HOk P w H s.heap)
    (pr : sp [.ref a] H (fun v _ => v = .bl true) fun _ _ _ => False) : codeAny (model P w) callerA (.call (.ref fa) ⟨[.ref a], []⟩) (LawEnd s) s := by
  have stay : ∀ {b : Addr} {o : Obj}, s.heap.get? b = some o → H b = none → (hidT s.heap H).get? b = some o := fun e n => hidT_get e n
  have nodict : ∀ {b : Addr} {m : Str → Option Value}, s.heap.Ns b m → (hidT s.heap H).Ns b m := by
    rintro b m ⟨o, es, ep, e, d, r⟩
    refine ⟨o, es, ep, stay e ?_, d, r⟩
    cases q : H b with
    | none => rfl
    | some u =>
      obtain ⟨rfl, _, _, nd⟩ := one b u q
      exact absurd d (nd o es ep e)
  have Kb : K.In (hidT s.heap H) := by
    intro b o e
    refine stay (KX b o e) ?_
    cases q : H b with
    | none => rfl
    | some u =>
      obtain ⟨rfl, z, _, _⟩ := one b u q
      rw [z] at e
      cases e
  obtain ⟨ml, l1, l2⟩ := NL
  have E0 : Env0 P w K mg (hidT s.heap H) callerA [] s H :=
    { frames := rfl
      mod := { kin := Kb, glob := nodict G, blt := ⟨mb, nodict B, BB⟩, nolimit := ⟨ml, nodict l1, l2⟩ }
      bs := fun b o e => of_hidT e
      bsz := Nat.le_of_eq (hidT_size _ _)
      funs := trivial
      frf := fun b hb => absurd hb (List.not_mem_nil)
      hok := ok
      bare := .of_eq g0 }
  refine codeAny_mono ((F _ Kb (nodict G)).go callerA [] s H ⟨[.ref a], []⟩ [.ref a] [.ref a] _ _ rfl hr E0 (bd s (.ref a)) (.cons rfl .nil) pr) ?_
  intro r t h
  match r, h with
  | .error e, h =>
    exact (show False from h).elim
  | .ok .next, h => exact False.elim h
  | .ok .brk, h => exact False.elim h
  | .ok .cont, h => exact False.elim h
  | .ok (.ret u), h =>
    obtain ⟨v, H', h1, h2, un, ok', rv, rfl⟩ := h
    cases rv
    refine ⟨rfl, OldK.of_keep fun b o e => ?_, h1, h2⟩
    cases q : H b with
    | none => exact un.keep b o e q List.not_mem_nil List.not_mem_nil
    | some u =>
      obtain ⟨rfl, _, ⟨ob, xs, rfl⟩, _⟩ := one b u q
      have e1 := (ok b _ q).1
      have e2 := (ok' b _ (un.frzs b ob _ q)).1
      rw [e] at e1
      cases e1
      exact e2
theorem lawG (KX : K.In s.heap) (G : s.heap.Ns mainGlobals mg) (B : s.heap.Ns builtinsNs mb) (BB : ∀ y : Str, y ≠ "__name__" → mb y = bootBuiltins y) (NL : s.heap.NoLimit) (g0 : s.gens = #[])
    (ha : s.heap.get? a = some { cls := .type "list", data := .seq vs.toArray }) (hi : IntsAre vs ns) (hl : ns.length ≤ sizeLine)
    (hr : Room k callerA) (F : ∀ base : Heap, K.In base → base.Ns mainGlobals mg → FnG P w K mg base CX0 k fa fd [x] sp) (bd : ∀ (t : Shared) (u : Value), BindsTo t fd ⟨[u], []⟩ [(x, u)])
    (pr : ∀ H : Hp, Only H → SqL K H a (ns.map V.int) → sp [.ref a] H (fun v _ => v = .bl true) fun _ _ _ => False) : codeAny (model P w) callerA (.call (.ref fa) ⟨[.ref a], []⟩) (LawEnd s) s := by
  have rv := vals_ints hi
  have lv := hi.length
  have nd : ∀ o es ep, s.heap.get? a = some o → o.data ≠ .dict es ep := by
    intro o es ep e d
    rw [ha] at e
    cases e
    cases d
  cases hk : K.lookup a with
  | some o =>
    have e := KX a o hk
    rw [ha] at e
    cases e
    have z : ∀ (b : Addr) (u : HO), (none : Option HO) = some u → False := fun _ _ q => nomatch q
    refine lawG_of KX G B BB NL g0 hr F bd (fun _ => none) (fun b u q => (z b u q).elim) (fun b u q => (z b u q).elim) (pr _ (fun _ => .inl rfl) (.inr ⟨_, vs.toArray, _, hk, rfl, rfl, rfl, ?_, by simpa using rv⟩))
    rw [List.size_toArray, lv]
    exact hl
  | none =>
    let o0 : Obj := { cls := .type "list", data := .seq vs.toArray }
    let Ha : Hp := fun b => if b = a then some (.frz o0 (.lst (ns.map V.int))) else none
    have at_a : Ha a = some (.frz o0 (.lst (ns.map V.int))) := if_pos rfl
    have but : ∀ b u, Ha b = some u → b = a ∧ u = .frz o0 (.lst (ns.map V.int)) := by
      intro b u q
      by_cases hb : b = a
      · subst hb
        rw [at_a] at q
        exact ⟨rfl, (Option.some.inj q).symm⟩
      · have q' : (none : Option HO) = some u := (if_neg hb).symm.trans q
        cases q'
    refine lawG_of KX G B BB NL g0 hr F bd Ha (fun b u q => ?_) (fun b u q => ?_) (pr _ (fun b => ?_) (.inl (.inr ⟨o0, at_a⟩)))
    · obtain ⟨e1, e2⟩ := but b u q
      exact ⟨e1, hk, ⟨_, _, e2⟩, nd⟩
    · obtain ⟨rfl, rfl⟩ := but b u q
      exact ⟨ha, by rw [List.length_map]; exact hl, vs, _, rv, ha⟩
    · by_cases hb : b = a
      · exact .inr ⟨_, _, by rw [hb]; exact at_a⟩
      · exact .inl (if_neg hb)
end
open PySem.W in
/-- the goal that the head leaves -/
theorem walkG {l : OpenLaw} {n k : Nat} {q : Program} {loose : List Str} {XP : (Str → Option Value) → Heap → Prop} {YP : World → Heap → Prop} {d : DefRec} {K : Params → Frag} {sp : Frag → Sp} {x : Str}
    (hn : l.most = some n) (hz : n ≤ sizeLine) (h0 : d.params.defaults = []) (hr : Room k callerA) (hY : ∀ (w : World) (h : Heap), YP w h → (K w.params).In h)
    (F : ∀ (w : World) (mg : Str → Option Value) (fa : Addr) (h : Heap), (K w.params).In h → h.Ns mainGlobals mg → mg d.name = some (.ref fa) → ∃ fd : FuncData,
      (∀ (t : Shared) (u : Value), BindsTo t fd ⟨[u], []⟩ [(x, u)]) ∧ ∀ base : Heap, (K w.params).In base → base.Ns mainGlobals mg → FnG l.prog w (K w.params) mg base CX0 k fa fd [x] (sp (K w.params)))
    (pr : ∀ (K : Frag) (H : Hp) (a : Addr) (ns : List Int), ns.length ≤ n → Only H → SqL K H a (ns.map V.int) → sp K [.ref a] H (fun v _ => v = .bl true) fun _ _ _ => False) :
    WalkO q loose XP YP l.row.toRowW d [] (fun f us => PySem.call f us) := by
  refine Att.attach_call hn h0 ?_
  intro w s₀ s₁ mg mb fa o pm cd doc a us ns G Y ho hd hcd hm hobj hints hlen hg
  obtain ⟨fd, hb, hF⟩ := F w mg fa _ (hY w _ Y) G.T.g hm
  exact lawG (hY w _ Y) G.T.g G.T.b G.T.builtins G.T.nolimit hg hobj hints (Nat.le_trans hlen hz) hr hF hb fun H hO hS => pr _ H a ns hlen hO hS
end Kx
namespace Kx
open PySem PySem.Spec PyProof.Rows L2 SX
/-! ### heaps -/
theorem same_new {H : Hp} {p : Addr} {o : HO} (h : H p = none) : Same H (upd H p o) := fun b u e => by
  rw [upd_ne (ne_of_none e h)]
  exact e
theorem Same.t {K : PySem.W.Frag} {H H' : Hp} {a : Addr} {xs : List V} (e : Same H H') (h : SqT K H a xs) : SqT K H' a xs := by
  rcases h with (h | ⟨o, h⟩) | h
  · exact .inl (.inl (e _ _ h))
  · exact .inl (.inr ⟨o, e _ _ h⟩)
  · exact .inr h
/-- a list or a tuple -/
def SqQ (K : PySem.W.Frag) (H : Hp) (a : Addr) (xs : List V) : Prop := SqL K H a xs ∨ SqT K H a xs
theorem Same.q {K : PySem.W.Frag} {H H' : Hp} {a : Addr} {xs : List V} (e : Same H H') (h : SqQ K H a xs) : SqQ K H' a xs := h.imp e.seq (Same.t e)
theorem tyL {K : PySem.W.Frag} {H : Hp} {a : Addr} {xs : List V} (h : SqL K H a xs) : TyX K H (.ref a) (.type "list") := by
  rcases h with (h | ⟨o, h⟩) | ⟨o, vs, n, h, hc, _⟩
  · exact .base (.lst h)
  · exact .base (.frz h)
  · exact .kList h hc
theorem tyT {K : PySem.W.Frag} {H : Hp} {a : Addr} {xs : List V} (h : SqT K H a xs) : TyX K H (.ref a) (.type "tuple") := by
  rcases h with (h | ⟨o, h⟩) | ⟨o, vs, n, h, hc, _⟩
  · exact .base (.tup h)
  · exact .fTuple h
  · exact .kTuple h hc
theorem kit_at {K : PySem.W.Frag} {n : String} {a b : Bool} (h1 : kitB n "list" = some a) (h2 : kitB n "tuple" = some b) : PySem.W.kitAny K (.type n) [.type "list", .type "tuple"] = some (a || b) := by
  refine kitAny_cons (kit_ty h1) (fun e => ?_) (fun e => by rw [e]; rfl)
  rw [e, Bool.false_or]
  exact kitAny_cons (kit_ty h2) (fun e => by rw [e]; exact kitAny_nil) (fun e => e)
theorem isl_q {K : PySem.W.Frag} {H : Hp} {a : Addr} {xs : List V} (h : SqQ K H a xs) : ∃ n, TyX K H (.ref a) (.type n) ∧ PySem.W.kitAny K (.type n) [.type "list", .type "tuple"] = some true := by
  rcases h with h | h
  · exact ⟨_, tyL h, kit_at (a := true) (b := false) (by decide +kernel) (by decide +kernel)⟩
  · exact ⟨_, tyT h, kit_at (a := false) (b := true) (by decide +kernel) (by decide +kernel)⟩
theorem ix_q {K : PySem.W.Frag} {H : Hp} {a : Addr} {xs : List V} {i : Int} {v : V} {Q : VK} (h : SqQ K H a xs) (hv : atI xs i = some v) (q : Q v H) : rIx K (.ref a) (.int i) H Q := by
  rcases h with h | h
  · exact .inl ⟨a, xs, i, v, rfl, rfl, h, hv, q⟩
  · exact .inr (.inl ⟨a, xs, i, v, rfl, rfl, h, hv, q⟩)
/-- is it data of this form, whatever tracks it -/
theorem dp_same {K : PySem.W.Frag} {H H' : Hp} (e : Same H H') : ∀ (d : PyData) (v : V), Dp K H v d → Dp K H' v d := by
  intro d v h
  exact Dp.rec (motive_1 := fun v d _ => Dp K H' v d) (motive_2 := fun vs ds _ => DpAll K H' vs ds) .non .bl .int .str (fun h _ i => .lst (e.seq h) i) (fun h _ i => .tup (Same.t e h) i) .nil (fun _ _ a b => .cons a b) h
end Kx
namespace Kx
open PySem PySem.Spec PyProof.Rows L2 SX
theorem iteC {c : Bool} {A B : Prop} (h1 : c = true → A) (h2 : c = false → B) : if c = true then A else B := by
  cases c with
  | true => exact iteT (h1 rfl)
  | false => exact iteF (h2 rfl)
/-! ### letters and signs -/
def low (c : Nat) : Bool := decide (97 ≤ c) && decide (c ≤ 122)
def lowB (l : List Nat) : Bool := !l.isEmpty && l.all low
def sg (c : Nat) : Bool := decide (c = 32) || low c
def textB (l : List Nat) : Bool := decide (l.length ≤ 200000) && l.all sg
theorem ascii1 : (List.range 128).all (fun c => (if Unicode.isAlpha c then (Unicode.isLower c && !(Unicode.isUpper c || Unicode.isTitle c)) == low c && ((Unicode.isLower c && !(Unicode.isUpper c || Unicode.isTitle c)) || (Unicode.isUpper c || Unicode.isTitle c)) else !low c)) = true := by decide +kernel
theorem ascii2 (c : Nat) (h : c < 128) : (Unicode.isAlpha c = true → ((Unicode.isUpper c || Unicode.isTitle c) = !low c) ∧ (low c = true → Unicode.isLower c = true)) ∧ (low c = true → Unicode.isAlpha c = true) := by
  have z := List.all_eq_true.mp ascii1 c (List.mem_range.mpr h)
  cases ha : Unicode.isAlpha c <;> cases hl : Unicode.isLower c <;> cases hu : (Unicode.isUpper c || Unicode.isTitle c) <;> cases hw : low c <;> simp_all
theorem low_lt {c : Nat} (h : low c = true) : c < 128 := by
  unfold low at h
  simp only [Bool.and_eq_true, decide_eq_true_eq] at h
  omega
theorem letters_S (l : List Nat) : (Txt.isascii (S l) && (Txt.isalpha (S l) && Txt.islower (S l))) = lowB l := by
  have ea : ∀ p : Nat → Bool, (S l).cps.all p = l.all p := fun p => by simp
  have ey : ∀ p : Nat → Bool, (S l).cps.any p = l.any p := fun p => by simp
  unfold Txt.isascii Txt.isalpha Txt.islower lowB
  rw [ea, ea, ey, ey, S_len]
  cases l with
  | nil => rfl
  | cons d r =>
    have e0 : decide ((d :: r).length > 0) = true := by simp
    rw [e0, Bool.true_and]
    rw [Bool.eq_iff_iff]
    simp only [Bool.and_eq_true, List.all_eq_true, decide_eq_true_eq, List.any_eq_true, Bool.not_eq_true', List.isEmpty_cons, Bool.not_false, true_and]
    constructor
    · rintro ⟨h1, h2, _, h4⟩ c hc
      have k := (ascii2 c (h1 c hc)).1 (h2 c hc)
      have n : (Unicode.isUpper c || Unicode.isTitle c) = false := by
        cases q : (Unicode.isUpper c || Unicode.isTitle c) with
        | false => rfl
        | true =>
          rw [List.any_eq_false] at h4
          exact absurd q (h4 c hc)
      rw [n] at k
      simpa using k.1
    · intro h
      refine ⟨fun c hc => low_lt (h c hc), fun c hc => (ascii2 c (low_lt (h c hc))).2 (h c hc), ⟨d, List.mem_cons_self, ?_⟩, ?_⟩
      · have hd := h d List.mem_cons_self
        exact ((ascii2 d (low_lt hd)).1 ((ascii2 d (low_lt hd)).2 hd)).2 hd
      · rw [List.any_eq_false]
        intro c hc q
        have hd := h c hc
        have k := ((ascii2 c (low_lt hd)).1 ((ascii2 c (low_lt hd)).2 hd)).1
        rw [q, hd] at k
        cases k
end Kx
namespace Kx
open PySem PySem.Spec PyProof.Rows L2 SX
/-! ### an exception that a name keeps behind the suite -/
/-- at a: an exception of the class cls, its own dict at d -/
def exT (a : Addr) (cls : Value) (d : Option Addr) : HO := .ext fun h => ∃ (oe : Obj) (vs : Array Value), h.get? a = some oe ∧ Zc cls d oe ∧ oe.data = .fields vs
section
variable {X : Cx} {pn0 : List (Addr × Obj)} {σ : L2.St} {H : Hp} {s : Shared} {a : Addr} {oe : Obj} {cls : Value} {d : Option Addr}
theorem exT_ne (o : HO) (h : ∀ φ, o ≠ .ext φ) : exT a cls d ≠ o := fun z => h _ z.symm
/-- what stands pinned in the suite is tracked behind it -/
theorem Inv.track {vs : Array Value} (I : Inv X pn0 σ H s) (ha : s.heap.get? a = some oe) (hz : Zc cls d oe) (hd : oe.data = .fields vs) (na : H a = none) (new0 : X.s_0.heap.get? a = none) (nL : a ≠ X.env.locals)
    (np : ∀ p ∈ X.pn ++ pn0, p.1 ≠ a) : Inv X pn0 σ (upd H a (exT a cls d)) s := by
  have off : ∀ {b : Addr} {u : HO}, H b = some u → upd H a (exT a cls d) b = some u := fun {b u} e => by
    rw [upd_ne (ne_of_none e na)]
    exact e
  have un : ∀ {b : Addr}, b ≠ a → H b = none → upd H a (exT a cls d) b = none := fun {b} n e => by
    rw [upd_ne n]
    exact e
  have old : ∀ {b : Addr} {o : Obj}, X.s_0.heap.get? b = some o → b ≠ a := fun {b o} e z => by
    rw [z, new0] at e
    cases e
  exact
    { ok := I.ok
      os := I.os
      bare := I.bare
      base :=
        { keep := I.base.keep
          slot := I.base.slot
          free := fun b o e n x => un (old e) (I.base.free b o e n x)
          there := I.base.there
          tups := fun b xs e => off (I.base.tups b xs e)
          frzs := fun b o u e => off (I.base.frzs b o u e)
          tbls := fun b ps e => by
            obtain ⟨m, q⟩ := I.base.tbls b ps e
            exact ⟨m, off q⟩ }
      loc := I.loc
      cell := I.cell
      free := un (Ne.symm nL) I.free
      freeC := fun y c e => by
        refine un (fun z => ?_) (I.freeC y c e)
        obtain ⟨v, o, e1, e2⟩ := I.cell y c e
        rw [z, ha] at e1
        cases e1
        rw [hd] at e2
        cases e2
      pin := fun p hp => by
        obtain ⟨e, n, r⟩ := I.pin p hp
        exact ⟨e, un (np p hp) n, r⟩
      hok := HOk.laidN (P := X.prog) (w := X.w) I.hok (fun _ _ e => e) na ⟨⟨oe, vs, ha, hz, hd⟩, ⟨oe, ha⟩, fun h1 h2 z k => by
        obtain ⟨o, v, e1, e2⟩ := z
        exact ⟨o, v, k _ e1, e2⟩⟩
      len := I.len }
end
/-- what «try: .. except x as n: y = n» wishes of an exception: it is one of x's; y keeps it -/
def wKeep (K : PySem.W.Frag) (n : Nat) (c : Value) (i j : Nat) (D : Ends) : WX := fun cls d σ H =>
  PySem.W.exmOne K cls c = some true ∧ ∀ a, H a = none → σ.length = n → D.nx ((((σ.set i (some (.ref a))).set j (some (.ref a)))).set i none) (upd H a (exT a cls d))
section
variable {X : Cx} {x n y : Str} {c : Value} {i j : Nat} {body : List Stmt} {p1 p2 p3 np pos pos' : Pos} {tb : WX → TS}
theorem ps_keep (hs : X.stack = X.env :: X.outer) (hex : X.ex = []) (hf : X.env.frame = some X.env.locals) (hN : X.N.Nodup) (hi : X.N[i]? = some n) (hln : X.env.kindOf n = some .local) (hlv : X.env.scope.names.lookup n = some .local)
    (hj : X.N[j]? = some y) (hlj : X.env.scope.names.lookup y = some .local) (hc : Names X x c) (hdb : (n == ("__debug__" : Str)) = false) (hdc : (n == ("__classdict__" : Str)) = false)
    (hb : ∀ (W : WX) (pn : List (Addr × Obj)) (xe : Value → Shared → Prop), Takes (X.tr pn xe) W → PassesOwn (model X.prog X.w) X.A X.env xe → PSs (X.tr pn xe) body (tb W)) :
    PS X (.Try body [.ExceptHandler (some (.Name x np)) (some n) [.Assign [.Name y p1] (.Name n p2) p3] pos'] [] [] pos) (fun D σ H => tb (wKeep X.K X.N.length c i j D) D σ H) := by
  refine ⟨fun pn0 s σ H D I h => ?_⟩
  have ok := I.ok
  have fr : X.A.frames = some (X.env :: X.outer) := by rw [ok.frames, hs]
  apply wpAny_Try_except
  have run := hb (wKeep X.K X.N.length c i j D) (X.pn ++ pn0)
    (fun e t1 => wpAny (model X.prog X.w) X.A (noteFrame e X.env)
      (fun _ t2 => wpAny (model X.prog X.w) X.A (setFlight e none)
        (fun _ t3 => wpAny (model X.prog X.w) X.A (handleBy e X.env [.ExceptHandler (some (.Name x np)) (some n) [.Assign [.Name y p1] (.Name n p2) p3] pos']) (SP X pn0 D) X.xe t3) X.xe t2) X.xe t1) ?take PassesOwn.looking
  case take =>
    rintro u t ⟨a, B, sI, pins', σ', H', cls, d, rfl, J', nb, up, sky, na, os, ag, isOne, hend⟩
    have Jb : Inv X pn0 σ' H' sI := J'.ofTry ok
    rw [show (X.tr (X.pn ++ pn0) _).stack = X.env :: X.outer from hs] at sky
    show wpAny (model X.prog X.w) X.A (noteFrame (.ref a) X.env) _ _ _
    refine Sky.land Zc.steady fr hf sky (fun h3 fl up3 => ?_)
    have J3 : Inv X pn0 σ' H' { t with heap := h3 } := Jb.landed nb fl.1 (up.trans up3) os ag
    have Bn := fl.2.1
    obtain ⟨oz3, vz3, at3, zc3, dt3⟩ := fl.there
    have out : a ∉ frs (X.env :: X.outer) := by
      intro hm
      obtain ⟨_, o', e', hnf⟩ := fl.2.2.1.mem hm
      rw [at3] at e'
      cases e'
      exact hnf _ dt3
    have nL : a ≠ X.env.locals := fun z => out (List.mem_filterMap.mpr ⟨X.env, List.mem_cons_self, by rw [hf, z]⟩)
    have nF : a ∉ X.fs := by
      intro hm
      obtain ⟨e, hme, q⟩ := List.mem_filterMap.mp hm
      exact out (List.mem_filterMap.mpr ⟨e, List.mem_cons_of_mem _ hme, q⟩)
    have gone : ∀ {b : Addr} {o : Obj}, sI.heap.get? b = some o → b ≠ a := by
      intro b o e z
      rw [z] at e
      have q := nb a o e (by rw [hs]; exact out)
      rw [Bn] at q
      cases q
    have new0 : X.s_0.heap.get? a = none := by
      cases q : X.s_0.heap.get? a with
      | none => rfl
      | some o =>
        obtain ⟨o', e'⟩ := Jb.base.there a o q (by rw [hex]; exact List.not_mem_nil)
        exact absurd rfl (gone e')
    have np0 : ∀ p ∈ X.pn ++ pn0, p.1 ≠ a := fun p hp => gone (Jb.pin p hp).1
    have In3 := J3.suite at3 dt3 na nL nF
    refine wpAny_handleBy_cons (codeAny_handlers_test ?_) (by intro q; cases q)
    have lookT : PySem.W.Looks (model X.prog X.w) h3 (typeOf (.ref a)) cls := fun A Q E s k q => wpAny_typeOf_ref (k _ _ at3) (by rw [zc3.1]; exact q)
    have LM := PySem.W.exm_one (M := model X.prog X.w) J3.kIn lookT isOne
    have named : ∀ {Q E : Value → Shared → Prop}, Q c { t with heap := h3 } → wpAny (model X.prog X.w) (X.A.mark (some (.ref a))) (eval (.Name x np) X.env) Q E { t with heap := h3 } := by
      intro Q E q
      obtain ⟨g, gd, g2⟩ := hc
      rcases g2 with m | ⟨m, v, nn⟩
      · exact ld_glob (X := X.suite a ((a, oz3) :: (X.pn ++ pn0))) In3 g m q gd
      · exact ld_blt (X := X.suite a ((a, oz3) :: (X.pn ++ pn0))) In3 g m v q nn gd
    refine named (LM.here ?_)
    refine codeAny_handlers_suite_as (HandSPX.lands_againZ fl fun h4 flr up4 => ?_)
    have J4 : Inv X pn0 σ' H' { t with heap := h4 } := Jb.landed nb flr.1 ((up.trans up3).trans up4) os ag
    obtain ⟨oz4, vz4, at4, zc4, dt4⟩ := flr.there
    have In4 := J4.suite at4 dt4 na nL nF
    refine store_ok (X := X.suite a ((a, oz4) :: (X.pn ++ pn0))) (v := .ref a) In4 hN hi (.inl hlv) rfl (fun s5 S5 => ?_) (.inr hlv)
    have il : i < σ'.length := by
      rw [In4.len]
      exact (List.getElem?_eq_some_iff.mp hi).1
    have suite : PSs (X.suite a ((a, oz4) :: (X.pn ++ pn0))) [.Assign [.Name y p1] (.Name n p2) p3] (tAsg (tVar i) (gName j)) :=
      pss_one (ps_set hN hj (.inl hlj) (pe_var hi (.inl hlv) hdb hdc) rfl (.inr hlj))
    refine wpAny_mono (suite.run [] s5 _ H' { nx := fun σ6 H6 => σ6 = (σ'.set i (some (.ref a))).set j (some (.ref a)) ∧ H6 = H', rt := fun _ _ => False, bk := fun _ _ => False, ct := fun _ _ => False } S5 ⟨_, List.getElem?_set_self il, rfl, rfl⟩) (fun f s6 q => ?_) (fun _ _ z => False.elim z)
    match f, q with
    | .ret _, q =>
      obtain ⟨_, _, _, _, _, z⟩ := q
      exact False.elim z
    | .brk, q =>
      obtain ⟨_, _, _, z⟩ := q
      exact False.elim z
    | .cont, q =>
      obtain ⟨_, _, _, z⟩ := q
      exact False.elim z
    | .next, q =>
      obtain ⟨σ6, H6, S6, rfl, rfl⟩ := q
      have pin := S6.pin (a, oz4) List.mem_cons_self
      have J6 : Inv X pn0 _ _ s6 := S6.unsuite ok
      have J7 := Kx.Inv.track J6 pin.1 zc4 dt4 na new0 nL np0
      refine gone_ok J7 hN hi hln fun s8 J8 => ⟨_, _, J8, hend a na Jb.len⟩
  refine wpAny_mono (run.run [] s σ H D (I.toTry _) h) (fun f s1 q => ?_) fun _ _ z => z
  match f, q with
  | .next, q =>
    obtain ⟨σ', H', J', z⟩ := q
    exact wpAny_execs_nil ⟨σ', H', J'.ofTry ok, z⟩
  | .brk, q =>
    obtain ⟨σ', H', J', z⟩ := q
    exact ⟨σ', H', J'.ofTry ok, z⟩
  | .cont, q =>
    obtain ⟨σ', H', J', z⟩ := q
    exact ⟨σ', H', J'.ofTry ok, z⟩
  | .ret u, q =>
    obtain ⟨v, σ', H', J', r, z⟩ := q
    exact ⟨v, σ', H', J'.ofTry ok, r, z⟩
end
end Kx
namespace Kx
open PySem PySem.Spec PyProof.Rows L2 SX LamX
section
variable {X : Cx} {pn0 : List (Addr × Obj)} {σ : L2.St} {H HZ : Hp} {s sB : Shared}
abbrev lamQ (X : Cx) : Str := X.env.qual ++ "<lambda>"
/-- the lambda as an object, its defaults at dV -/
abbrev lamObj (X : Cx) (params : Arguments) (body : Expr) (scp : Scope) (dV doc pm : Value) (c' : Addr) (ctv : Value) : Obj := PySem.W.kdv_obj "<lambda>" (lamQ X) params (.expr body) scp (cloFrom X.env.cells scp.names []) dV doc pm c' ctv
/-- what the making leaves -/
def Made (X : Cx) (pn0 : List (Addr × Obj)) (σ : L2.St) (H : Hp) (T : List (Addr × Str)) (params : Arguments) (body : Expr) (scp : Scope) (dV : Value) (s0 : Shared) (v : Value) (s' : Shared) : Prop :=
  ∃ (f c' : Addr) (doc pm ctv : Value) (H1 : Hp), v = .ref f ∧ Inv X pn0 σ H1 s' ∧ ExtN H H1 ∧ Tabs T H1 ∧ s'.heap.get? f = some (lamObj X params body scp dV doc pm c' ctv) ∧ H1 f = none ∧ f ∉ frs X.stack ∧ H1 c' = some (CodeO c' (lamQ X)) ∧
    (∀ b o, s0.heap.get? b = some o → (∀ pz, H b ≠ some (.tbl pz)) → s'.heap.get? b = some o) ∧ (∀ b, b < s0.heap.objs.size → H b = none → H1 b = none)
theorem lam_tail {T : List (Addr × Str)} {c P : Addr} {params : Arguments} {body : Expr} {scp : Scope} {pos : Pos} {ln : Nat} {dV : Value} {E : Value → Shared → Prop} (I : Inv X pn0 σ H s) (TB : TabB X.base X.mg c P) (hcode : X.env.code = .ref c)
    (hm : (P, lamQ X) ∈ T) (onlyP : ∀ p ∈ T, p.1 = P → p.2 = lamQ X) (hT : Tabs T H) (hfree : ∀ y ∈ scp.names, y.2 = .free → ∃ c, X.env.cells.lookup y.1 = some c) :
    wpAny (model X.prog X.w) X.A (makeTail "<lambda>" (lamQ X) params (.expr body) scp X.env dV .none none pos ln) (Made X pn0 σ H T params body scp dV s) E s := by
  obtain ⟨pz, eP, tr3, amg⟩ := hT _ hm
  have btP : s.heap.BuiltinsAt X.mg P := TB.bm.keeps I.bk
  have hP' : s.heap.get? P = some { cls := .none, data := .fields pz } := I.hok P _ eP
  have nofr : ∀ f, s.heap.objs.size ≤ f → f ∉ frs X.stack := by
    intro f hf z
    rcases List.mem_cons.mp (I.stkSub _ z) with e | e
    · have h1 := I.lt
      rw [← e] at h1
      exact absurd (Nat.lt_of_lt_of_le h1 hf) (Nat.lt_irrefl _)
    · exact I.nofs hf e
  cases fnd : codeAmong pos pz.toList with
  | none =>
    refine PySem.W.kdv_makeTail (mg := X.mg) (c := c) (P := P) (ps := pz) (closure_ok hfree) I.ok.glob (I.mod.glob.keeps I.bk) hcode (TB.code.keeps I.bk) hP' tr3 fnd TB.gP btP fun c' ctv doc h' tk stP gec ltc rcc tbb => ?_
    obtain ⟨cc2, oc, vs, t, e2, ocE, hd, ovE⟩ := rcc
    cases e2
    have szle : s.heap.objs.size ≤ h'.objs.size := Nat.le_trans gec (Nat.le_of_lt ltc)
    have ncn : H c' = none := I.hok.fresh gec
    have up : ∀ b o, b ≠ P → s.heap.get? b = some o → (h'.push (lamObj X params body scp dV doc ((X.mg "__name__").getD .none) c' ctv)).get? b = some o := fun b o hb e => Heap.get?_push_of_some _ (stP b o hb e)
    have I1 := inv_table (t' := tk) (more := #[rawInt pos.line, rawInt pos.col, .ref c']) (h' := h'.push (lamObj X params body scp dV doc ((X.mg "__name__").getD .none) c' ctv)) I eP up (Heap.get?_push_of_some _ tbb) gec ⟨oc, vs, t, Heap.get?_push_of_some _ ocE, hd, ovE⟩
    have exE : ExtN H (upd (upd H P (.tbl (pz ++ #[rawInt pos.line, rawInt pos.col, .ref c']))) c' (CodeO c' (lamQ X))) := by
      intro b o e n
      rw [upd_ne (ne_of_none e ncn), upd_ne (fun z => n pz (Option.some.inj (e.symm.trans (by rw [z]; exact eP))))]
      exact e
    have ell : (pz ++ #[rawInt pos.line, rawInt pos.col, .ref c']).toList = pz.toList ++ [rawInt pos.line, rawInt pos.col, .ref c'] := by simp
    refine ⟨h'.objs.size, c', doc, _, ctv, _, rfl, I1, exE, fun p hp => ?_, Heap.get?_push_size _ rfl, ?_, nofr _ szle, upd_same, fun b o e n => up b o (fun z => n pz (by rw [z]; exact eP)) e, fun b hb n => ?_⟩
    · by_cases hb : p.1 = P
      · rw [onlyP p hp hb, hb]
        refine ⟨_, by rw [upd_ne (ne_of_none eP ncn), upd_same], by rw [ell]; exact PySem.TriplesOk_snoc _ _ _ _ tr3, fun p' cwv cvE => ?_⟩
        rw [ell] at cvE
        rcases among_app _ tr3 cvE with z | z
        · obtain ⟨cq, e1, e2⟩ := amg p' cwv z
          exact ⟨cq, e1, exE _ _ e2 codeO_ne⟩
        · exact ⟨c', z, upd_same⟩
      · obtain ⟨ps', a1, a2, a3⟩ := hT p hp
        refine ⟨ps', by rw [upd_ne (ne_of_none a1 ncn), upd_ne hb]; exact a1, a2, fun p' cwv cvE => ?_⟩
        obtain ⟨cq, e1, e2⟩ := a3 p' cwv cvE
        exact ⟨cq, e1, exE _ _ e2 codeO_ne⟩
    · rw [upd_ne (Nat.ne_of_gt ltc), upd_ne (Nat.ne_of_gt (Nat.lt_of_lt_of_le (Heap.lt_size hP') szle))]
      exact I.hok.fresh szle
    · have n1 : b ≠ c' := Nat.ne_of_lt (Nat.lt_of_lt_of_le hb gec)
      have n2 : b ≠ P := fun z => by
        rw [z, eP] at n
        cases n
      rw [upd_ne n1, upd_ne n2]
      exact n
  | some cwv =>
    obtain ⟨c', e, hco⟩ := amg pos cwv fnd
    subst e
    refine PySem.W.kdv_makeTailHit (mg := X.mg) (c := c) (P := P) (ps := pz) (closure_ok hfree) I.ok.glob (I.mod.glob.keeps I.bk) hcode (TB.code.keeps I.bk) hP' tr3 fnd btP fun ctv doc h' tk stP szle => ?_
    refine ⟨h'.objs.size, c', doc, (X.mg "__name__").getD .none, ctv, H, rfl, I.kept fun b o e => Heap.get?_push_of_some _ (stP b o e), ExtN.refl H, hT, Heap.get?_push_size _ rfl, I.hok.fresh szle, nofr _ szle, hco, fun b o e _ => Heap.get?_push_of_some _ (stP b o e), fun _ _ n => n⟩
/-- .. with one default, 0 -/
theorem lam_makeD {T : List (Addr × Str)} {c P : Addr} {params : Arguments} {body : Expr} {scp : Scope} {pos cp : Pos} {j : Nat} {E : Value → Shared → Prop} {Qw : Value → Shared → Prop} (I : Inv X pn0 σ H s) (TB : TabB X.base X.mg c P) (hcode : X.env.code = .ref c)
    (hm : (P, lamQ X) ∈ T) (onlyP : ∀ p ∈ T, p.1 = P → p.2 = lamQ X) (hT : Tabs T H) (hfree : ∀ y ∈ scp.names, y.2 = .free → ∃ c, X.env.cells.lookup y.1 = some c)
    (hp : params.defaults = [.Constant (.int 0) j cp]) (hk : params.kw_defaults = [])
    (h : ∀ (t f c' : Addr) (tk : Tok) (doc pm ctv : Value) (H1 : Hp) (s' : Shared), Inv X pn0 σ H1 s' → ExtN H H1 → Tabs T H1 → s'.heap.get? t = some (PySem.W.kdv_tup [.int 0 tk]) → H1 t = none → t ∉ frs X.stack →
      s'.heap.get? f = some (lamObj X params body scp (.ref t) doc pm c' ctv) → H1 f = none → f ∉ frs X.stack → H1 c' = some (CodeO c' (lamQ X)) → Qw (.ref f) s') :
    wpAny (model X.prog X.w) X.A (eval (.Lambda params body scp pos) X.env) Qw E s := by
  refine PySem.W.kdv_lam (by rw [hp]; rfl) hk ?_
  rw [hp]
  refine PySem.W.kdv_all1 (thn ((pe_int (X := X) (i := 0) (j := j) (pos := cp)).run pn0 s σ H (fun v H1 => v = .int 0 ∧ H1 = H) I ⟨rfl, rfl⟩) fun u sB ⟨v, H1, I1, r, e1, e2⟩ => ?_)
  subst e1 e2
  obtain ⟨tk, rfl⟩ := r
  refine PySem.W.kdv_all0 ?_
  rw [makeFunction_eq]
  simp only [List.zip_nil_right, List.filterMap_nil, List.isEmpty_nil, if_true, pure_bind, List.isEmpty_cons, Bool.false_eq_true, if_false]
  refine wpAny_bind (wpAny_newTextTuple ?_)
  have fresh : H1 sB.heap.objs.size = none := I1.hok.fresh (Nat.le_refl _)
  have off : sB.heap.objs.size ∉ frs X.stack := by
    intro z
    rcases List.mem_cons.mp (I1.stkSub _ z) with e | e
    · exact absurd I1.lt (by rw [← e]; exact Nat.lt_irrefl _)
    · exact I1.nofs (Nat.le_refl _) e
  have I2 : Inv X pn0 σ H1 { sB with heap := sB.heap.push (PySem.W.kdv_tup [.int 0 tk]) } := I1.kept (t' := sB.toks) fun b o e => Heap.get?_push_of_some _ e
  refine thn (lam_tail I2 TB hcode hm onlyP hT hfree) fun v s2 ⟨f, c', doc, pm, ctv, H2, ev, I3, eN, T3, hf, nf, off2, hco, keep, fr⟩ => ?_
  subst ev
  refine h sB.heap.objs.size f c' tk doc pm ctv H2 s2 I3 eN T3 (keep _ _ (Heap.get?_push_size _ rfl) fun pz z => ?_) (fr _ ?_ fresh) off hf nf off2 hco
  · rw [fresh] at z
    cases z
  · show sB.heap.objs.size < (sB.heap.push _).objs.size
    rw [Heap.size_push]
    exact Nat.lt_succ_self _
/-! ### its body -/
/-- one parameter, z, with a default; else captured names and globals -/
structure LamP (sc scp : Scope) (z : Str) : Prop where
  kind : scp.kind = .function
  co : scp.isCoroutine = false
  gen : scp.isGenerator = false
  own : ∀ y ∈ scp.names, y.2 ≠ .cell ∧ (y.2 = .local → y.1 = z)
  par : scp.names.lookup z = some .local
  free : ∀ y ∈ scp.names, y.2 = .free → sc.names.lookup y.1 = some .cell ∨ sc.names.lookup y.1 = some .free
theorem LamP.has {X : Cx} {scp : Scope} {z : Str} (L : LamP X.env.scope scp z) (ok : X.Ok) : ∀ y ∈ scp.names, y.2 = .free → ∃ c, X.env.cells.lookup y.1 = some c := fun y hy e => ok.has _ ((L.free y hy e).imp id id)
/-- the slots' names without z -/
def hideN (z : Str) (N : List Str) : List Str := N.map fun y => if y = z then ("%" : Str) else y
/-- the context of such a body -/
def lamCxD (X : Cx) (A : Around) (outer : List Env) (s : Shared) (H : Hp) (E : XK) (scp : Scope) (z : Str) (f c' : Addr) : Cx := { lamCx X A outer s H E scp f c' with N := hideN z X.N }
theorem lam_startD {A : Around} {outer : List Env} {E : XK} {scp : Scope} {z : Str} {f c' : Addr} {h₁ : Heap} {tk : Nat} {u : Value} (I : Inv X pn0 σ H s) (L : LamP X.env.scope scp z) (hz : scp.names.lookup ("%" : Str) = none) (e0 : Env0 X.prog X.w X.K X.mg X.base A outer sB HZ)
    (hd : A.handled = none) (un : Un (frs X.stack) [] H HZ s.heap sB.heap) (hns : h₁.Ns sB.heap.objs.size fun y => ([(z, u)] : List (Str × Value)).reverse.lookup y) (kp : ∀ b o, sB.heap.get? b = some o → h₁.get? b = some o) :
    Inv (lamCxD X A outer sB HZ E scp z f c') [] σ HZ { sB with heap := h₁, toks := tk } := by
  have hfree := L.has I.ok
  have back : ∀ {y c}, (cloFrom X.env.cells scp.names []).lookup y = some c → X.env.cells.lookup y = some c := by
    intro y c e
    rcases cloFrom_mem (PySem.mem_of_lookup e) with hm | ⟨h1, h2⟩
    · cases hm
    · obtain ⟨cc1, fnd⟩ := hfree _ h1 rfl
      have hc' : X.env.cells.lookup y = some cc1 := fnd
      have e2 : c = cc1 := by
        rw [h2]
        show (X.env.cells.lookup y).getD 0 = cc1
        rw [hc'] <;> rfl
      rw [e2]
      exact hc'
  have there : ∀ {y}, scp.names.lookup y = some .free → ∃ c, (cloFrom X.env.cells scp.names []).lookup y = some c := fun {y} hl => mem_lookup (cloFrom_has (cells := X.env.cells) (acc := []) (PySem.mem_of_lookup hl))
  have cellK : ∀ {c : Addr} {v : Option Value}, H c = none → s.heap.IsCell c v → h₁.IsCell c v := by
    rintro c v n ⟨o, ho, hdat⟩
    obtain ⟨sl, q⟩ := un.any ho n List.not_mem_nil
    exact ⟨_, kp _ _ q, hdat⟩
  have noEx : ∀ b : Addr, b ∉ (lamCxD X A outer sB HZ E scp z f c').ex := fun b => List.not_mem_nil
  refine
    { ok :=
        { mod := e0.mod
          kind := L.kind
          glob := rfl
          blt := rfl
          above := Nat.le_refl _
          inj := fun y y2 c e1 e2 => I.ok.inj y y2 c (back e1) (back e2)
          has := fun y hy => ?has
          cab := fun y c q _ => absurd (show false = true from q) Bool.false_ne_true
          hd := fun _ => hd
          frames := Around.frames_deeper e0.frames
          stk := .inr ⟨rfl, rfl⟩
          exf := fun b q => absurd q (noEx b)
          bs := e0.bs
          bsz := e0.bsz
          noex := fun b _ _ => noEx b
          exfs := fun b q => absurd q (noEx b)
          funs := e0.funs
          frf := e0.frf }
      os := rfl
      bare := e0.bare
      base := Un.kept kp
      loc := ⟨_, hns, fun i y v e1 e2 e3 => ?loc⟩
      cell := fun y c e => ?cell
      free := e0.hok.fresh (Nat.le_refl _)
      freeC := fun y c e => ?freeC
      pin := fun q hq => absurd (show q ∈ ([] : List (Addr × Obj)) ++ [] from hq) List.not_mem_nil
      hok := e0.hok.kept kp
      len := ?len }
  case has =>
    rcases (show scp.names.lookup y = some .cell ∨ scp.names.lookup y = some .free from hy) with q | q
    · exact absurd rfl (L.own _ (PySem.mem_of_lookup q)).1
    · exact there q
  case loc =>
    have e3 : Vis scp y := e3
    have e1' : (hideN z X.N)[i]? = some y := e1
    rcases e3 with k | k | k
    · exfalso
      have ez : y = z := (L.own _ (PySem.mem_of_lookup k)).2 rfl
      unfold hideN at e1'
      rw [List.getElem?_map] at e1'
      cases q : X.N[i]? with
      | none =>
        rw [q] at e1'
        cases e1'
      | some n =>
        rw [q] at e1'
        have e4 : (if n = z then ("%" : Str) else n) = y := Option.some.inj e1'
        by_cases hn : n = z
        · rw [if_pos hn] at e4
          rw [← e4, hz] at k
          cases k
        · rw [if_neg hn] at e4
          exact hn (e4.trans ez)
    · exact absurd rfl (L.own _ (PySem.mem_of_lookup k)).1
    · have eN : X.N[i]? = some y := by
        unfold hideN at e1'
        rw [List.getElem?_map] at e1'
        cases q : X.N[i]? with
        | none =>
          rw [q] at e1'
          cases e1'
        | some n =>
          rw [q] at e1'
          have e4 : (if n = z then ("%" : Str) else n) = y := Option.some.inj e1'
          by_cases hn : n = z
          · rw [if_pos hn] at e4
            rw [← e4, hz] at k
            cases k
          · rw [if_neg hn] at e4
            rw [e4]
      obtain ⟨m, hn, hl⟩ := I.loc
      have vis : Vis X.env.scope y := (L.free _ (PySem.mem_of_lookup k) rfl).elim (fun q => .inr (.inl q)) fun q => .inr (.inr q)
      obtain ⟨w', r, q⟩ := hl i y v eN e2 vis
      obtain ⟨cc2, h2⟩ := there k
      refine ⟨w', r, .inr ⟨.inr k, cc2, h2, ?_⟩⟩
      have cc1 := back h2
      rcases q with ⟨k', _⟩ | ⟨_, c3, e', q3⟩
      · have k' : X.env.scope.names.lookup y = some .local := k'
        rcases L.free _ (PySem.mem_of_lookup k) rfl with kk2 | kk2 <;> rw [show X.env.scope.names.lookup y = _ from kk2] at k' <;> cases k'
      · rw [cc1] at e'
        cases e'
        exact cellK (I.freeC y _ cc1) q3
  case cell =>
    obtain ⟨w', q⟩ := I.cell y c (back e)
    exact ⟨w', cellK (I.freeC y c (back e)) q⟩
  case freeC =>
    obtain ⟨v, o, ho, _⟩ := I.cell y c (back e)
    exact un.free c o ho (I.freeC y c (back e)) List.not_mem_nil
  case len =>
    show σ.length = (hideN z X.N).length
    unfold hideN
    rw [List.length_map]
    exact I.len
end
end Kx
namespace Kx
open PySem PySem.Spec PyProof.Rows L2 SX LamX
section
variable {X : Cx} {pn0 : List (Addr × Obj)} {σ : L2.St} {Hm : Hp} {st : Shared}
/-- how the lambda's one default binds -/
def BindD (params : Arguments) (body : Expr) (scp : Scope) (z : Str) : Prop := ∀ (q : Str) (cl : List (Str × Addr)) (t : Addr) (doc pm cv ctv : Value) (tk : Tok), ∃ k,
  bindArgs (PySem.W.kdv_fn "<lambda>" q params (.expr body) scp cl (.ref t) doc pm cv ctv) ⟨[], []⟩ = seqItems? (.ref t) >>= k ∧ k (some #[.int 0 tk]) = pure [(z, .int 0 tk)]
theorem pe_actD {CXg : CXT} {Eg : XK} {Ng : List Str} {qg : Str} {sg : Scope} {g f c' t : Addr} {tk : Tok} {cdg doc pm ctv : Value} {params : Arguments} {body : Expr} {scp : Scope} {z : Str} {k i : Nat} {a : Str} {pn : List (Addr × Obj)} {xe : Value → Shared → Prop} {W : WX} {E : XK} {tb : TE} {p1 p2 : Pos}
    (I : Inv X pn0 σ Hm st) (L : LamP X.env.scope scp z) (hz : scp.names.lookup ("%" : Str) = none)
    (ht : st.heap.get? t = some (PySem.W.kdv_tup [.int 0 tk])) (htn : Hm t = none) (htr : t ∉ frs X.stack)
    (hf : st.heap.get? f = some (lamObj X params body scp (.ref t) doc pm c' ctv)) (hfn : Hm f = none) (hfr : f ∉ frs X.stack) (hbind : BindD params body scp z)
    (tk' : Takes ((cxOf CXg X.prog X.w X.K X.mg X.base Ng qg sg g cdg X.A X.stack st Hm Eg).tr pn xe) W) (hW : ∀ cls d σ' H', E cls d H' → W cls d σ' H') (hr : Room (k + 1) (X.A.deeper (envOfC qg sg st.heap.objs.size g cdg)))
    (hbody : ∀ (A : Around) (outer : List Env) (st : Shared) (Hm : Hp), Room k (A.deeper (lamEnv X scp st.heap.objs.size f c')) → PE (lamCxD X A outer st Hm E scp z f c') body tb)
    (ixN1 : Ng[i]? = some a) (visN : Vis sg a) (dbgN : (a == ("__debug__" : Str)) = false := by decide) (clsN : (a == ("__classdict__" : Str)) = false := by decide) :
    PE ((cxOf CXg X.prog X.w X.K X.mg X.base Ng qg sg g cdg X.A X.stack st Hm Eg).tr pn xe) (.Call (.Name a p1) [] [] p2)
      (fun σZ HZ Q => σZ[i]? = some (some (.ref f)) ∧ HZ c' = some (CodeO c' (lamQ X)) ∧ tb σ HZ Q) := by
  refine ⟨fun pnZ tZ σZ HZ Q IZ h => ?_⟩
  obtain ⟨hs, hc, hq⟩ := h
  refine wpAny_Call_Name_kw (thn ((pe_var (pos := p1) (i := i) ixN1 visN dbgN clsN).run pnZ tZ σZ HZ (fun v H1 => v = .ref f ∧ H1 = HZ) IZ ⟨.ref f, hs, rfl, rfl⟩) fun u s1 hh => ?_)
  obtain ⟨v, H1, I1, r1, rfl, rfl⟩ := hh
  obtain rfl : u = Value.ref f := r1
  have none_ex : ∀ {b : Addr}, b ∉ ([] : List Addr) := fun {b} => List.not_mem_nil
  have f1 := I1.base.keep f _ hf hfn hfr none_ex
  have t1 := I1.base.keep t _ ht htn htr none_ex
  refine PySem.W.callWith_F0 ⟨_, _, _, _, f1⟩ ?_
  have un : Un (frs X.stack) [] Hm H1 st.heap s1.heap := I1.base
  obtain ⟨⟨oc, vs, tq, e1, e2, e3⟩, _, _⟩ := I1.hok c' _ hc
  have run : codeAny (model X.prog X.w) (X.A.deeper (envOfC qg sg st.heap.objs.size g cdg)) (.call (.ref f) ⟨[], []⟩) (CR (L2.CX X.prog X.w) (envOfC qg sg st.heap.objs.size g cdg :: X.stack) X.prog X.w H1 s1 Q E) s1 := by
    refine PySem.W.kla_callFunE hr.depth f1 rfl L.co L.gen rfl ⟨c', oc, vs, tq, rfl, e1, e2, e3⟩ ?_
    obtain ⟨k2, b1, b2⟩ := hbind (lamQ X) (cloFrom X.env.cells scp.names []) t doc pm (.ref c') ctv tk
    refine BindsTo.of_defaults rfl t1 rfl b1 b2 _ _ _ _ ?_
    refine wpAny_newFunctionEnv (fun y hy => (L.own y hy).1) (fun y hy => ?_) (fun h₁ hns sbt => ⟨I1.nolimit.fresh _ sbt, ?_⟩) L.kind
    · obtain rfl := List.mem_singleton.mp hy
      exact L.par
    show codeAny _ _ (.expr body (lamEnv X scp s1.heap.objs.size f c')) _ _
    have kpt : ∀ b o, s1.heap.get? b = some o → h₁.get? b = some o := fun b o e => sbt.extBut b o (Nat.ne_of_lt (Heap.lt_size e)) (Heap.get?_push_of_some _ e)
    have J := lam_startD (E := E) (f := f) (c' := c') (tk := s1.toks + 1) I L hz I1.env0 hr.hd un hns kpt
    refine PySem.W.kla_codeExpr (wpAny_mono ((hbody _ _ s1 H1 (hr.deeper _)).run [] _ _ H1 Q J hq) (fun v s' q => ?_) fun _ _ q => q)
    obtain ⟨w', H', J', rv, q⟩ := q
    exact ⟨w', H', J'.os, J'.bare, J'.base, J'.hok, rv, q⟩
  have pass : Passes (L2.CX X.prog X.w) ((cxOf CXg X.prog X.w X.K X.mg X.base Ng qg sg g cdg X.A X.stack st Hm Eg).tr pn xe) E := passes_call tk' hW
  refine wpAny_call (codeAny_mono run fun r s' q => ?_)
  match r, q with
  | .error e, q => exact pass pnZ σZ H1 s1 e s' I1 q
  | .ok (.ret u), q => exact I1.after q
  | .ok .next, q => exact False.elim q
  | .ok .brk, q => exact False.elim q
  | .ok .cont, q => exact False.elim q
/-- x(lambda z=0: body) -/
theorem pe_lamcallD {T : List (Addr × Str)} {TT : (XK → Hp → VK → Prop) → Hp → VK → Prop} {x a z : Str} {g c P : Addr} {k : Nat} {pg : Arguments} {bg : List Stmt} {sg : Scope} {dV kV doc pm cdw ct oc : Value} {an od : Option Addr} {slg : Array (Option Value)} {Ng : List Str}
    {params : Arguments} {body : Expr} {scp : Scope} {t : XK → TE} {p lps pos cp : Pos} {j : Nat} (hg : Gl X x) (mgx : X.mg x = some (.ref g)) (hk : PySem.W.keepIn X.K (.ref g) = true)
    (lkg : X.K.lookup g = some ⟨oc, od, .func (PySem.W.fnOf x x pg bg sg dV kV doc pm an cdw ct), slg⟩) (cdg2 : PySem.W.codeIn X.K cdw x = true) (bdg : L2.Binds X.K (PySem.W.fnOf x x pg bg sg dV kV doc pm an cdw ct) [a] []) (Sg : FnScope Ng [a] sg) (hNg : Ng[0]? = some a) (hva : Vis sg a)
    (hG : GivesTo X Ng x sg g cdw bg a (lamQ X) TT) (TB : TabB X.base X.mg c P) (hcode : X.env.code = .ref c) (hmT : (P, lamQ X) ∈ T) (hu : ∀ p ∈ T, p.1 = P → p.2 = lamQ X) (hr : Room (k + 2) X.A)
    (L : LamP X.env.scope scp z) (hz : scp.names.lookup ("%" : Str) = none) (hp : params.defaults = [.Constant (.int 0) j cp]) (hkw : params.kw_defaults = []) (hbind : BindD params body scp z)
    (hbody : ∀ (A : Around) (outer : List Env) (st : Shared) (Hm : Hp) (E : XK) (f c' : Addr), Room k (A.deeper (lamEnv X scp st.heap.objs.size f c')) → PE (lamCxD X A outer st Hm E scp z f c') body (t E))
    (dbgX : (x == ("__debug__" : Str)) = false := by decide) (dbgN : (a == ("__debug__" : Str)) = false := by decide) (clsN : (a == ("__classdict__" : Str)) = false := by decide) :
    PE X (.Call (.Name x p) [.Lambda params body scp lps] [] pos) (tLam T TT t) := by
  refine ⟨fun pn0 st σ Hm Q I h => ?_⟩
  obtain ⟨hT, hq⟩ := h
  refine wpAny_Call_Name_kw (ld_glob I hg mgx ?_ dbgX)
  refine PySem.W.callWith_K (h₀ := X.base) I.ok.mod.kin hk ?_ (by rfl) (by rfl)
  show wpAny _ _ (spliced ((false, eval (.Lambda params body scp lps) X.env) :: backTo pos (starEach [] X.env))) _ _ st
  refine Calls.spliced_cons (lam_makeD I TB hcode hmT hu hT (L.has I.ok) hp hkw ?_)
  intro tt f c' tk doc' pm' ctv H1 s' I1 eN T1 ht nt ot hf nf of_ hco
  refine Calls.spliced_nil ⟨I1.kIn, ?_⟩
  have called : codeAny (model X.prog X.w) X.A (.call (.ref g) ⟨[.ref f], []⟩) (CR C8.CX0 X.stack X.prog X.w H1 s' Q C8.E0) s' := by
    refine run_ofS (N := Ng) (ps := [a]) (us := [.ref f]) (vs := [.ref f]) lkg cdg2 Sg hr I1.env0 (bdg s' [.ref f] I1.kIn rfl) (.cons rfl .nil) rfl fun hr' => ?_
    obtain ⟨t', d', q'⟩ := hG f c' s' H1 Q (fun E H' Q' => t E σ H' Q') (fun W pn xe E p1 p2 tk2 hW => pe_actD (i := 0) I1 L hz ht nt ot hf nf of_ hbind tk2 hW hr' (fun A outer st Hm hr2 => hbody A outer st Hm E f c' hr2) hNg hva dbgN clsN) hco (hq H1 eN T1)
    exact ⟨t', d'.nox, q'⟩
  refine wpAny_call (codeAny_mono called fun r s2 q => ?_)
  match r, q with
  | .error e, q => exact (show False from q).elim
  | .ok (.ret u), q => exact I1.after q
  | .ok .next, q => exact False.elim q
  | .ok .brk, q => exact False.elim q
  | .ok .cont, q => exact False.elim q
end
end Kx
namespace Kx
open PySem PySem.Spec PyProof.Rows L2 SX LamX
/-! ### the law's own call: guards told, tables of code objects known -/
section
variable {P : Program} {w : World} {K : PySem.W.Frag} {mg mb : Str → Option Value} {k : Nat} {fa a : Addr} {fd : FuncData} {x : Str} {sp : Sp} {s : Shared} {vs : List Value} {ns : List Int} {cs : List (Addr × Addr)}
abbrev tab0 : Obj := { cls := .none, data := .fields #[] }
abbrev scriptObj (vs : List Value) : Obj := { cls := .type "list", data := .seq vs.toArray }
/-- what is tracked when the law begins: the script, perhaps, and the tables -/
inductive Tr (cs : List (Addr × Addr)) (K : PySem.W.Frag) (a : Addr) (b : Addr) (u : HO) : Prop where
  | script (o : Obj) (xs : List V) (e : b = a) (k : K.lookup a = none) (h : u = .frz o (.lst xs))
  | table (p : Addr × Addr) (m : p ∈ cs) (e : b = p.2) (h : u = .tbl #[])
theorem lawT_of (KX : K.In s.heap) (G : s.heap.Ns mainGlobals mg) (B : s.heap.Ns builtinsNs mb) (BB : ∀ y : Str, y ≠ "__name__" → mb y = bootBuiltins y) (NL : s.heap.NoLimit) (g0 : s.gens = #[])
    (hT : ∀ p ∈ cs, s.heap.get? p.2 = some tab0 ∧ K.lookup p.2 = none ∧ PySem.W.CodeHd s.heap p.1 p.2)
    (bm : ∃ (m : Addr) (ob : Obj), mg "__builtins__" = some (.ref m) ∧ m ≠ builtinsNs ∧ s.heap.get? m = some ob ∧ ob.cls = .type "module" ∧ ob.dict = some builtinsNs ∧ ob.data = .plain)
    (ha : s.heap.get? a = some (scriptObj vs)) (hr : Room k callerA) (F : ∀ base : Heap, K.In base → base.Ns mainGlobals mg → (∀ p ∈ cs, TabB base mg p.1 p.2) → FnG P w K mg base CX0 k fa fd [x] sp)
    (bd : ∀ (t : Shared) (u : Value), BindsTo t fd ⟨[u], []⟩ [(x, u)]) (H : Hp) (tr : ∀ b u, H b = some u → Tr cs K a b u) (ok : HOk P w H s.heap) (all : ∀ p ∈ cs, H p.2 = some (.tbl #[]))
    (pr : sp [.ref a] H (fun v _ => v = .bl true) fun _ _ _ => False) : codeAny (model P w) callerA (.call (.ref fa) ⟨[.ref a], []⟩) (LawEnd s) s := by
  have stay : ∀ {b : Addr} {o : Obj}, s.heap.get? b = some o → H b = none → (hidT s.heap H).get? b = some o := fun e n => hidT_get e n
  -- what is neither a list nor an empty table is not tracked
  have off : ∀ {b : Addr} {o : Obj}, s.heap.get? b = some o → (∀ l n, o.data ≠ .seq l n) → o.data ≠ .fields #[] → H b = none := by
    intro b o e h1 h2
    cases q : H b with
    | none => rfl
    | some u =>
      exfalso
      cases tr b u q with
      | script ob xs eb _ _ =>
        rw [eb, ha] at e
        cases e
        exact h1 _ _ rfl
      | table p m eb _ =>
        rw [eb, (hT p m).1] at e
        cases e
        exact h2 rfl
  have nsK : ∀ {b : Addr} {m : Str → Option Value}, s.heap.Ns b m → (hidT s.heap H).Ns b m := by
    rintro b m ⟨o, es, ep, e, d, r⟩
    exact ⟨o, es, ep, stay e (off e (fun l n z => by rw [d] at z; cases z) (fun z => by rw [d] at z; cases z)), d, r⟩
  have Kb : K.In (hidT s.heap H) := by
    intro b o e
    refine stay (KX b o e) ?_
    cases q : H b with
    | none => rfl
    | some u =>
      exfalso
      cases tr b u q with
      | script ob xs eb kn _ =>
        rw [eb, kn] at e
        cases e
      | table p m eb _ =>
        rw [eb, (hT p m).2.1] at e
        cases e
  obtain ⟨ml, l1, l2⟩ := NL
  have TB : ∀ p ∈ cs, TabB (hidT s.heap H) mg p.1 p.2 := by
    intro p hp
    obtain ⟨t0, _, cd⟩ := hT p hp
    refine { code := ?_, bm := ?_, gP := ?_ }
    · obtain ⟨o, us, fl, tf, fg, tg, iF, tx, tt, e1, r1, r2, r3, r⟩ := cd
      refine ⟨o, us, fl, tf, fg, tg, iF, tx, tt, stay e1 (off e1 (fun l n z => by rw [r2] at z; cases z) fun z => ?_), r1, r2, r3, r⟩
      rw [r2] at z
      cases z
      simp at r3
    · obtain ⟨m, ob, b1, b2, b3, b4, b5, b6⟩ := bm
      have pl : ∀ d : Data, d = .plain → (∀ l n, d ≠ .seq l n) ∧ d ≠ .fields #[] := by
        rintro d rfl
        exact ⟨fun l n z => (by cases z), fun z => (by cases z)⟩
      refine ⟨m, ob, b1, b2, fun q => ?_, fun q => ?_, stay b3 (off b3 (pl _ b6).1 (pl _ b6).2), b4, b5, b6⟩
      · obtain ⟨o, es, ep, e, hd, _⟩ := G
        rw [q, e] at b3
        cases b3
        rw [hd] at b6
        cases b6
      · rw [q, t0] at b3
        cases b3
        cases b6
    · intro z
      obtain ⟨o, es, ep, e, hd, _⟩ := G
      rw [z, t0] at e
      cases e
      cases hd
  have E0 : Env0 P w K mg (hidT s.heap H) callerA [] s H :=
    { frames := rfl
      mod := { kin := Kb, glob := nsK G, blt := ⟨mb, nsK B, BB⟩, nolimit := ⟨ml, nsK l1, l2⟩ }
      bs := fun b o e => of_hidT e
      bsz := Nat.le_of_eq (hidT_size _ _)
      funs := trivial
      frf := fun b hb => absurd hb (List.not_mem_nil)
      hok := ok
      bare := .of_eq g0 }
  refine codeAny_mono ((F _ Kb (nsK G) TB).go callerA [] s H ⟨[.ref a], []⟩ [.ref a] [.ref a] _ _ rfl hr E0 (bd s (.ref a)) (.cons rfl .nil) pr) ?_
  intro r t h
  match r, h with
  | .error e, h =>
    exact (show False from h).elim
  | .ok .next, h => exact False.elim h
  | .ok .brk, h => exact False.elim h
  | .ok .cont, h => exact False.elim h
  | .ok (.ret u), h =>
    obtain ⟨v, H', h1, h2, un, ok', rv, rfl⟩ := h
    cases rv
    have grown : ∀ p ∈ cs, ∃ more : Array Value, t.heap.get? p.2 = some { cls := .none, data := .fields more } := by
      intro p hp
      obtain ⟨more, q⟩ := un.tbls p.2 #[] (all p hp)
      exact ⟨_, ok' p.2 _ q⟩
    have kept : ∀ b o, (∀ p ∈ cs, b ≠ p.2) → s.heap.get? b = some o → t.heap.get? b = some o := by
      intro b o nb e
      cases q : H b with
      | none => exact un.keep b o e q List.not_mem_nil List.not_mem_nil
      | some u =>
        cases tr b u q with
        | script ob xs eb _ eu =>
          rw [eu] at q
          have e1 := (ok b _ q).1
          have e2 := (ok' b _ (un.frzs b ob _ q)).1
          rw [e] at e1
          cases e1
          exact e2
        | table p m eb _ => exact absurd eb (nb p m)
    refine ⟨rfl, ⟨fun b o e => ?_, fun b o e => ?_⟩, h1, h2⟩
    · by_cases hb : ∃ p ∈ cs, b = p.2
      · obtain ⟨p, hp, rfl⟩ := hb
        obtain ⟨t0, _, cd⟩ := hT p hp
        obtain ⟨more, q⟩ := grown p hp
        rw [t0] at e
        cases e
        exact .inr (.inl ⟨(cd.tab t0).isCodeTable, rfl, #[], more, rfl, by rw [Array.empty_append]; exact q⟩)
      · exact .inl (kept b o (fun p hp z => hb ⟨p, hp, z⟩) e)
    · by_cases hb : ∃ p ∈ cs, b = p.2
      · obtain ⟨p, hp, rfl⟩ := hb
        obtain ⟨more, q⟩ := grown p hp
        exact ⟨_, q⟩
      · exact ⟨o, kept b o (fun p hp z => hb ⟨p, hp, z⟩) e⟩
theorem lawT (KX : K.In s.heap) (G : s.heap.Ns mainGlobals mg) (B : s.heap.Ns builtinsNs mb) (BB : ∀ y : Str, y ≠ "__name__" → mb y = bootBuiltins y) (NL : s.heap.NoLimit) (g0 : s.gens = #[])
    (hT : ∀ p ∈ cs, s.heap.get? p.2 = some tab0 ∧ K.lookup p.2 = none ∧ PySem.W.CodeHd s.heap p.1 p.2)
    (bm : ∃ (m : Addr) (ob : Obj), mg "__builtins__" = some (.ref m) ∧ m ≠ builtinsNs ∧ s.heap.get? m = some ob ∧ ob.cls = .type "module" ∧ ob.dict = some builtinsNs ∧ ob.data = .plain)
    (ha : s.heap.get? a = some (scriptObj vs)) (hi : IntsAre vs ns) (hl : ns.length ≤ sizeLine) (hr : Room k callerA)
    (F : ∀ base : Heap, K.In base → base.Ns mainGlobals mg → (∀ p ∈ cs, TabB base mg p.1 p.2) → FnG P w K mg base CX0 k fa fd [x] sp) (bd : ∀ (t : Shared) (u : Value), BindsTo t fd ⟨[u], []⟩ [(x, u)])
    (pr : ∀ H : Hp, (∀ p ∈ cs, H p.2 = some (.tbl #[])) → SqL K H a (ns.map V.int) → (∀ b u, H b = some u → Tr cs K a b u) → sp [.ref a] H (fun v _ => v = .bl true) fun _ _ _ => False) :
    codeAny (model P w) callerA (.call (.ref fa) ⟨[.ref a], []⟩) (LawEnd s) s := by
  have rv := vals_ints hi
  have na : ∀ p ∈ cs, p.2 ≠ a := by
    intro p hp z
    have e := (hT p hp).1
    rw [z, ha] at e
    cases e
  let tabs : Hp := fun b => if b ∈ cs.map (·.2) then some (.tbl #[]) else none
  have isT : ∀ p ∈ cs, tabs p.2 = some (.tbl #[]) := fun p hp => if_pos (List.mem_map.mpr ⟨p, hp, rfl⟩)
  have ofT : ∀ b u, tabs b = some u → ∃ p ∈ cs, b = p.2 ∧ u = .tbl #[] := by
    intro b u q
    by_cases hb : b ∈ cs.map (·.2)
    · obtain ⟨p, hp, e⟩ := List.mem_map.mp hb
      have q' : some (HO.tbl #[]) = some u := (if_pos hb).symm.trans q
      exact ⟨p, hp, e.symm, (Option.some.inj q').symm⟩
    · have q' : (none : Option HO) = some u := (if_neg hb).symm.trans q
      cases q'
  cases hk : K.lookup a with
  | some o =>
    have e := KX a o hk
    rw [ha] at e
    cases e
    have tr : ∀ b u, tabs b = some u → Tr cs K a b u := fun b u q => by
      obtain ⟨p, hp, e1, e2⟩ := ofT b u q
      exact .table p hp e1 e2
    refine lawT_of KX G B BB NL g0 hT bm ha hr F bd tabs tr (fun b u q => ?_) isT (pr tabs isT (.inr ⟨_, vs.toArray, _, hk, rfl, rfl, rfl, ?_, by simpa using rv⟩) tr)
    · obtain ⟨p, hp, rfl, rfl⟩ := ofT b u q
      exact (hT p hp).1
    · rw [List.size_toArray, hi.length]
      exact hl
  | none =>
    let Ha : Hp := fun b => if b = a then some (.frz (scriptObj vs) (.lst (ns.map V.int))) else tabs b
    have at_a : Ha a = some (.frz (scriptObj vs) (.lst (ns.map V.int))) := if_pos rfl
    have but : ∀ b, b ≠ a → Ha b = tabs b := fun b hb => if_neg hb
    have tr : ∀ b u, Ha b = some u → Tr cs K a b u := by
      intro b u q
      by_cases hb : b = a
      · rw [hb, at_a] at q
        exact .script _ _ hb hk (Option.some.inj q).symm
      · rw [but b hb] at q
        obtain ⟨p, hp, e1, e2⟩ := ofT b u q
        exact .table p hp e1 e2
    have isH : ∀ p ∈ cs, Ha p.2 = some (.tbl #[]) := fun p hp => (but _ (na p hp)).trans (isT p hp)
    refine lawT_of KX G B BB NL g0 hT bm ha hr F bd Ha tr (fun b u q => ?_) isH (pr Ha isH (.inl (.inr ⟨scriptObj vs, at_a⟩)) tr)
    by_cases hb : b = a
    · subst hb
      rw [at_a] at q
      cases q
      exact ⟨ha, by rw [List.length_map]; exact hl, vs, _, rv, ha⟩
    · rw [but b hb] at q
      obtain ⟨p, hp, rfl, rfl⟩ := ofT b u q
      exact (hT p hp).1
end
open PySem.W in
/-- the goal that the head leaves; cs: the defs that make lambdas, each with its code object and its table -/
theorem walkT {l : OpenLaw} {n k : Nat} {q : Program} {loose : List Str} {XP : (Str → Option Value) → Heap → Prop} {YP : World → Heap → Prop} {d : DefRec} {K : Params → Frag} {sp : Frag → Sp} {x : Str} {cs : Params → List (Str × Addr × Addr)}
    (hn : l.most = some n) (hz : n ≤ sizeLine) (h0 : d.params.defaults = []) (hr : Room k callerA) (hY : ∀ (w : World) (h : Heap), YP w h → (K w.params).In h)
    (hc : ∀ p, ∀ e ∈ cs p, (∃ r, (recsOf q).find? (fun r => r.name == e.1) = some r) ∧ tabIn (K p) e.1 = some e.2 ∧ (K p).lookup e.2.2 = none)
    (F : ∀ (w : World) (mg : Str → Option Value) (fa : Addr) (h : Heap), (K w.params).In h → h.Ns mainGlobals mg → mg d.name = some (.ref fa) → ∃ fd : FuncData,
      (∀ (t : Shared) (u : Value), BindsTo t fd ⟨[u], []⟩ [(x, u)]) ∧ ∀ base : Heap, (K w.params).In base → base.Ns mainGlobals mg → (∀ e ∈ cs w.params, TabB base mg e.2.1 e.2.2) → FnG l.prog w (K w.params) mg base CX0 k fa fd [x] (sp (K w.params)))
    (pr : ∀ (p : Params) (H : Hp) (a : Addr) (ns : List Int), ns.length ≤ n → (∀ e ∈ cs p, H e.2.2 = some (.tbl #[])) → SqL (K p) H a (ns.map V.int) → (∀ b u, H b = some u → Tr ((cs p).map (·.2)) (K p) a b u) → sp (K p) [.ref a] H (fun v _ => v = .bl true) fun _ _ _ => False) :
    WalkO q loose XP YP l.row.toRowW d [] (fun f us => PySem.call f us) := by
  refine Att.attach_call hn h0 ?_
  intro w s₀ s₁ mg mb fa o pm cd doc a us ns G Y ho hd hcd hm hobj hints hlen hg
  have KX := hY w _ Y
  obtain ⟨fd, hb, hF⟩ := F w mg fa _ KX G.T.g hm
  have lift : ∀ {φ : Addr × Addr → Prop}, (∀ p ∈ (cs w.params).map (·.2), φ p) ↔ ∀ e ∈ cs w.params, φ e.2 := by
    intro φ
    constructor
    · intro h e he
      exact h _ (List.mem_map.mpr ⟨e, he, rfl⟩)
    · intro h p hp
      obtain ⟨e, he, rfl⟩ := List.mem_map.mp hp
      exact h e he
  refine lawT (cs := (cs w.params).map (·.2)) KX G.T.g G.T.b G.T.builtins G.T.nolimit hg (lift.mpr fun e he => ?_) G.T.bmain hobj hints (Nat.le_trans hlen hz) hr (fun base h1 h2 h3 => hF base h1 h2 (lift.mp h3)) hb fun H h1 h2 h3 => pr _ H a ns hlen (lift.mp h1) h2 h3
  obtain ⟨⟨r, e1⟩, e2, e3⟩ := hc w.params e he
  obtain ⟨t1, t2⟩ := tab_of G.T KX e1 e2
  exact ⟨t2, e3, t1⟩
end Kx
namespace Kx
open PySem PySem.Spec PyProof.Rows L2 SX LamX
section
variable {X : Cx}
/-! ### repr of data -/
def rRepr (K : PySem.W.Frag) : List V → Hp → VK → Prop := fun xs H Q => ∃ (a : Addr) (d : PyData), xs = [.ref a] ∧ Dp K H (.ref a) d ∧ d.showable = true ∧ d.hasDict = false ∧ d.depth ≤ 60 ∧ d.shown.length ≤ sizeLine ∧ Q (.str d.shown) H
theorem call_reprD (hg : X.A.guards = some []) (hu : X.A.units + 64 < cLine) : CallR X (.builtin "repr") (rRepr X.K) := by
  intro pins s σ H xs us Q I r h
  obtain ⟨a, d, rfl, hd, hs, hn, hp, hl, q⟩ := h
  cases r with
  | cons r0 rr =>
    cases rr
    obtain ⟨as, rd⟩ := Dp.reads I d _ _ hd r0
    cases r0
    refine repr_of_reads' rd hs (PyData.noDict_hsm hn) hg (by omega) (fun _ _ e => e) (fun h' u tk k => ?_) hl
    exact ⟨.str d.shown, H, I.kept k, ⟨u, rfl⟩, q⟩
/-! ### f(k = v, ..): keywords alone -/
theorem pe_callK0 {CX : CXT} {k : Nat} {f : Addr} {fd : FuncData} {ps ks : List Str} {sp : Sp} {E : XK} {x : Str} {p pos : Pos} {kws : List Keyword} {tk : TA} {g : List Value → List Value → List Value} {gV : List V → List V → List V}
    (F : FnOk X.prog X.w X.K X.mg X.base CX k f fd ps sp) (hr : Room k X.A) (hg : Gl X x) (hm : X.mg x = some (.ref f)) (hk : PySem.W.keepIn X.K (.ref f) = true) (hb : KBinds X.K fd ps ks g gV) (hx : Passes CX X E) (hkw : PK X kws tk)
    (hall : (backToKw pos (keywordEach kws X.env)).all (·.1.isSome) = true := by rfl) (hks : (backToKw pos (keywordEach kws X.env)).filterMap (·.1) = ks := by rfl) (hdb : (x == ("__debug__" : Str)) = false := by decide)
    (hpl : ((backTo pos (starEach [] X.env)).any (·.1) || (backToKw pos (keywordEach kws X.env)).any (·.1.isNone)) = false := by rfl) : PE X (.Call (.Name x p) [] kws pos) (tCallK sp gV E tNil tk) := by
  refine ⟨fun pins s σ H Q I h => ?_⟩
  apply wpAny_Call_Name_kw
  refine ld_glob I hg hm ?_ hdb
  refine PySem.W.callWith_KW0 (h₀ := X.base) I.ok.mod.kin hk hall (thn (hkw.run pos pins s σ H _ I h) fun ws s2 hh => ?_) hpl
  obtain ⟨zs, H2, I2, rz, q2⟩ := hh
  refine ⟨I2.kIn, ?_⟩
  rw [hks]
  exact run_fnk (us := []) F hr hb hx I2 .nil rz q2
/-! ### an exception that a name holds -/
/-- isinstance of it -/
def rIsX (K : PySem.W.Frag) : List V → Hp → VK → Prop := fun xs H Q => ∃ (a D dd : Addr) (fs : List (Str × V)) (c : V) (cv : Value) (b : Bool), xs = [.ref a, c] ∧ H a = some (exT a (.ref D) (some dd)) ∧ H dd = some (.xd fs) ∧ ExcC K D ∧
  (∀ u, RelV c u → u = cv) ∧ PySem.W.kitOne K (.ref D) cv = some b ∧ Q (.bl b) H
theorem exT_at {P : Program} {w : World} {H : Hp} {h : Heap} {a : Addr} {cls : Value} {d : Option Addr} (hok : HOk P w H h) (e : H a = some (exT a cls d)) : ∃ (oe : Obj) (vs : Array Value), h.get? a = some oe ∧ Zc cls d oe ∧ oe.data = .fields vs := by
  have q : ObjOk P w H h a (exT a cls d) := hok a _ e
  exact q.1
theorem inst_at {pins : List (Addr × Obj)} {σ : L2.St} {H : Hp} {s : Shared} {a D dd : Addr} {fs : List (Str × V)} (I : Inv X pins σ H s) (e : H a = some (exT a (.ref D) (some dd))) (ed : H dd = some (.xd fs)) :
    ∃ (oe od : Obj) (mA : Str → Option Value), PySem.W.InstAt s.heap a oe D (some od) ∧ (∀ n, PySem.W.lookIn n od = some (mA n)) ∧ ∀ n, RelO (fs.lookup n) (mA n) := by
  obtain ⟨oe, vs, h1, h2, h3⟩ := exT_at I.hok e
  have hx : ObjOk X.prog X.w H s.heap dd (.xd fs) := I.hok dd _ ed
  obtain ⟨mA, hns, hr⟩ := hx
  obtain ⟨od, ho, hl⟩ := lookIn_ns hns
  refine ⟨oe, od, mA, { at_ := h1, cls := h2.1, no := ?_, dict := ?_ }, hl, hr⟩
  · unfold PySem.W.notCls
    rw [h3] <;> rfl
  · rw [h2.2]
    exact ho
theorem call_isX : CallR X (.builtin "isinstance") (rIsX X.K) := by
  intro pins s σ H xs us Q I r h
  obtain ⟨a, D, dd, fs, c, cv, b, rfl, e, ed, C, hc, hk, q⟩ := h
  obtain ⟨u1, u2, rfl, r1, r2⟩ := vals2 r
  obtain rfl : u1 = Value.ref a := r1
  obtain rfl := hc _ r2
  obtain ⟨oe, od, mA, J, _, _⟩ := inst_at I e ed
  have cls : (PySem.W.clsIn X.K D).isSome = true := by
    obtain ⟨cd, hcd, _⟩ := PySem.W.any_some C.hd
    rw [hcd]
    rfl
  exact PySem.W.kia_one (PySem.W.kitx_exc cls C.hg C.hk C.hs C.ha C.hn C.ht C.hm) I.kIn J hk (fun z => nomatch z) fun tk => ⟨.bl b, H, I.kept (t' := tk) fun _ _ z => z, rfl, q⟩
def rIsiX (K : PySem.W.Frag) : List V → Hp → VK → Prop := fun xs H Q => rIsi K xs H Q ∨ rIsX K xs H Q
theorem call_isiX : CallR X (.builtin "isinstance") (rIsiX X.K) := fun pins s σ H xs us Q I r h => h.elim (call_isi pins s σ H xs us Q I r) (call_isX pins s σ H xs us Q I r)
/-- e.n, e's value such an exception -/
def tXp (K : PySem.W.Frag) (n : Str) (te : TE) : TE := fun σ H Q => te σ H fun x H1 => ∃ (a D dd : Addr) (fs : List (Str × V)) (v : V), x = .ref a ∧ H1 a = some (exT a (.ref D) (some dd)) ∧ H1 dd = some (.xd fs) ∧ XfC K D ∧ PySem.W.findIn K (.ref D) n = some none ∧ fs.lookup n = some v ∧ Q v H1
theorem pe_xp {e : Expr} {te : TE} {n : Str} {pos : Pos} (he : PE X e te) (hb : attributeBase e n X.env (eval e X.env) = eval e X.env := by rfl) : PE X (.Attribute e n pos) (tXp X.K n te) := by
  refine ⟨fun pins s σ H Q I h => ?_⟩
  refine attr_of hb (thn (he.run pins s σ H _ I h) fun u s1 hh => ?_)
  obtain ⟨x, H1, I1, rx, a, D, dd, fs, v, rfl, e1, e2, T, hno, hl, q⟩ := hh
  obtain rfl : u = Value.ref a := rx
  obtain ⟨oe, od, mA, J, look, rel⟩ := inst_at I1 e1 e2
  obtain ⟨w, hw, rw'⟩ := RelO.some_of (v := v) (o := mA n) (by rw [← hl]; exact rel n)
  exact HandSPX.exc_get I1.kIn J T.ga T.gg T.exC (PySem.W.findObj_own T.hdC hno rfl (by rw [look, hw])) (handed_of rw') ⟨v, H1, I1.tok _, rw', q⟩
end
end Kx
namespace Kx
open PySem PySem.Spec PyProof.Rows L2 SX LamX
/-! ### an error class of the program: one field, part -/
structure Er (K : PySem.W.Frag) (mg : Str → Option Value) (x qual : Str) (st : Stmt) (base : Str) where
  C : Addr
  L : Addr
  fI : Addr
  fd : FuncData
  gC : mg x = some (.ref C)
  gL : mg base = some (.ref L)
  oex : OexC K C
  iC : PySem.W.findIn K (.ref C) "__init__" = some (some (.ref fI))
  tI : PySem.W.typeIn K (.ref fI) = some (.type "function")
  F : Fun K "__init__" qual st fI fd
  b : Binds K fd ["self", "part"] []
  np : PySem.W.findIn K (.ref C) "part" = some none
  exc : ExcC K C
  xf : XfC K C
  em : PySem.W.exmOne K (.ref C) (.ref L) = some true
/-- its making, out of what the top left -/
def er_mk {K : PySem.W.Frag} {h : Heap} {mg : Str → Option Value} (X : K.In h) (G : h.Ns mainGlobals mg) {x qual : Str} {st : Stmt} {base : Str} {C L fI N : Addr} {nm q : Str} {bs bm : List Value} {sn : List Str} {sub : List Value} {ab : Bool} {col : Option Bool} {dd : Option Addr} {m0 m1 m2 m3 m5 : Option Value}
    {od an : Option Addr} {sl : Array (Option Value)} {oc kV dc pm cd ct : Value} (aC : PySem.W.nsIn K mainGlobals x = some (some (.ref C))) (aL : PySem.W.nsIn K mainGlobals base = some (some (.ref L)))
    (xL : K.lookup C = some (excClassObj nm q C N bs bm true sn sub ab col dd m0 m1 m2 m3 m5 "ValueError.__new__")) (hbm : PySem.HandSPX.refsVE bm = true)
    (sa : PySem.W.findIn K (.ref C) "__setattr__" = some (some (.builtin "object.__setattr__"))) (eC : PySem.W.subIn K (.ref C) (.type "BaseException") = some true) (tC : PySem.W.typeIn K (.ref C) = some (.type "type")) (kC : PySem.W.keepIn K (.ref C) = true)
    (a1 : PySem.W.findIn K (.ref C) "__init__" = some (some (.ref fI))) (t1 : PySem.W.typeIn K (.ref fI) = some (.type "function"))
    (l1 : K.lookup fI = some ⟨oc, od, .func (PySem.W.fnOf "__init__" qual (defArgs st) (defBody st) (defScope st) .none kV dc pm an cd ct), sl⟩) (c1 : PySem.W.codeIn K cd qual = true) (k1 : PySem.W.keepIn K (.ref fI) = true)
    (b1 : ∀ (kV doc pm : Value) (an : Option Addr) (cdv ct : Value) (us : List Value), us.length = (["self", "part"] : List Str).length → bindArgs (PySem.W.fnOf "__init__" qual (defArgs st) (defBody st) (defScope st) .none kV doc pm an cdv ct) ⟨us, []⟩ = pure ((["self", "part"] : List Str).zip us))
    (nb : PySem.W.findIn K (.ref C) "part" = some none) (ga : PySem.W.findIn K (.ref C) "__getattribute__" = some (some (.builtin "BaseException.__getattribute__"))) (gg : PySem.W.findIn K (.ref C) "__getattr__" = some none) (hd : PySem.W.hasDictIn K C = true)
    (hc : PySem.W.findIn K (.ref C) "__class__" = some (some (.builtin "object.__class__"))) (hn : PySem.W.specialIn K (.builtin "object.__class__") "__get__" = some (some (.builtin "getset_descriptor.__get__"))) (ht : PySem.W.takesIn K (.builtin "object.__class__") = some true)
    (hm : PySem.W.mroIn K C (.type "object") = some true) (eL : PySem.W.subIn K (.ref L) (.type "BaseException") = some true) (dL : PySem.W.hasDictIn K L = true) (tL : PySem.W.typeIn K (.ref L) = some (.type "type")) (sCL : PySem.W.subIn K (.ref C) (.ref L) = some true) : Er K mg x qual st base where
  C := C
  L := L
  fI := fI
  fd := _
  gC := PySem.W.mg_of X G aC
  gL := PySem.W.mg_of X G aL
  oex := ⟨⟨nm, q, N, bs, bm, sn, sub, ab, col, dd, m0, m1, m2, m3, m5, xL, hbm⟩, sa, eC, tC, kC⟩
  iC := a1
  tI := t1
  F := fun_mk (st := st) l1 c1 k1
  b := (fun_mk (st := st) l1 c1 k1).binds (ps := ["self", "part"]) b1
  np := nb
  exc := ⟨ga, gg, eC, hd, hc, hn, ht, hm⟩
  xf := ⟨ga, gg, eC, hd⟩
  em := PySem.W.exm_ref eL dL tL sCL
theorem passF {X : Cx} : Passes (L2.CX X.prog X.w) X (fun _ _ _ => False) := fun _ _ _ _ _ _ _ z => by
  obtain ⟨_, _, _, _, _, _, _, _, _, _, _, _, f⟩ := z
  exact f.elim
/-- the promise of such an __init__: self.part = part -/
def sp_init (K : PySem.W.Frag) : Sp := fun vs H Q _ => ∃ (a C : Addr) (y : V), vs = [.ref a, y] ∧ OexC K C ∧ PySem.W.findIn K (.ref C) "part" = some none ∧ H a = some (exo a C none) ∧
  ∀ dx, H dx = none → dx ≠ a → Q .non (upd (upd H dx (exd dx [("part", y)])) a (exo a C (some dx)))
section
variable {P : Program} {w : World} {K : PySem.W.Frag} {mg : Str → Option Value} {base : Heap}
/-- the body of such an __init__ -/
def IsInit (st : Stmt) : Prop := ∃ p1 p2 p3 p4, defBody st = [.Assign [.Attribute (.Name "self" p1) "part" p2] (.Name "part" p3) p4] ∧ FnScope ["self", "part"] ["self", "part"] (defScope st) ∧ (defScope st).names.lookup ("self" : Str) = some .local ∧ (defScope st).names.lookup ("part" : Str) = some .local
theorem ok_init {x qual : Str} {st : Stmt} {bs : Str} (e : Er K mg x qual st bs) (h : IsInit st) : FnOk P w K mg base CX0 1 e.fI e.fd ["self", "part"] (sp_init K) := by
  obtain ⟨p1, p2, p3, p4, hb, sc, v1, v2⟩ := h
  refine e.F.ok sc (fun vs H Q E h => ?_) (fun cdv A outer s H vs Q E hr h => ?_)
  · obtain ⟨a, C, y, rfl, _⟩ := h
    rfl
  · obtain ⟨a, C, y, rfl, o, n, ha, q⟩ := h
    rw [hb]
    refine ⟨_, pss_one (ps_ost (pv 0 rfl (.inl v1)) (pv 1 rfl (.inl v2))), ?_⟩
    exact ⟨y, rfl, .ref a, rfl, a, C, rfl, o, n, .inl ⟨ha, q⟩⟩
end
/-! ### a choice of rules -/
section
variable {X : Cx}
theorem pi_either {tg it : Expr} {w1 w2 : TI} (h1 : PI X tg it w1) (h2 : PI X tg it w2) : PI X tg it (fun σ H R => w1 σ H R ∨ w2 σ H R) := ⟨fun pins s σ H R I h => h.elim (h1.run pins s σ H R I) (h2.run pins s σ H R I)⟩
theorem pe_either {e : Expr} {t1 t2 : TE} (h1 : PE X e t1) (h2 : PE X e t2) : PE X e (fun σ H Q => t1 σ H Q ∨ t2 σ H Q) := ⟨fun pins s σ H Q I h => h.elim (h1.run pins s σ H Q I) (h2.run pins s σ H Q I)⟩
theorem pi_seq {tg it : Expr} {tl : TE} (h : PE X it tl) : PI X tg it (fun σ H R => iList X.K tl σ H R ∨ iTup X.K tl σ H R) := pi_either (pi_list h) (pi_tup h)
end
end Kx
namespace Kx
open PySem PySem.Spec PyProof.Rows L2 SX LamX
theorem tyx_same {K : PySem.W.Frag} {H H' : Hp} {x : V} {n : String} (e : Same H H') (h : TyX K H x (.type n)) : TyX K H' x (.type n) := by
  cases h with
  | base b =>
    cases b with
    | non => exact .base .non
    | bl y => exact .base (.bl y)
    | int i => exact .base (.int i)
    | str z => exact .base (.str z)
    | flt z => exact .base (.flt z)
    | lst h => exact .base (.lst (e _ _ h))
    | frz h => exact .base (.frz (e _ _ h))
    | tup h => exact .base (.tup (e _ _ h))
    | dK h => exact .base (.dK (e _ _ h))
    | dT h => exact .base (.dT (e _ _ h))
  | byt b => exact .byt b
  | set h => exact .set (e _ _ h)
  | kList h c => exact .kList h c
  | kTuple h c => exact .kTuple h c
  | kDict h c => exact .kDict h c
  | fTuple h => exact .fTuple (e _ _ h)
  | fDict h => exact .fDict (e _ _ h)
/-! ### integers with bounds, of any value -/
def isIntV : V → Bool
  | .int _ => true
  | _ => false
/-- what the checks ask of a value's type -/
def HasInt (K : PySem.W.Frag) (H : Hp) (x : V) : Prop := ∃ (n : String) (a b : Bool), TyX K H x (.type n) ∧ kitB n "int" = some a ∧ kitB n "bool" = some b ∧ (a && !b) = isIntV x
theorem HasInt.same {K : PySem.W.Frag} {H H' : Hp} {x : V} (e : Same H H') (h : HasInt K H x) : HasInt K H' x := by
  obtain ⟨n, a, b, t, r⟩ := h
  exact ⟨n, a, b, tyx_same e t, r⟩
theorem hasInt_int {K : PySem.W.Frag} {H : Hp} (i : Int) : HasInt K H (.int i) := ⟨"int", true, false, .base (.int i), by decide +kernel, by decide +kernel, rfl⟩
theorem hasInt_bl {K : PySem.W.Frag} {H : Hp} (i : Bool) : HasInt K H (.bl i) := ⟨"bool", true, true, .base (.bl i), by decide +kernel, by decide +kernel, rfl⟩
theorem hasInt_str {K : PySem.W.Frag} {H : Hp} (i : Str) : HasInt K H (.str i) := ⟨"str", false, false, .base (.str i), by decide +kernel, by decide +kernel, rfl⟩
theorem hasInt_non {K : PySem.W.Frag} {H : Hp} : HasInt K H .non := ⟨"NoneType", false, false, .base .non, by decide +kernel, by decide +kernel, rfl⟩
theorem hasInt_lst {K : PySem.W.Frag} {H : Hp} {a : Addr} {xs : List V} (h : SqL K H a xs) : HasInt K H (.ref a) := ⟨"list", false, false, tyL h, by decide +kernel, by decide +kernel, rfl⟩
theorem hasInt_tup {K : PySem.W.Frag} {H : Hp} {a : Addr} {xs : List V} (h : SqT K H a xs) : HasInt K H (.ref a) := ⟨"tuple", false, false, tyT h, by decide +kernel, by decide +kernel, rfl⟩
/-- a bound: none, or an int -/
def bdV : Option Int → V
  | none => .non
  | some i => .int i
def loB (i : Int) : Option Int → Bool
  | none => true
  | some l => decide (l ≤ i)
def hiB (i : Int) : Option Int → Bool
  | none => true
  | some h => decide (i ≤ h)
def withinB (i : Int) (lo hi : Option Int) : Bool := loB i lo && hiB i hi
def withinV (x : V) (lo hi : Option Int) : Bool := match x with
  | .int i => withinB i lo hi
  | _ => false
end Kx
namespace Kx
open PySem PySem.Spec PyProof.Rows L2 SX LamX
/-! ### the draws' wheel: cells, how many were begun, what is left -/
def Wh (H : Hp) (a c : Addr) (n : Nat) : Prop := ∃ (cs : List Int) (t l : Int), H a = some (.lst [.ref c, .int t, .int l]) ∧ H c = some (.lst (cs.map V.int)) ∧ cs.length ≤ 60 ∧ 0 ≤ t ∧ t ≤ n
/-- all that was tracked, but for what stands at a, is as it was -/
def Mv (a : Addr) (H H' : Hp) : Prop := ∀ b o, b ≠ a → H b = some o → H' b = some o
theorem Mv.refl (a : Addr) (H : Hp) : Mv a H H := fun _ _ _ h => h
theorem Mv.trans {a : Addr} {H H1 H2 : Hp} (x : Mv a H H1) (y : Mv a H1 H2) : Mv a H H2 := fun b o n h => y b o n (x b o n h)
theorem Mv.of {a : Addr} {H H1 : Hp} (x : Same H H1) : Mv a H H1 := fun b o _ h => x b o h
theorem Mv.upd (a : Addr) (H : Hp) (o : HO) : Mv a H (upd H a o) := fun b p n h => by rw [upd_ne n]; exact h
theorem Mv.same {a : Addr} {H H1 : Hp} (x : Mv a H H1) (h : H a = none) : Same H H1 := fun b o e => x b o (fun z => by rw [z, h] at e; cases e) e
theorem Wh.lt {H : Hp} {a c : Addr} {n m : Nat} (h : Wh H a c n) (l : n ≤ m) : Wh H a c m := by
  obtain ⟨cs, t, l', h1, h2, h3, h4, h5⟩ := h
  exact ⟨cs, t, l', h1, h2, h3, h4, by omega⟩
theorem Wh.same {H H' : Hp} {a c : Addr} {n : Nat} (h : Wh H a c n) (e : Same H H') : Wh H' a c n := by
  obtain ⟨cs, t, l', h1, h2, h3⟩ := h
  exact ⟨cs, t, l', e _ _ h1, e _ _ h2, h3⟩
theorem wh_set {H : Hp} {a c : Addr} {cs : List Int} {t l : Int} {n : Nat} {u : List V} (h1 : H a = some (.lst u)) (h2 : H c = some (.lst (cs.map V.int))) (hac : a ≠ c) (h3 : cs.length ≤ 60) (h4 : 0 ≤ t) (h5 : t ≤ n) : Wh (upd H a (.lst [.ref c, .int t, .int l])) a c n :=
  ⟨cs, t, l, upd_same, by rw [upd_ne (fun e => hac e.symm)]; exact h2, h3, h4, h5⟩
theorem wh_ac {H : Hp} {a c : Addr} {cs : List Int} {t l : Int} (h1 : H a = some (.lst [.ref c, .int t, .int l])) (h2 : H c = some (.lst (cs.map V.int))) : a ≠ c := by
  intro e
  rw [← e, h1] at h2
  injection h2 with h2
  injection h2 with h2
  cases cs with
  | nil => cases h2
  | cons x xs => injection h2 with h2 _; cases h2
/-! ### data: lists that are laid, compared -/
theorem canLayAll_of : ∀ (ds : List PyData), (∀ d ∈ ds, d.canLay0 = true) → PyData.canLayAll0 ds = true
  | [], _ => rfl
  | d :: ds, h => by
    have h1 := h d (List.mem_cons_self ..)
    have h2 := canLayAll_of ds fun e m => h e (List.mem_cons_of_mem _ m)
    show (d.canLay0 && PyData.canLayAll0 ds) = true
    rw [h1, h2]
    rfl
theorem depthAll_of {k : Nat} : ∀ (ds : List PyData), (∀ d ∈ ds, d.depth ≤ k) → PyData.depthAll ds ≤ k
  | [], _ => Nat.zero_le _
  | d :: ds, h => by
    have h1 := h d (List.mem_cons_self ..)
    have h2 := depthAll_of ds fun e m => h e (List.mem_cons_of_mem _ m)
    show max d.depth (PyData.depthAll ds) ≤ k
    omega
/-- plain data of a depth -/
def Pl (k : Nat) (d : PyData) : Prop := d.canLay0 = true ∧ d.depth ≤ k
theorem Pl.lst {k : Nat} {ds : List PyData} (h : ∀ d ∈ ds, Pl k d) : Pl (k + 1) (.list ds) :=
  ⟨canLayAll_of ds fun d m => (h d m).1, Nat.succ_le_succ (depthAll_of ds fun d m => (h d m).2)⟩
theorem Pl.tup {k : Nat} {ds : List PyData} (h : ∀ d ∈ ds, Pl k d) : Pl (k + 1) (.tuple ds) :=
  ⟨canLayAll_of ds fun d m => (h d m).1, Nat.succ_le_succ (depthAll_of ds fun d m => (h d m).2)⟩
theorem Pl.shaped {k : Nat} {d : PyData} (h : Pl k d) (hk : k ≤ 64) : SeqAt.shaped d = true := by
  show (d.canLay0 && decide (d.depth ≤ 64)) = true
  rw [h.1, decide_eq_true (Nat.le_trans h.2 hk)]
  rfl
theorem pl_int (k : Nat) (i : Int) : Pl k (.int i) := ⟨rfl, Nat.zero_le _⟩
theorem pl_ints (xs : List Int) : Pl 1 (.list (xs.map PyData.int)) := Pl.lst fun d m => by
  obtain ⟨i, _, rfl⟩ := List.mem_map.mp m
  exact pl_int 0 i
theorem dpAll_map {K : PySem.W.Frag} {H : Hp} {α : Type} {f : α → V} {g : α → PyData} : ∀ (xs : List α), (∀ x ∈ xs, Dp K H (f x) (g x)) → DpAll K H (xs.map f) (xs.map g)
  | [], _ => .nil
  | x :: xs, h => .cons (h x (List.mem_cons_self ..)) (dpAll_map xs fun y m => h y (List.mem_cons_of_mem _ m))
theorem dp_ints {K : PySem.W.Frag} {H : Hp} {a : Addr} {xs : List Int} (h : SqL K H a (xs.map V.int)) : Dp K H (.ref a) (.list (xs.map PyData.int)) := .lst h (dpAll_map xs fun x _ => .int x)
theorem eqvAll_map {α : Type} [DecidableEq α] {g : α → PyData} (hg : ∀ x y, PyData.eqv (g x) (g y) = decide (x = y)) : ∀ (xs ys : List α), PyData.eqvAll (xs.map g) (ys.map g) = decide (xs = ys)
  | [], [] => rfl
  | [], _ :: _ => rfl
  | _ :: _, [] => rfl
  | x :: xs, y :: ys => by
    show (PyData.eqv (g x) (g y) && PyData.eqvAll (xs.map g) (ys.map g)) = _
    rw [hg, eqvAll_map hg xs ys]
    by_cases e : x = y
    · by_cases e2 : xs = ys
      · subst e e2; simp
      · simp [e, e2]
    · simp [e]
theorem eqv_int (x y : Int) : PyData.eqv (.int x) (.int y) = decide (x = y) := by
  show (x == y) = _
  by_cases e : x = y <;> simp [e]
theorem eqv_ints (xs ys : List Int) : PyData.eqv (.list (xs.map PyData.int)) (.list (ys.map PyData.int)) = decide (xs = ys) := eqvAll_map eqv_int xs ys
/-- «xs != []» -/
theorem ne_nil {K : PySem.W.Frag} {H : Hp} {a p : Addr} {xs : List Int} {Q : VK} (h1 : SqL K H a (xs.map V.int)) (h2 : H p = some (.lst [])) (q : Q (.bl (!decide (xs = []))) H) : rNeD K (.ref a) (.ref p) H Q :=
  ⟨_, _, dp_ints h1, dp_ints (xs := []) (.inl (.inl h2)), (pl_ints xs).shaped (by decide), (pl_ints []).shaped (by decide), by rw [eqv_ints]; exact q⟩
/-! ### places -/
theorem at_nat {α : Type} {xs : List α} {i : Nat} (h : i < xs.length) : atI xs (i : Int) = some xs[i] := by
  unfold atI ixN
  rw [if_pos (by omega), if_pos (by omega)]
  show xs[(i : Int).toNat]? = _
  rw [Int.toNat_natCast, List.getElem?_eq_getElem h]
theorem at_lt {α : Type} {xs : List α} {i : Int} (h0 : 0 ≤ i) (h : i < xs.length) : ∃ v, v ∈ xs ∧ atI xs i = some v := by
  obtain ⟨k, rfl⟩ : ∃ k : Nat, i = k := ⟨i.toNat, by omega⟩
  exact ⟨_, List.getElem_mem (by omega), at_nat (by omega)⟩
theorem at_last {α : Type} {xs : List α} {x : α} : atI (xs ++ [x]) (-1) = some x := by
  unfold atI ixN
  rw [if_neg (by omega), if_pos (by simp; omega)]
  show (xs ++ [x])[_]? = _
  rw [show (-1 + ((xs ++ [x]).length : Int)).toNat = xs.length by simp; omega]
  simp
/-- one way on from two branches, for all values that they leave -/
theorem cutI {c : Bool} {A B : Prop} {R : Int → Prop} (y : Int) (h2 : c = false → R y → B) (h1 : (∀ z, R z) → c = true → A) (key : ∀ z, R z) : if c = true then A else B := iteC (h1 key) fun e => h2 e (key y)
theorem genI {P : V → Prop} {x : Int} (h : ∀ z : Int, P (.int z)) : P (.int x) := h x
theorem genIB {P : V → Prop} {x M : Int} (hM : 0 < M) (h : ∀ z : Int, 0 ≤ z → z < M → P (.int z)) : P (.int (x.fmod M)) := h _ (Int.fmod_nonneg_of_pos _ hM) (Int.fmod_lt_of_pos _ hM)
theorem cutP {c : Bool} {X Y B : Prop} (h2 : c = false → B → Y) (h1 : B → c = true → X) (b : B) : if c = true then X else Y := iteC (h1 b) fun e => h2 e b
theorem mul_bnd {a b A B : Int} (a0 : 0 ≤ a) (a1 : a ≤ A) (b0 : 0 ≤ b) (b1 : b ≤ B) : 0 ≤ a * b ∧ a * b ≤ A * B :=
  ⟨Int.mul_nonneg a0 b0, Int.mul_le_mul a1 b1 b0 (Int.le_trans a0 a1)⟩
theorem bnd5 {c M k t l : Int} (hM : 0 < M) (hM2 : M ≤ 1099511627776) (t0 : 0 ≤ t) (t1 : t ≤ 1000000) (k0 : 0 ≤ k) (k1 : k ≤ 8388608) (l0 : 0 ≤ l) (l1 : l ≤ 1099511627776) : (c.fmod M + k * t + l).natAbs < 2 ^ 64 := by
  have h1 := Int.fmod_nonneg_of_pos c hM
  have h2 := Int.fmod_lt_of_pos c hM
  obtain ⟨h3, h4⟩ := mul_bnd k0 k1 t0 t1
  omega
theorem bnd3 {m t a k l : Int} (m0 : 0 ≤ m) (m1 : m ≤ 4294967296) (t0 : 0 ≤ t) (t1 : t ≤ 1000000) (a0 : 0 ≤ a) (a1 : a ≤ 8388608) (k0 : 0 ≤ k) (k1 : k ≤ 8388608) (l0 : 0 ≤ l) (l1 : l ≤ 1099511627776) : (m * (2 * t + a) + k * t * t + l).natAbs < 2 ^ 64 := by
  obtain ⟨h1, h2⟩ := mul_bnd (b := 2 * t + a) (B := 10388608) m0 m1 (by omega) (by omega)
  obtain ⟨h3, h4⟩ := mul_bnd k0 k1 t0 t1
  obtain ⟨h5, h6⟩ := mul_bnd h3 h4 t0 t1
  omega
/-! ### slices -/
theorem cut_to (xs : List V) (k : Nat) : cutV xs none (some (k : Int)) = xs.take k := by
  unfold cutV
  rw [HT.sIx_none, HT.sIx_nat, List.drop_zero, Nat.sub_zero]
  by_cases h : k ≤ xs.length
  · rw [Nat.min_eq_left h]
  · rw [Nat.min_eq_right (by omega), List.take_of_length_le (Nat.le_refl _), List.take_of_length_le (by omega)]
theorem cut_from (xs : List V) (k : Nat) : cutV xs (some (k : Int)) none = xs.drop k := by
  unfold cutV
  rw [HT.sIx_none, HT.sIx_nat]
  by_cases h : k ≤ xs.length
  · rw [Nat.min_eq_left h, List.take_of_length_le (by rw [List.length_drop]; omega)]
  · rw [Nat.min_eq_right (by omega), Nat.sub_self, List.take_zero, List.drop_eq_nil_of_le (by omega)]
/-! ### comprehensions, item by item -/
section
variable {K : PySem.W.Frag} {a : Addr} {xs : List V} {g : TG} {tt : TT} {te : TE} {vs : List Nat} {σ : L2.St} {H1 : Hp} {D : Addr} {Qd : Hp → Prop}
theorem lc_mapL (f : V → V) (hq : SqL K H1 a xs) (nD : H1 D = none) (len : xs.length ≤ 100000)
    (turn : ∀ (i : Nat) (x : V) (Hc : Hp) (Q' : VK) (R' : Hp → Prop), xs[i]? = some x → Same H1 Hc → (∀ H4, Same Hc H4 → Q' (f x) H4) → g x (wipe σ vs) Hc fun σ2 H2 => wipe σ2 vs = wipe σ vs ∧ tt σ2 H2 fun b H3 => if b = true then te σ2 H3 Q' else R' H3)
    (fin : ∀ Hc, Same H1 Hc → Hc D = some (.lst (xs.map f)) → Qd Hc) :
    ∃ W : Nat → Nat → Hp → Prop, (∃ m, W 0 m (upd H1 D (.lst []))) ∧ ∀ i m H, W i m H →
      ((Itl K a).stop i H ∧ Qd H) ∨ ((Itl K a).go i H ∧ ∃ Nx : Hp → Prop, (∀ H', Nx H' → ∃ m', m' < m ∧ W (i + 1) m' H') ∧ ∀ x H', (Itl K a).yld i H x H' → g x (wipe σ vs) H' fun σ2 H2 => wipe σ2 vs = wipe σ vs ∧ tt σ2 H2 fun b H3 =>
        if b = true then te σ2 H3 fun y H4 => ∃ acc, H4 D = some (.lst acc) ∧ acc.length < sizeLine ∧ Nx (upd H4 D (.lst (acc ++ [y]))) else Nx H3) := by
  refine lc_list (fun i Hc => Same H1 Hc ∧ Hc D = some (.lst ((xs.take i).map f))) ⟨same_new nD, upd_same⟩ (fun i H _ p => p.1.seq hq) (fun i x Hc hx p => ?_) (fun Hc p => ?_)
  · refine turn i x Hc _ _ hx p.1 (fun H4 e4 => ⟨_, e4 _ _ p.2, ?_, ?_⟩)
    · rw [List.length_map, List.length_take]
      exact Nat.lt_of_le_of_lt (Nat.min_le_right _ _) (Nat.lt_of_le_of_lt len (by decide))
    · refine ⟨fun b o z => ?_, ?_⟩
      · rw [upd_ne (ne_of_none z nD)]
        exact e4 _ _ (p.1 b o z)
      · rw [upd_same, List.take_add_one, hx, List.map_append]
        rfl
  · rw [List.take_length] at p
    exact fin Hc p.1 p.2
theorem lc_mapT (f : V → V) (hq : SqT K H1 a xs) (nD : H1 D = none) (len : xs.length ≤ 100000)
    (turn : ∀ (i : Nat) (x : V) (Hc : Hp) (Q' : VK) (R' : Hp → Prop), xs[i]? = some x → Same H1 Hc → (∀ H4, Same Hc H4 → Q' (f x) H4) → g x (wipe σ vs) Hc fun σ2 H2 => wipe σ2 vs = wipe σ vs ∧ tt σ2 H2 fun b H3 => if b = true then te σ2 H3 Q' else R' H3)
    (fin : ∀ Hc, Same H1 Hc → Hc D = some (.lst (xs.map f)) → Qd Hc) :
    ∃ W : Nat → Nat → Hp → Prop, (∃ m, W 0 m (upd H1 D (.lst []))) ∧ ∀ i m H, W i m H →
      ((Itt K a).stop i H ∧ Qd H) ∨ ((Itt K a).go i H ∧ ∃ Nx : Hp → Prop, (∀ H', Nx H' → ∃ m', m' < m ∧ W (i + 1) m' H') ∧ ∀ x H', (Itt K a).yld i H x H' → g x (wipe σ vs) H' fun σ2 H2 => wipe σ2 vs = wipe σ vs ∧ tt σ2 H2 fun b H3 =>
        if b = true then te σ2 H3 fun y H4 => ∃ acc, H4 D = some (.lst acc) ∧ acc.length < sizeLine ∧ Nx (upd H4 D (.lst (acc ++ [y]))) else Nx H3) := by
  refine lc_tup (fun i Hc => Same H1 Hc ∧ Hc D = some (.lst ((xs.take i).map f))) ⟨same_new nD, upd_same⟩ (fun i H _ p => Same.t p.1 hq) (fun i x Hc hx p => ?_) (fun Hc p => ?_)
  · refine turn i x Hc _ _ hx p.1 (fun H4 e4 => ⟨_, e4 _ _ p.2, ?_, ?_⟩)
    · rw [List.length_map, List.length_take]
      exact Nat.lt_of_le_of_lt (Nat.min_le_right _ _) (Nat.lt_of_le_of_lt len (by decide))
    · refine ⟨fun b o z => ?_, ?_⟩
      · rw [upd_ne (ne_of_none z nD)]
        exact e4 _ _ (p.1 b o z)
      · rw [upd_same, List.take_add_one, hx, List.map_append]
        rfl
  · rw [List.take_length] at p
    exact fin Hc p.1 p.2
end
end Kx
namespace Kx
open PySem PySem.Spec PyProof.Rows L2 SX LamX
theorem paired_get {α β : Type} {F : α → β → Prop} : ∀ {l : List α} {m : List β}, Paired F l m → ∀ {i : Nat} {a : α}, l[i]? = some a → ∃ b, m[i]? = some b ∧ F a b
  | _, _, .cons h t, 0, a, e => by
    simp at e
    subst e
    exact ⟨_, rfl, h⟩
  | _, _, .cons h t, i + 1, a, e => paired_get t (i := i) (by simpa using e)
theorem paired_split {α β : Type} {F : α → β → Prop} : ∀ {l : List α} (m : List β) {b : β}, Paired F l (m ++ [b]) → ∃ l' a, l = l' ++ [a] ∧ Paired F l' m ∧ F a b
  | _, [], _, .cons h .nil => ⟨[], _, rfl, .nil, h⟩
  | _, _ :: m, b, .cons h t => by
    obtain ⟨l', a, rfl, p, f⟩ := paired_split m t
    exact ⟨_ :: l', a, rfl, .cons h p, f⟩
theorem paired_nil {α β : Type} {F : α → β → Prop} {l : List α} (h : Paired F l []) : l = [] := by
  cases h
  rfl
theorem nil_or_snoc {α : Type} (l : List α) : l = [] ∨ ∃ l' a, l = l' ++ [a] := by
  rcases List.eq_nil_or_concat l with h | ⟨l', a, h⟩
  · exact .inl h
  · exact .inr ⟨l', a, by rw [h, List.concat_eq_append]⟩
theorem paired_map {α β γ : Type} {F : α → γ → Prop} {G : α → β → Prop} (f : β → γ) (h : ∀ a b, G a b → F a (f b)) : ∀ {l : List α} {m : List β}, Paired G l m → Paired F l (m.map f)
  | _, _, .nil => .nil
  | _, _, .cons x t => .cons (h _ _ x) (paired_map f h t)
theorem paired_of_map {α β γ : Type} {F : α → γ → Prop} (f : β → α) (g : β → γ) : ∀ {m : List β}, (∀ b ∈ m, F (f b) (g b)) → Paired F (m.map f) (m.map g)
  | [], _ => .nil
  | b :: m, h => .cons (h b (List.mem_cons_self ..)) (paired_of_map f g fun c hc => h c (List.mem_cons_of_mem _ hc))
theorem dpAll_of {K : PySem.W.Frag} {H : Hp} : ∀ {vs : List V} {ds : List PyData}, Paired (fun v d => Dp K H v d) vs ds → DpAll K H vs ds
  | _, _, .nil => .nil
  | _, _, .cons h t => .cons h (dpAll_of t)
/-- «xs != []», any laid items -/
theorem ne_nilD {K : PySem.W.Frag} {H : Hp} {a p : Addr} {vs : List V} {ds : List PyData} {k : Nat} {Q : VK} (h1 : SqL K H a vs) (hd : Paired (fun v d => Dp K H v d) vs ds) (hp : ∀ d ∈ ds, Pl k d) (hk : k ≤ 60) (h2 : H p = some (.lst [])) (q : Q (.bl (!decide (ds = []))) H) : rNeD K (.ref a) (.ref p) H Q :=
  ⟨_, _, .lst h1 (dpAll_of hd), dp_ints (xs := []) (.inl (.inl h2)), (Pl.lst hp).shaped (by omega), (pl_ints []).shaped (by decide), by
    have e : PyData.eqv (.list ds) (.list (([] : List Int).map PyData.int)) = decide (ds = []) := by
      cases ds with
      | nil => rfl
      | cons d t => rfl
    rw [e]
    exact q⟩
/-- a pair of ints -/
def Pr2 (H : Hp) (v : V) (r : Int × Int) : Prop := ∃ t, v = V.ref t ∧ H t = some (.tup [.int r.1, .int r.2])
theorem Pr2.same {H H' : Hp} {v : V} {r : Int × Int} (e : Same H H') (h : Pr2 H v r) : Pr2 H' v r := by
  obtain ⟨t, rfl, h⟩ := h
  exact ⟨t, rfl, e _ _ h⟩
def pr2D (r : Int × Int) : PyData := .tuple [.int r.1, .int r.2]
theorem Pr2.dp {K : PySem.W.Frag} {H : Hp} {v : V} {r : Int × Int} (h : Pr2 H v r) : Dp K H v (pr2D r) := by
  obtain ⟨t, rfl, h⟩ := h
  exact .tup (.inl (.inl h)) (.cons (.int _) (.cons (.int _) .nil))
theorem pl_pr2 (r : Int × Int) : Pl 1 (pr2D r) := Pl.tup fun d m => by
  rcases List.mem_cons.mp m with rfl | m
  · exact pl_int 0 _
  · rcases List.mem_cons.mp m with rfl | m
    · exact pl_int 0 _
    · cases m
/-! ### stretches of like numbers -/
def stepR (rs : List (Int × Int)) (n : Int) : List (Int × Int) :=
  match rs.reverse with
  | [] => [(n, 1)]
  | (m, k) :: t => if m = n then t.reverse ++ [(n, k + 1)] else rs ++ [(n, 1)]
theorem stepR_nil (n : Int) : stepR [] n = [(n, 1)] := rfl
theorem stepR_snoc (rs : List (Int × Int)) (m k n : Int) : stepR (rs ++ [(m, k)]) n = if m = n then rs ++ [(n, k + 1)] else rs ++ [(m, k)] ++ [(n, 1)] := by
  unfold stepR
  simp
def runs (row : List Int) : List (Int × Int) := row.foldl stepR []
theorem runs_snoc (row : List Int) (n : Int) : runs (row ++ [n]) = stepR (runs row) n := by
  unfold runs
  rw [List.foldl_append]
  rfl
theorem stepR_length (rs : List (Int × Int)) (n : Int) : (stepR rs n).length ≤ rs.length + 1 := by
  rcases nil_or_snoc rs with rfl | ⟨rs', ⟨m, k⟩, rfl⟩
  · simp [stepR_nil]
  · rw [stepR_snoc]
    split <;> simp
theorem fold_length : ∀ (row : List Int) (rs : List (Int × Int)), (row.foldl stepR rs).length ≤ rs.length + row.length
  | [], _ => Nat.le_refl _
  | x :: row, rs => by
    have h1 := fold_length row (stepR rs x)
    have h2 := stepR_length rs x
    show (row.foldl stepR (stepR rs x)).length ≤ rs.length + (row.length + 1)
    omega
theorem runs_length (row : List Int) : (runs row).length ≤ row.length := by
  have h := fold_length row []
  rw [List.length_nil, Nat.zero_add] at h
  exact h
/-! ### for and comprehension over a list or a tuple, held by a name -/
section
variable {K : PySem.W.Frag} {a : Addr} {xs : List V} {g : TG} {σ : L2.St} {H : Hp} {k : Nat}
theorem for_seq {tb : TS} {D : Ends} {H0 : Hp} (hi : σ[k]? = some (some (.ref a))) (hq : SqQ K H0 a xs) (e0 : Same H0 H) (Pv : Nat → L2.St → Hp → Prop) (h0 : Pv 0 σ H) (stay : ∀ i σ' H', i ≤ xs.length → Pv i σ' H' → Same H0 H')
    (hs : ∀ i x σ H, xs[i]? = some x → Pv i σ H → g x σ H fun σ2 H2 => tb { D with nx := Pv (i + 1), ct := Pv (i + 1), bk := D.nx } σ2 H2) (hd : ∀ σ H, Pv xs.length σ H → D.nx σ H) :
    tFor (fun σ H R => iList K (tVar k) σ H R ∨ iTup K (tVar k) σ H R) g tb D σ H := by
  rcases hq with h | h
  · exact .inl ⟨_, hi, a, rfl, ⟨_, e0.seq h⟩, for_list Pv h0 (fun i σ' H' l p => (stay i σ' H' l p).seq h) hs hd⟩
  · exact .inr ⟨_, hi, a, rfl, ⟨_, Same.t e0 h⟩, for_tup Pv h0 (fun i σ' H' l p => Same.t (stay i σ' H' l p) h) hs hd⟩
theorem lc_seqmap {tt : TT} {te : TE} {vs : List Nat} {Q : VK} (f : V → V) (hi : σ[k]? = some (some (.ref a))) (hq : SqQ K H a xs) (len : xs.length ≤ 100000)
    (turn : ∀ (i : Nat) (x : V) (Hc : Hp) (Q' : VK) (R' : Hp → Prop), xs[i]? = some x → Same H Hc → (∀ H4, Same Hc H4 → Q' (f x) H4) → g x (wipe σ vs) Hc fun σ2 H2 => wipe σ2 vs = wipe σ vs ∧ tt σ2 H2 fun b H3 => if b = true then te σ2 H3 Q' else R' H3)
    (fin : ∀ (D : Addr) (Hc : Hp), Same H Hc → Hc D = some (.lst (xs.map f)) → Q (.ref D) Hc) :
    tLc (fun σ H R => iList K (tVar k) σ H R ∨ iTup K (tVar k) σ H R) g tt te vs σ H Q := by
  rcases hq with h | h
  · exact .inl ⟨_, hi, a, rfl, ⟨_, h⟩, fun D nD => lc_mapL f h nD len turn (fin D)⟩
  · exact .inr ⟨_, hi, a, rfl, ⟨_, h⟩, fun D nD => lc_mapT f h nD len turn (fin D)⟩
theorem lc_lstmap {tt : TT} {te : TE} {vs : List Nat} {Q : VK} (f : V → V) (hi : σ[k]? = some (some (.ref a))) (hq : SqL K H a xs) (len : xs.length ≤ 100000)
    (turn : ∀ (i : Nat) (x : V) (Hc : Hp) (Q' : VK) (R' : Hp → Prop), xs[i]? = some x → Same H Hc → (∀ H4, Same Hc H4 → Q' (f x) H4) → g x (wipe σ vs) Hc fun σ2 H2 => wipe σ2 vs = wipe σ vs ∧ tt σ2 H2 fun b H3 => if b = true then te σ2 H3 Q' else R' H3)
    (fin : ∀ (D : Addr) (Hc : Hp), Same H Hc → Hc D = some (.lst (xs.map f)) → Q (.ref D) Hc) :
    tLc (iList K (tVar k)) g tt te vs σ H Q := ⟨_, hi, a, rfl, ⟨_, hq⟩, fun D nD => lc_mapL f hq nD len turn (fin D)⟩
end
theorem Pr2.set {H : Hp} {p : Addr} {us : List V} {v : V} {r : Int × Int} {o : HO} (hp : H p = some (.lst us)) (h : Pr2 H v r) : Pr2 (upd H p o) v r := by
  obtain ⟨t, rfl, h⟩ := h
  refine ⟨t, rfl, ?_⟩
  rw [upd_ne (fun e => by rw [e, hp] at h; cases h)]
  exact h
theorem same_set {H Hd : Hp} {p : Addr} {o : HO} (e : Same H Hd) (np : H p = none) : Same H (upd Hd p o) := fun b u h => by
  rw [upd_ne (ne_of_none h np)]
  exact e b u h
theorem Pr2.new {H : Hp} {t : Addr} {x y : Int} : Pr2 (upd H t (.tup [.int x, .int y])) (.ref t) (x, y) := ⟨t, rfl, upd_same⟩
theorem sz1 {x : V} : [x].length ≤ sizeLine := by
  show 1 ≤ sizeLine
  decide
theorem sz2 {x y : V} : [x, y].length ≤ sizeLine := by
  show 2 ≤ sizeLine
  decide
theorem sz3 {x y z : V} : [x, y, z].length ≤ sizeLine := by
  show 3 ≤ sizeLine
  decide
theorem sz4 {x y z u : V} : [x, y, z, u].length ≤ sizeLine := by
  show 4 ≤ sizeLine
  decide
theorem ix_last {n : Nat} : ixN (n + 1) (-1) = some n := by
  unfold ixN
  rw [if_neg (by omega), if_pos (by omega)]
  congr 1
  omega
/-- xs[-1] = y, what is set -/
theorem set_last {H : Hp} {p : Addr} {xs : List V} {x y : V} {Q : Hp → Prop} (hp : H p = some (.lst (xs ++ [x]))) (q : Q (upd H p (.lst (xs ++ [y])))) : rSetL (.ref p) (.int (-1)) y H Q :=
  ⟨p, _, -1, xs.length, rfl, rfl, hp, by rw [List.length_append]; exact ix_last, by rw [show (xs ++ [x]).set xs.length y = xs ++ [y] by simp]; exact q⟩
end Kx
namespace Kx
open PySem PySem.Spec PyProof.Rows L2 SX LamX
/-! ### rules that name the frame, within a comprehension -/
section
variable {X : Cx} {K : PySem.W.Frag}
theorem inK_ix_list (e : X.K = K) : IxR X (rIxL K) := e ▸ ix_list
theorem inK_ix_tup (e : X.K = K) : IxR X (rIxT K) := e ▸ ix_tup
theorem inK_call_len_seq (e : X.K = K) : CallR X (.builtin "len") (fun xs H Q => ∃ p ys, xs = [.ref p] ∧ (SqL K H p ys ∨ SqT K H p ys) ∧ Q (.int ys.length) H) := e ▸ call_len_seq
theorem inK_sl_list (e : X.K = K) : SlR X (rSlL K) := e ▸ sl_list
theorem inK_op_eqD (e : X.K = K) (hu : X.A.units + 64 < cLine) : OpR X (compareOp .Eq) (rEqD K) := e ▸ op_eqD hu
theorem inK_op_neD (e : X.K = K) (hu : X.A.units + 64 < cLine) : OpR X (compareOp .NotEq) (rNeD K) := e ▸ op_neD hu
theorem inK_pg_tup {es : List Expr} {k : Nat} {t : TGs} {n : Nat} {pos : Pos} (e : X.K = K) (hc : X.calm = true) (h : PGs X es t) (hn : (assignEach es X.env).length = n := by rfl) (hst : (assignEach es X.env).findIdx? (·.1) = none := by rfl) : PG X (.Tuple es k pos) (gTup K n t) := e ▸ pg_tup hc h hn hst
end
end Kx
namespace Kx
open PySem PySem.Spec PyProof.Rows L2 SX LamX
/-- an error is made with its part -/
theorem mk_part {K : PySem.W.Frag} {C : Addr} {σ : L2.St} {H : Hp} {Q : XK} {v : V} (o : OexC K C) (n : PySem.W.findIn K (.ref C) "part" = some none)
    (q : ∀ d H', Same H H' → H' d = some (.xd [("part", v)]) → Q (.ref C) (some d) H') : tMkO C (sp_init K) [] (tCons (tC v) tNil) σ H Q := by
  refine ⟨by show 1 ≤ 1000; decide, fun a na => ⟨a, C, v, rfl, o, n, upd_same, fun dx nd hne => ⟨rfl, dx, [("part", v)], upd_same, ?_, ?_, q dx _ ?_ upd_same⟩⟩⟩
  · rw [upd_ne hne, upd_same]
  · rw [upd_ne hne] at nd
    exact nd
  · rw [upd_ne hne] at nd
    intro b u h
    rw [upd_ne (ne_of_none h nd)]
    show (if b = a then none else _) = some u
    rw [if_neg (ne_of_none h na), upd_ne (ne_of_none h na), upd_ne (ne_of_none h nd), upd_ne (ne_of_none h na)]
    exact h
end Kx
namespace Kx
open PySem PySem.Spec PyProof.Rows L2 SX LamX
section
variable {K : PySem.W.Frag} {J : It} {n : Nat} {G : Hp → Prop} {Y : Nat → Hp → V → Hp → Prop} {g : TG} {tt : TT} {te : TE} {vs : List Nat} {σ : L2.St} {H1 : Hp} {D : Addr} {Qd : Hp → Prop}
/-- a comprehension whose items are told ahead -/
theorem lc_out (w : Walk J n G Y) (zs : List V) (hz : zs.length = n) (nD : H1 D = none) (len : n ≤ 100000) (hG : ∀ Hc, Same H1 Hc → G Hc)
    (turn : ∀ (i : Nat) (x z : V) (Hc Hx : Hp) (Q' : VK) (R' : Hp → Prop), i < n → zs[i]? = some z → Same H1 Hc → Y i Hc x Hx → (∀ H4, Same Hc H4 → Q' z H4) → g x (wipe σ vs) Hx fun σ2 H2 => wipe σ2 vs = wipe σ vs ∧ tt σ2 H2 fun b H3 => if b = true then te σ2 H3 Q' else R' H3)
    (fin : ∀ Hc, Same H1 Hc → Hc D = some (.lst zs) → Qd Hc) :
    ∃ W : Nat → Nat → Hp → Prop, (∃ m, W 0 m (upd H1 D (.lst []))) ∧ ∀ i m H, W i m H →
      (J.stop i H ∧ Qd H) ∨ (J.go i H ∧ ∃ Nx : Hp → Prop, (∀ H', Nx H' → ∃ m', m' < m ∧ W (i + 1) m' H') ∧ ∀ x H', J.yld i H x H' → g x (wipe σ vs) H' fun σ2 H2 => wipe σ2 vs = wipe σ vs ∧ tt σ2 H2 fun b H3 =>
        if b = true then te σ2 H3 fun y H4 => ∃ acc, H4 D = some (.lst acc) ∧ acc.length < sizeLine ∧ Nx (upd H4 D (.lst (acc ++ [y]))) else Nx H3) := by
  refine lc_it w (fun i Hc => Same H1 Hc ∧ Hc D = some (.lst (zs.take i))) ⟨same_new nD, upd_same⟩ (fun i H _ p => hG H p.1) (fun i x Hc Hx hi p y => ?_) (fun Hc p => ?_)
  · have hzi : zs[i]? = some (zs[i]'(by omega)) := List.getElem?_eq_getElem (by omega)
    refine turn i x _ Hc Hx _ _ hi hzi p.1 y (fun H4 e4 => ⟨_, e4 _ _ p.2, ?_, ?_⟩)
    · rw [List.length_take]
      exact Nat.lt_of_le_of_lt (Nat.min_le_right _ _) (Nat.lt_of_le_of_lt (by omega) (by decide : 100000 < sizeLine))
    · refine ⟨fun b o z => ?_, ?_⟩
      · rw [upd_ne (ne_of_none z nD)]
        exact e4 _ _ (p.1 b o z)
      · rw [upd_same, List.take_add_one, hzi]
        rfl
  · rw [← hz, List.take_length] at p
    exact fin Hc p.1 p.2
end
section
variable {K : PySem.W.Frag} {a b : Addr} {xs ys : List V} {g : TG} {tt : TT} {te : TE} {vs : List Nat} {σ : L2.St} {H : Hp} {k l : Nat} {Q : VK}
/-- [e for x in NAME], NAME a list: the items told ahead -/
theorem lc_lst (zs : List V) (hz : zs.length = xs.length) (hi : σ[k]? = some (some (.ref a))) (hq : SqL K H a xs) (len : xs.length ≤ 100000)
    (turn : ∀ (i : Nat) (x z : V) (Hc : Hp) (Q' : VK) (R' : Hp → Prop), xs[i]? = some x → zs[i]? = some z → Same H Hc → (∀ H4, Same Hc H4 → Q' z H4) → g x (wipe σ vs) Hc fun σ2 H2 => wipe σ2 vs = wipe σ vs ∧ tt σ2 H2 fun b H3 => if b = true then te σ2 H3 Q' else R' H3)
    (fin : ∀ (D : Addr) (Hc : Hp), Same H Hc → Hc D = some (.lst zs) → Q (.ref D) Hc) :
    tLc (iList K (tVar k)) g tt te vs σ H Q := ⟨_, hi, a, rfl, ⟨_, hq⟩, fun D nD => lc_out walk_list zs hz nD len (fun Hc e => e.seq hq) (fun i x z Hc Hx Q' R' _ hzi e y q => by
      obtain ⟨rfl, hx⟩ := y
      exact turn i x z _ Q' R' hx hzi e q) (fin D)⟩
/-- [e for x, y in zip(NAME, NAME)], both lists -/
theorem lc_zip (zs : List V) (hz : zs.length = min xs.length ys.length) (hi : σ[k]? = some (some (.ref a))) (hj : σ[l]? = some (some (.ref b))) (hq : SqL K H a xs) (hp : SqL K H b ys) (len : xs.length ≤ 100000)
    (turn : ∀ (i : Nat) (x y z : V) (t : Addr) (Hc : Hp) (Q' : VK) (R' : Hp → Prop), xs[i]? = some x → ys[i]? = some y → zs[i]? = some z → Same H Hc → Hc t = some (.tup [x, y]) → (∀ H4, Same Hc H4 → Q' z H4) → g (.ref t) (wipe σ vs) Hc fun σ2 H2 => wipe σ2 vs = wipe σ vs ∧ tt σ2 H2 fun b H3 => if b = true then te σ2 H3 Q' else R' H3)
    (fin : ∀ (D : Addr) (Hc : Hp), Same H Hc → Hc D = some (.lst zs) → Q (.ref D) Hc) :
    tLc (iZip K (tCons (tVar k) (tCons (tVar l) tNil))) g tt te vs σ H Q := ⟨_, hi, _, hj, a, b, xs, ys, rfl, hq, hp, fun D nD => lc_out (walk_zip rfl) zs hz nD (by omega) (fun Hc e => ⟨e.seq hq, e.seq hp⟩) (fun i x z Hc Hx Q' R' _ hzi e y q => by
      obtain ⟨t, x', y', rfl, nt, rfl, hx, hy⟩ := y
      exact turn i x' y' z t _ Q' R' hx hy hzi (e.trans (same_new nt)) upd_same (fun H4 e4 => q H4 ((same_new nt).trans e4))) (fin D)⟩
end
/-- «xs != ys», ints -/
theorem ne_ints {K : PySem.W.Frag} {H : Hp} {a b : Addr} {xs ys : List Int} {Q : VK} (h1 : SqL K H a (xs.map V.int)) (h2 : SqL K H b (ys.map V.int)) (q : Q (.bl (!decide (xs = ys))) H) : rNeD K (.ref a) (.ref b) H Q :=
  ⟨_, _, dp_ints h1, dp_ints h2, (pl_ints xs).shaped (by decide), (pl_ints ys).shaped (by decide), by rw [eqv_ints]; exact q⟩
theorem paired_at {α β : Type} {F : α → β → Prop} {l : List α} {m : List β} (h : Paired F l m) {i : Nat} {a : α} {b : β} (ha : l[i]? = some a) (hb : m[i]? = some b) : F a b := by
  obtain ⟨b', e, f⟩ := paired_get h ha
  rw [hb] at e
  cases e
  exact f
theorem map_at {α β : Type} {f : α → β} {l : List α} {i : Nat} {z : β} (h : (l.map f)[i]? = some z) : ∃ x, l[i]? = some x ∧ z = f x := by
  rw [List.getElem?_map] at h
  cases e : l[i]? with
  | none => rw [e] at h; cases h
  | some x => rw [e] at h; exact ⟨x, rfl, (Option.some.inj h).symm⟩
/-! ### one step into a reading -/
section
variable {D : Ends} {σ : L2.St} {H : Hp}
theorem go_seq {t u : TS} (h : t { D with nx := u D } σ H) : tSeq t u D σ H := h
theorem go_if {c : TT} {t u : TS} (h : c σ H fun b H1 => if b = true then t D σ H1 else u D σ H1) : tIfS c t u D σ H := h
theorem go_test {te : TE} {Q : Bool → Hp → Prop} (h : te σ H fun x H' => ∃ k, x = .bl k ∧ Q k H') : tTest te σ H Q := h
theorem go_op {r : R2} {ta tb : TE} {Q : VK} (h : ta σ H fun x H1 => tb σ H1 fun y H2 => r x y H2 Q) : tOp r ta tb σ H Q := h
theorem go_ret {te : TE} (h : te σ H D.rt) : tRet te D σ H := h
theorem go_asg {te : TE} {g : TG} (h : te σ H fun x H1 => g x σ H1 D.nx) : tAsg te g D σ H := h
theorem go_cb {r : List V → Hp → VK → Prop} {t : TA} {Q : VK} (h : t σ H fun vs H1 => r vs H1 Q) : tCB r t σ H Q := h
theorem go_cons {te : TE} {t : TA} {Q : List V → Hp → Prop} (h : te σ H fun x H1 => t σ H1 fun xs H2 => Q (x :: xs) H2) : tCons te t σ H Q := h
end
theorem cut_toI {xs : List Int} {k : Int} (h : 0 ≤ k) : cutV (xs.map V.int) none (some k) = (xs.take k.toNat).map V.int := by
  obtain ⟨n, rfl⟩ : ∃ n : Nat, k = n := ⟨k.toNat, by omega⟩
  rw [cut_to, List.map_take, Int.toNat_natCast]
theorem cut_fromI {xs : List Int} {k : Int} (h : 0 ≤ k) : cutV (xs.map V.int) (some k) none = (xs.drop k.toNat).map V.int := by
  obtain ⟨n, rfl⟩ : ∃ n : Nat, k = n := ⟨k.toNat, by omega⟩
  rw [cut_from, List.map_drop, Int.toNat_natCast]
theorem ne_of_two {H : Hp} {a b : Addr} {o u : HO} (ha : H a = some o) (hb : H b = some u) (h : o ≠ u) : a ≠ b := fun e => by
  rw [e, hb] at ha
  exact h (Option.some.inj ha).symm
theorem Wh.held {H : Hp} {a c : Addr} {n : Nat} (h : Wh H a c n) : ∃ o, H a = some o := by
  obtain ⟨cs, t, l, h1, _⟩ := h
  exact ⟨_, h1⟩
theorem Wh.ne {H : Hp} {a c p : Addr} {n : Nat} (h : Wh H a c n) (np : H p = none) : p ≠ a := fun e => by
  obtain ⟨o, h⟩ := h.held
  rw [← e, np] at h
  cases h
theorem Wh.new {H : Hp} {a c p : Addr} {n : Nat} {o : HO} (h : Wh H a c n) (np : H p = none) : Wh (upd H p o) a c n := h.same (same_new np)
theorem Mv.new {H H' : Hp} {a p : Addr} {o : HO} (h : Mv a H H') (np : H' p = none) : Mv a H (L2.upd H' p o) := h.trans (Mv.of (same_new np))
theorem Wh.cell {H : Hp} {a c : Addr} {n : Nat} (h : Wh H a c n) : ∃ o, H c = some o := by
  obtain ⟨cs, t, l, _, h2, _⟩ := h
  exact ⟨_, h2⟩
/-- a list of the law's own is written: the wheel stays -/
theorem Wh.set {H : Hp} {a c p : Addr} {n : Nat} {o : HO} (h : Wh H a c n) (h1 : p ≠ a) (h2 : p ≠ c) : Wh (upd H p o) a c n := by
  obtain ⟨cs, t, l, g1, g2, g3⟩ := h
  exact ⟨cs, t, l, by rw [upd_ne h1.symm]; exact g1, by rw [upd_ne h2.symm]; exact g2, g3⟩
theorem Wh.nc {H : Hp} {a c p : Addr} {n : Nat} (h : Wh H a c n) (np : H p = none) : p ≠ c := fun e => by
  obtain ⟨o, h⟩ := h.cell
  rw [← e, np] at h
  cases h
end Kx
namespace Kx
open PySem
/-- other can be cut into pieces, none empty, one for each number of row -/
inductive Th : List Int → List Int → Prop
  | nil : Th [] []
  | more {r o : List Int} (x : Int) (k : Nat) : Th r o → Th (r ++ [x]) (o ++ List.replicate (k + 1) x)
def LeR (p q : Int × Int) : Prop := p.1 = q.1 ∧ p.2 ≤ q.2
theorem snoc_inj {α : Type} {l m : List α} {a b : α} (h : l ++ [a] = m ++ [b]) : l = m ∧ a = b := by
  have h2 := List.append_inj' h rfl
  exact ⟨h2.1, by simpa using h2.2⟩
theorem snoc_ne {α : Type} {l : List α} {a : α} : l ++ [a] ≠ [] := by
  intro h
  have := congrArg List.length h
  simp at this
theorem stepR_le {rs ss : List (Int × Int)} (h : Paired LeR rs ss) (x : Int) : Paired LeR (stepR rs x) (stepR ss x) := by
  rcases nil_or_snoc ss with rfl | ⟨ss', ⟨m, d⟩, rfl⟩
  · cases paired_nil h
    exact .cons ⟨rfl, Int.le_refl _⟩ .nil
  · obtain ⟨rs', ⟨m', c⟩, rfl, h1, h2, h3⟩ := paired_split ss' h
    have e : m' = m := h2
    subst e
    rw [stepR_snoc, stepR_snoc]
    by_cases e : m' = x
    · rw [if_pos e, if_pos e]
      exact Paired.snoc h1 ⟨rfl, by have : c ≤ d := h3; show c + 1 ≤ d + 1; omega⟩
    · rw [if_neg e, if_neg e]
      exact Paired.snoc (Paired.snoc h1 ⟨rfl, h3⟩) ⟨rfl, Int.le_refl _⟩
theorem stepR_up (rs : List (Int × Int)) (x : Int) : ∃ rs' c, stepR rs x = rs' ++ [(x, c)] := by
  rcases nil_or_snoc rs with rfl | ⟨rs', ⟨m, d⟩, rfl⟩
  · exact ⟨[], 1, rfl⟩
  · rw [stepR_snoc]
    by_cases e : m = x
    · exact ⟨rs', d + 1, by rw [if_pos e]⟩
    · exact ⟨rs' ++ [(m, d)], 1, by rw [if_neg e]⟩
theorem more_le {rs ss : List (Int × Int)} {x c : Int} (h : Paired LeR (rs ++ [(x, c)]) ss) : Paired LeR (rs ++ [(x, c)]) (stepR ss x) := by
  rcases nil_or_snoc ss with rfl | ⟨ss', ⟨m, d⟩, rfl⟩
  · exact absurd (paired_nil h) snoc_ne
  · obtain ⟨rs', ⟨m', c'⟩, e, h1, h2, h3⟩ := paired_split ss' h
    obtain ⟨rfl, e2⟩ := snoc_inj e
    cases e2
    have e : x = m := h2
    subst e
    rw [stepR_snoc, if_pos rfl]
    exact Paired.snoc h1 ⟨rfl, by have : c ≤ d := h3; show c ≤ d + 1; omega⟩
theorem runs_rep (o : List Int) (x : Int) : ∀ k : Nat, runs (o ++ List.replicate (k + 1) x) = stepR (runs (o ++ List.replicate k x)) x := fun k => by
  rw [List.replicate_succ', ← List.append_assoc, runs_snoc]
theorem th_le {r o : List Int} (h : Th r o) : Paired LeR (runs r) (runs o) := by
  induction h with
  | nil => exact .nil
  | @more r o x k _ ih =>
    rw [runs_snoc]
    induction k with
    | zero =>
      rw [runs_rep]
      simp only [List.replicate_zero, List.append_nil]
      exact stepR_le ih x
    | succ k ihk =>
      rw [runs_rep]
      obtain ⟨rs', c, e⟩ := stepR_up (runs r) x
      rw [e] at ihk ⊢
      exact more_le ihk
theorem fold_pos : ∀ (o : List Int) (rs : List (Int × Int)), (∀ p ∈ rs, 1 ≤ p.2) → ∀ p ∈ o.foldl stepR rs, 1 ≤ p.2
  | [], _, h => h
  | x :: o, rs, h => by
    refine fold_pos o (stepR rs x) fun p m => ?_
    rcases nil_or_snoc rs with rfl | ⟨rs', ⟨y, d⟩, rfl⟩
    · rcases List.mem_singleton.mp m with rfl
      exact Int.le_refl _
    · have hd : (1 : Int) ≤ d := h (y, d) (by simp)
      rw [stepR_snoc] at m
      by_cases e : y = x
      · rw [if_pos e] at m
        rcases List.mem_append.mp m with m | m
        · exact h p (List.mem_append_left _ m)
        · rcases List.mem_singleton.mp m with rfl
          show (1 : Int) ≤ d + 1
          omega
      · rw [if_neg e] at m
        rcases List.mem_append.mp m with m | m
        · exact h p m
        · rcases List.mem_singleton.mp m with rfl
          exact Int.le_refl _
theorem runs_pos (o : List Int) : ∀ p ∈ runs o, 1 ≤ p.2 := fold_pos o [] (fun _ m => by cases m)
theorem runs_nil {o : List Int} (h : runs o = []) : o = [] := by
  rcases nil_or_snoc o with rfl | ⟨o', x, rfl⟩
  · rfl
  · rw [runs_snoc] at h
    obtain ⟨rs', c, e⟩ := stepR_up (runs o') x
    rw [e] at h
    exact absurd h snoc_ne
theorem runs_last {o : List Int} {ss : List (Int × Int)} {x d : Int} (h : runs o = ss ++ [(x, d)]) : ∃ o', o = o' ++ [x] ∧ ((d = 1 ∧ runs o' = ss) ∨ (2 ≤ d ∧ runs o' = ss ++ [(x, d - 1)])) := by
  rcases nil_or_snoc o with rfl | ⟨o', y, rfl⟩
  · exact absurd h.symm snoc_ne
  · rw [runs_snoc] at h
    rcases nil_or_snoc (runs o') with e | ⟨rs', ⟨m, c⟩, e⟩
    · rw [e] at h
      obtain ⟨h1, h2⟩ := snoc_inj (l := []) h
      cases h2
      exact ⟨o', rfl, .inl ⟨rfl, by rw [e, h1]⟩⟩
    · have hc : (1 : Int) ≤ c := runs_pos o' (m, c) (by rw [e]; simp)
      rw [e, stepR_snoc] at h
      by_cases em : m = y
      · rw [if_pos em] at h
        obtain ⟨h1, h2⟩ := snoc_inj h
        cases h2
        subst em h1
        exact ⟨o', rfl, .inr ⟨by omega, by rw [e, Int.add_sub_cancel]⟩⟩
      · rw [if_neg em] at h
        obtain ⟨h1, h2⟩ := snoc_inj h
        cases h2
        exact ⟨o', rfl, .inl ⟨rfl, by rw [e, h1]⟩⟩
theorem runs_piece {x : Int} {ss : List (Int × Int)} : ∀ (n : Nat) {o : List Int}, runs o = ss ++ [(x, (n : Int) + 1)] → ∃ o', o = o' ++ List.replicate (n + 1) x ∧ runs o' = ss
  | 0, o, h => by
    obtain ⟨o', e, h1 | h1⟩ := runs_last h
    · exact ⟨o', e, h1.2⟩
    · omega
  | n + 1, o, h => by
    obtain ⟨o', rfl, h1 | h1⟩ := runs_last h
    · omega
    · rw [show ((n + 1 : Nat) : Int) + 1 - 1 = (n : Int) + 1 by omega] at h1
      obtain ⟨o2, rfl, e2⟩ := runs_piece n h1.2
      exact ⟨o2, by rw [List.replicate_succ' (n := n + 1), List.append_assoc], e2⟩
theorem le_th : ∀ (n : Nat) {r o : List Int}, r.length = n → Paired LeR (runs r) (runs o) → Th r o
  | 0, r, o, hn, h => by
    cases r with
    | nil =>
      have e : runs o = [] := by
        cases h' : runs o with
        | nil => rfl
        | cons p t => rw [h'] at h; cases h
      rw [runs_nil e]
      exact .nil
    | cons _ _ => simp at hn
  | n + 1, r, o, hn, h => by
    rcases nil_or_snoc r with rfl | ⟨r', x, rfl⟩
    · simp at hn
    · have hn' : r'.length = n := by simpa using hn
      rw [runs_snoc] at h
      obtain ⟨rs', c, e⟩ := stepR_up (runs r') x
      rw [e] at h
      rcases nil_or_snoc (runs o) with eo | ⟨ss, ⟨y, d⟩, eo⟩
      · rw [eo] at h
        exact absurd (paired_nil h) snoc_ne
      · rw [eo] at h
        obtain ⟨q', ⟨x', c'⟩, e1, h1, h2, h3⟩ := paired_split ss h
        obtain ⟨e3, e2⟩ := snoc_inj e1
        cases e2
        subst e3
        have e4 : x = y := h2
        subst e4
        have h3 : c ≤ d := h3
        have hpos : (1 : Int) ≤ d := runs_pos o (x, d) (by rw [eo]; simp)
        rcases nil_or_snoc (runs r') with er | ⟨ts, ⟨m, c2⟩, er⟩
        · rw [er] at e
          obtain ⟨e5, e6⟩ := snoc_inj (l := []) e
          subst e5
          obtain ⟨o', rfl, eo'⟩ := runs_piece (d - 1).toNat (o := o) (ss := ss) (x := x) (by rw [eo]; congr 3; omega)
          exact .more x _ (le_th n hn' (by rw [er, eo']; exact h1))
        · have hc2 : (1 : Int) ≤ c2 := runs_pos r' (m, c2) (by rw [er]; simp)
          rw [er, stepR_snoc] at e
          by_cases em : m = x
          · rw [if_pos em] at e
            obtain ⟨e5, e6⟩ := snoc_inj e
            cases e6
            subst e5 em
            obtain ⟨o', rfl, hh | ⟨_, hh⟩⟩ := runs_last eo
            · omega
            · exact .more m 0 (le_th n hn' (by rw [er, hh]; exact Paired.snoc h1 ⟨rfl, by show c2 ≤ d - 1; omega⟩))
          · rw [if_neg em] at e
            obtain ⟨e5, e6⟩ := snoc_inj e
            cases e6
            subst e5
            obtain ⟨o', rfl, eo'⟩ := runs_piece (d - 1).toNat (o := o) (ss := ss) (x := x) (by rw [eo]; congr 3; omega)
            exact .more x _ (le_th n hn' (by rw [er, eo']; exact h1))
theorem leR_iff : ∀ (rs ss : List (Int × Int)), (decide (rs.map Prod.fst = ss.map Prod.fst) && (rs.zip ss).all fun p => decide (p.1.2 ≤ p.2.2)) = true ↔ Paired LeR rs ss
  | [], [] => ⟨fun _ => .nil, fun _ => rfl⟩
  | [], q :: ss => ⟨fun h => by simp at h, fun h => by cases h⟩
  | p :: rs, [] => ⟨fun h => by simp at h, fun h => by cases h⟩
  | p :: rs, q :: ss => by
    have ih := leR_iff rs ss
    constructor
    · intro h
      simp only [List.map_cons, List.zip_cons_cons, List.all_cons, Bool.and_eq_true, decide_eq_true_eq, List.cons.injEq] at h
      obtain ⟨⟨h1, h2⟩, h3, h4⟩ := h
      refine .cons ⟨h1, h3⟩ (ih.mp ?_)
      simp only [Bool.and_eq_true, decide_eq_true_eq]
      exact ⟨h2, h4⟩
    · intro h
      cases h with
      | cons h1 h2 =>
        have h3 := ih.mpr h2
        simp only [Bool.and_eq_true, decide_eq_true_eq] at h3
        simp only [List.map_cons, List.zip_cons_cons, List.all_cons, Bool.and_eq_true, decide_eq_true_eq, List.cons.injEq]
        exact ⟨⟨h1.1, h3.1⟩, h1.2, h3.2⟩
theorem th_iff (r o : List Int) : (decide ((runs r).map Prod.fst = (runs o).map Prod.fst) && ((runs r).zip (runs o)).all fun p => decide (p.1.2 ≤ p.2.2)) = true ↔ Th r o :=
  (leR_iff _ _).trans ⟨le_th _ rfl, th_le⟩
end Kx
namespace Kx
open PySem PySem.Spec PyProof.Rows L2 SX LamX
/-- a def whose code object is known -/
def FunC (K : PySem.W.Frag) (x qual : Str) (st : Stmt) (f : Addr) (fd : FuncData) (c : Addr) : Prop :=
  ∃ (oc : Value) (od : Option Addr) (kV doc pm : Value) (an : Option Addr) (ct : Value) (osl : Array (Option Value)), fd = PySem.W.fnOf x qual (defArgs st) (defBody st) (defScope st) .none kV doc pm an (.ref c) ct ∧
    K.lookup f = some ⟨oc, od, .func (PySem.W.fnOf x qual (defArgs st) (defBody st) (defScope st) .none kV doc pm an (.ref c) ct), osl⟩ ∧ PySem.W.codeIn K (.ref c) qual = true
section
variable {P : Program} {w : World} {K : PySem.W.Frag} {mg : Str → Option Value} {base : Heap}
/-- the body's rule: guards told, the code object known -/
theorem okC {x qual : Str} {st : Stmt} {f c : Addr} {fd : FuncData} {N ps : List Str} {k : Nat} {sp : Sp} (F : FunC K x qual st f fd c) (S : FnScope N ps (defScope st)) (len : ∀ vs H Q E, sp vs H Q E → vs.length = ps.length)
    (hbody : ∀ (A : Around) (outer : List Env) (s : Shared) (H : Hp) (vs : List V) (Q : VK) (E : XK), A.guards = some [] → Room k (A.deeper (envOfC qual (defScope st) s.heap.objs.size f (.ref c))) → sp vs H Q E →
      ∃ t, PSs (cxOf CX0 P w K mg base N qual (defScope st) f (.ref c) A outer s H E).nox (defBody st) t ∧ t { nx := fun _ H' => Q .non H', rt := Q } (start N vs) H) :
    FnG P w K mg base CX0 (k + 1) f fd ps sp := by
  obtain ⟨oc, od, kV, doc, pm, an, ct, osl, rfl, lk, hcd⟩ := F
  refine ⟨len, fun A outer s H args us vs Q E hg hr e0 hb r hsp => ?_⟩
  refine LamX.run_ofS lk hcd S hr e0 hb r (len _ _ _ _ hsp) fun hr' => ?_
  obtain ⟨t, h, q⟩ := hbody A outer s H vs Q E hg hr' hsp
  exact ⟨t, h.nox, q⟩
theorem funC_mk {x qual : Str} {st : Stmt} {f c : Addr} {oc : Value} {od an : Option Addr} {osl : Array (Option Value)} {kV doc pm ct : Value} (l : K.lookup f = some ⟨oc, od, .func (PySem.W.fnOf x qual (defArgs st) (defBody st) (defScope st) .none kV doc pm an (.ref c) ct), osl⟩)
    (h : PySem.W.codeIn K (.ref c) qual = true) : FunC K x qual st f (PySem.W.fnOf x qual (defArgs st) (defBody st) (defScope st) .none kV doc pm an (.ref c) ct) c := ⟨oc, od, kV, doc, pm, an, ct, osl, rfl, l, h⟩
theorem funC_of {x qual : Str} {st : Stmt} {f c Pt : Addr} {fd : FuncData} (F : Fun K x qual st f fd) (g : PySem.W.nsIn K mainGlobals x = some (some (.ref f))) (t : PySem.W.tabIn K x = some (c, Pt)) : FunC K x qual st f fd c := by
  obtain ⟨oc, od, kV, doc, pm, an, cdv, ct, osl, rfl, lk, hcd⟩ := F.ex
  unfold PySem.W.tabIn at t
  rw [g] at t
  simp only [lk] at t
  have e : (PySem.W.fnOf x qual (defArgs st) (defBody st) (defScope st) .none kV doc pm an cdv ct).code = cdv := rfl
  clear e
  cases cdv with
  | ref c' =>
    simp only at t
    split at t
    · split at t
      · injection t with t
        injection t with t1 t2
        subst t1
        exact ⟨oc, od, kV, doc, pm, an, ct, osl, rfl, lk, hcd⟩
      · cases t
    · cases t
  | _ => simp at t
end
/-- no positional value, two by name: exchanged -/
def swapG {α : Type} (us ws : List α) : List α := match us, ws with | [], [v, u] => [u, v] | _, _ => []
/-- f(b = .., a = ..): two parameters, both by name, the other way round -/
theorem kb_swap {K : PySem.W.Frag} {x qual : Str} {st : Stmt} {f : Addr} {fd : FuncData} {a b : Str} (F : Fun K x qual st f fd)
    (h : ∀ (kV doc pm : Value) (an : Option Addr) (cdv ct : Value) (u v : Value), bindArgs (PySem.W.fnOf x qual (defArgs st) (defBody st) (defScope st) .none kV doc pm an cdv ct) ⟨[], [(b, v), (a, u)]⟩ = pure [(a, u), (b, v)]) :
    KBinds K fd [a, b] [b, a] swapG swapG := by
  obtain ⟨oc, od, kV, doc, pm, an, cdv, ct, osl, rfl, lk, hcd⟩ := F.ex
  refine ⟨fun s us ws X l => ?_, fun {vs us zs ws} r1 r2 => ?_⟩
  · match us, ws, l with
    | [], [v, u], _ => exact .of_eq (h kV doc pm an cdv ct u v)
    | [], [], l => cases l
    | [], [_], l => cases l
    | [], _ :: _ :: _ :: _, l => cases l
    | _ :: _, _, l => cases l
  · cases r1 with
    | cons _ _ => exact .nil
    | nil =>
      cases r2 with
      | nil => exact .nil
      | cons h1 r2 =>
        cases r2 with
        | nil => exact .nil
        | cons h2 r2 =>
          cases r2 with
          | nil => exact .cons h2 (.cons h1 .nil)
          | cons _ _ => exact .nil
/-! ### the scope of a lambda with one default, checked -/
def lamPB (sc scope : Scope) (z : Str) : Bool :=
  decide (scope.kind = .function) && !scope.isCoroutine && !scope.isGenerator && decide (scope.names.lookup z = some .local) && scope.names.all fun y => !decide (y.2 = .cell) && (!decide (y.2 = .local) || decide (y.1 = z)) && (!decide (y.2 = .free) || decide (sc.names.lookup y.1 = some .cell) || decide (sc.names.lookup y.1 = some .free))
theorem lamP_by {sc scope : Scope} {z : Str} (h : lamPB sc scope z = true) : LamP sc scope z := by
  unfold lamPB at h
  simp only [Bool.and_eq_true, Bool.or_eq_true, Bool.not_eq_true', decide_eq_true_eq, decide_eq_false_iff_not, List.all_eq_true] at h
  obtain ⟨⟨⟨⟨h1, h2⟩, h3⟩, h5⟩, h4⟩ := h
  refine { kind := h1, co := h2, gen := h3, own := fun y hy => ⟨(h4 y hy).1.1, fun e => ?_⟩, par := h5, free := fun y hy e => ?_ }
  · rcases (h4 y hy).1.2 with z | z
    · exact absurd e z
    · exact z
  · rcases (h4 y hy).2 with (z | z) | z
    · exact absurd e z
    · exact .inl z
    · exact .inr z
open PySem.W in
/-- the goal that the head leaves, of a law that makes lambdas: x its def's name, P its table -/
theorem walkL {l : OpenLaw} {n k : Nat} {q : Program} {loose : List Str} {XP : (Str → Option Value) → Heap → Prop} {YP : World → Heap → Prop} {d : DefRec} {K : Params → Frag} {x y : Str} (sp : Frag → Addr → Sp)
    (hn : l.most = some n) (hz : n ≤ sizeLine) (h0 : d.params.defaults = []) (hr : Room k callerA) (hY : ∀ (w : World) (h : Heap), YP w h → (K w.params).In h)
    (hc : ∀ p, (∃ r, (recsOf q).find? (fun r => r.name == y) = some r) ∧ ∃ c Pt, tabIn (K p) y = some (c, Pt) ∧ (K p).lookup Pt = none)
    (F : ∀ (w : World) (mg : Str → Option Value) (fa : Addr) (h : Heap), (K w.params).In h → h.Ns mainGlobals mg → mg d.name = some (.ref fa) → ∃ fd : FuncData,
      (∀ (t : Shared) (u : Value), BindsTo t fd ⟨[u], []⟩ [(x, u)]) ∧ ∀ (c Pt : Addr), tabIn (K w.params) y = some (c, Pt) → ∀ base : Heap, (K w.params).In base → base.Ns mainGlobals mg → TabB base mg c Pt → FnG l.prog w (K w.params) mg base CX0 k fa fd [x] (sp (K w.params) Pt))
    (pr : ∀ (K : Frag) (Pt : Addr) (H : Hp) (a : Addr) (ns : List Int), ns.length ≤ n → H Pt = some (.tbl #[]) → SqL K H a (ns.map V.int) → sp K Pt [.ref a] H (fun v _ => v = .bl true) fun _ _ _ => False) :
    WalkO q loose XP YP l.row.toRowW d [] (fun f us => PySem.call f us) := by
  refine walkT (x := x) (K := K) (cs := fun p => [(y, ((tabIn (K p) y).getD (0, 0)))]) (sp := fun K => sp K ((tabIn K y).getD (0, 0)).2) hn hz h0 hr hY (fun p e he => ?_) (fun w mg fa h KX G hmg => ?_) (fun p H a ns hl ht hS _ => pr _ _ H a ns hl (ht _ (List.mem_singleton.mpr rfl)) hS)
  · obtain ⟨h1, c, Pt, h2, h3⟩ := hc p
    cases List.mem_singleton.mp he
    refine ⟨h1, ?_, ?_⟩
    · rw [h2]
      rfl
    · rw [h2]
      exact h3
  · obtain ⟨fd, hb, hF⟩ := F w mg fa h KX G hmg
    obtain ⟨_, c, Pt, h2, _⟩ := hc w.params
    refine ⟨fd, hb, fun base hk hg ht => ?_⟩
    have hT := ht _ (List.mem_singleton.mpr rfl)
    simp only [h2, Option.getD_some] at hT ⊢
    exact hF c Pt h2 base hk hg hT
theorem useIt {α : Type} {P : Prop} (x : α) (h : α → P) : P := h x
theorem binds_one {K : PySem.W.Frag} {x qual a : Str} {st : Stmt} {f : Addr} {fd : FuncData} (F : Fun K x qual st f fd)
    (h : ∀ (kV doc pm : Value) (an : Option Addr) (cdv ct u : Value), bindArgs (PySem.W.fnOf x qual (defArgs st) (defBody st) (defScope st) .none kV doc pm an cdv ct) ⟨[u], []⟩ = pure [(a, u)]) : ∀ (t : Shared) (u : Value), BindsTo t fd ⟨[u], []⟩ [(a, u)] := by
  obtain ⟨oc, od, kV, doc, pm, an, cdv, ct, osl, rfl, lk, hcd⟩ := F.ex
  exact fun t u => .of_eq (h kV doc pm an cdv ct u)
theorem same_ref {mg : Str → Option Value} {x : Str} {a b : Addr} (h : mg x = some (.ref a)) (k : mg x = some (.ref b)) : a = b := by
  rw [h] at k
  injection k with k
  injection k
theorem tabIn_of {K : PySem.W.Frag} {x : Str} {f c Pt : Addr} {oc oc2 : Value} {od od2 : Option Addr} {osl osl2 : Array (Option Value)} {fd : FuncData} {vs : Array Value} (a : PySem.W.nsIn K mainGlobals x = some (some (.ref f)))
    (l : K.lookup f = some ⟨oc, od, .func fd, osl⟩) (e : fd.code = .ref c) (l2 : K.lookup c = some ⟨oc2, od2, .fields vs, osl2⟩) (v : (vs[11]? : Option Value) = some (.ref Pt)) (n : K.lookup Pt = none) :
    ∃ c Pt, PySem.W.tabIn K x = some (c, Pt) ∧ K.lookup Pt = none := by
  refine ⟨c, Pt, ?_, n⟩
  unfold PySem.W.tabIn
  rw [a]
  simp only [l, e, l2, v]
end Kx
namespace Kx
open PySem PySem.Spec PyProof.Rows L2 SX LamX
/-! ### what stays through draws and through the making of lambdas -/
/-- H without what stands at a and without tables -/
def core (a : Addr) (H : Hp) : Hp := fun b => if b = a then none else match H b with | some (.tbl _) => none | o => o
theorem core_at {a b : Addr} {H : Hp} {o : HO} (h : H b = some o) (n : b ≠ a) (t : ∀ ps, o ≠ .tbl ps) : core a H b = some o := by
  unfold core
  rw [if_neg n, h]
  cases o with
  | tbl ps => exact absurd rfl (t ps)
  | _ => rfl
theorem of_core {a b : Addr} {H : Hp} {o : HO} (h : core a H b = some o) : b ≠ a ∧ H b = some o ∧ ∀ ps, o ≠ .tbl ps := by
  unfold core at h
  by_cases e : b = a
  · rw [if_pos e] at h
    cases h
  · rw [if_neg e] at h
    cases q : H b with
    | none => rw [q] at h; cases h
    | some u =>
      rw [q] at h
      cases u with
      | tbl ps => cases h
      | _ =>
        have h' := Option.some.inj h
        subst h'
        exact ⟨e, rfl, fun ps z => by cases z⟩
theorem core_mv {a : Addr} {H H' : Hp} (m : Mv a H H') : Same (core a H) H' := fun b o h => m b o (of_core h).1 (of_core h).2.1
theorem core_ext {a : Addr} {H0 H H' : Hp} (s : Same (core a H0) H) (e : ExtN H H') : Same (core a H0) H' := fun b o h => e b o (s b o h) (of_core h).2.2
theorem Wh.ext {H H' : Hp} {a c : Addr} {n : Nat} (h : Wh H a c n) (e : ExtN H H') : Wh H' a c n := by
  obtain ⟨cs, t, l', h1, h2, h3⟩ := h
  exact ⟨cs, t, l', e _ _ h1 (fun ps z => by cases z), e _ _ h2 (fun ps z => by cases z), h3⟩
theorem Wh.tab {H : Hp} {a c P : Addr} {n : Nat} {ps : Array Value} (h : Wh H a c n) (t : H P = some (.tbl ps)) : P ≠ a := by
  obtain ⟨cs, x, l', h1, _⟩ := h
  exact ne_of_two t h1 (fun z => by cases z)
/-! ### what never is a list or tuple -/
theorem no_list {K : PySem.W.Frag} {n : String} (h1 : kitB n "list" = some false) (h2 : kitB n "tuple" = some false) : PySem.W.kitAny K (.type n) [.type "list", .type "tuple"] = some false := kit_at h1 h2
theorem flat_rep (n : Nat) (xs : List Int) : (List.replicate n (xs.map V.int)).flatten = ((List.replicate n xs).flatten).map V.int := by
  rw [List.map_flatten, List.map_replicate]
theorem rep_one (n : Nat) (x : Int) : (List.replicate n [V.int x]).flatten = (List.replicate n x).map V.int := by
  rw [List.map_replicate]
  induction n with
  | zero => rfl
  | succ j ih => rw [List.replicate_succ, List.flatten_cons, ih, List.replicate_succ]; rfl
theorem flat_length (n : Nat) (xs : List Int) : ((List.replicate n xs).flatten).length = n * xs.length := by
  induction n with
  | zero => simp
  | succ j ih => rw [List.replicate_succ, List.flatten_cons, List.length_append, ih, Nat.succ_mul, Nat.add_comm]
theorem flat_mem {n : Nat} {xs : List Int} {i : Int} (h : i ∈ (List.replicate n xs).flatten) : i ∈ xs := by
  obtain ⟨l, hl, hi⟩ := List.mem_flatten.mp h
  rw [List.eq_of_mem_replicate hl] at hi
  exact hi
/-- one and the same truth, twice -/
theorem dp_bb {K : PySem.W.Frag} {H : Hp} {p : Addr} {b : Bool} (h : H p = some (.lst [.bl b, .bl b])) : Dp K H (.ref p) (.list [.bool b, .bool b]) := .lst (.inl (.inl h)) (.cons (.bl b) (.cons (.bl b) .nil))
/-- [b, b] is shown -/
theorem bb1 (b : Bool) : (PyData.list [.bool b, .bool b]).showable = true := by cases b <;> rfl
theorem bb2 (b : Bool) : (PyData.list [.bool b, .bool b]).hasDict = false := by cases b <;> rfl
theorem bb3 (b : Bool) : (PyData.list [.bool b, .bool b]).depth ≤ 60 := by cases b <;> decide
theorem bb4 (b : Bool) : (PyData.list [.bool b, .bool b]).shown.length ≤ sizeLine := by cases b <;> decide +kernel
theorem bool_of {P : Prop} {a b : Bool} (h1 : a = true ↔ P) (h2 : b = true ↔ P) : a = b := Bool.eq_iff_iff.mpr (h1.trans h2.symm)
theorem ne_self {x : V} : (!decide (x = x)) = false := by simp
theorem th_refl : ∀ (n : Nat) (r : List Int), r.length = n → Th r r
  | 0, r, h => by
    cases r with
    | nil => exact .nil
    | cons _ _ => simp at h
  | n + 1, r, h => by
    rcases nil_or_snoc r with rfl | ⟨r', x, rfl⟩
    · simp at h
    · exact .more x 0 (th_refl n r' (by simpa using h))
end Kx
namespace Kx
open PySem PySem.Spec PyProof.Rows L2 SX LamX
/-! ### a def that calls replace: a token is out when it begins -/
section
variable {X : Cx}
theorem pst_set {i : Nat} {x : Str} {e : Expr} {te : TE} {pos pos' : Pos} (hN : X.N.Nodup) (hi : X.N[i]? = some x) (hx : Loc X.env.scope x) (he : PET X e te) (hs : swapsWith e (some (.Name x pos')) pos.line X.env = pure false := by rfl)
    (hf : X.fn x = true ∨ X.env.scope.names.lookup x = some .local := by first | exact .inl rfl | exact .inr rfl | assumption) : PST X (.Assign [.Name x pos'] e pos) (tAsg te (gName i)) := by
  intro pins s σ H D h0 I h
  refine wpAny_Assign_Name (thn (he pins s σ H _ h0 I h) fun v s1 hh => ?_) hs
  obtain ⟨y, H1, I1, r1, q1⟩ := hh
  exact store_ok I1 hN hi hx r1 (fun s2 I2 => ⟨_, H1, I2, q1⟩) hf
end
theorem okT {P : Program} {w : World} {K : PySem.W.Frag} {mg : Str → Option Value} {base : Heap} {x qual : Str} {st : Stmt} {f : Addr} {fd : FuncData} {N ps : List Str} {k : Nat} {sp : Sp} (F : Fun K x qual st f fd) (S : FnScope N ps (defScope st))
    (hnc : ((defScope st).names.all fun y => !decide (y.2 = .cell)) = true) (hps : 1 ≤ ps.length) (len : ∀ vs H Q E, sp vs H Q E → vs.length = ps.length)
    (hbody : ∀ (cdv : Value) (A : Around) (outer : List Env) (s : Shared) (H : Hp) (vs : List V) (Q : VK) (E : XK), Room k (A.deeper (envOfC qual (defScope st) s.heap.objs.size f cdv)) → sp vs H Q E →
      ∃ t, PSsT (cxOf CX0 P w K mg base N qual (defScope st) f cdv A outer s H E) (defBody st) t ∧ t { nx := fun _ H' => Q .non H', rt := Q } (start N vs) H) :
    FnOk P w K mg base CX0 (k + 1) f fd ps sp := by
  obtain ⟨oc, od, kV, doc, pm, an, cdv, ct, osl, rfl, lk, hcd⟩ := F.ex
  refine fn_ofT lk hcd S (fun y hy e => ?_) hps len fun A outer s H vs Q E hr hsp => hbody cdv A outer s H vs Q E hr hsp
  have h := List.all_eq_true.mp hnc y hy
  rw [e] at h
  exact absurd h (by decide)
/-! ### texts -/
theorem replace_S (l : List Nat) : Txt.replace (S l) ⟨#[32]⟩ ⟨#[]⟩ = S (l.filter (· != 32)) := by
  have h := PyProof.Rows.replace_strikes (S l) 32
  refine TL.ext_tl ?_
  show (Txt.replace (S l) ⟨#[32]⟩ ⟨#[]⟩).cps.toList = (S (l.filter (· != 32))).cps.toList
  rw [h]
theorem S_nil (l : List Nat) : decide (V.str (S l) = V.str "") = l.isEmpty := by
  cases l with
  | nil => rfl
  | cons c t =>
    rw [decide_eq_false]
    · rfl
    · intro e
      injection e with e
      have := congrArg (fun z : Str => z.cps.size) e
      have e0 : (Str.ofString "").cps.size = 0 := rfl
      simp [S] at this
      omega
/-- letters and blanks alone -/
theorem text_filter (l : List Nat) : ((l.filter (· != 32)).isEmpty || lowB (l.filter (· != 32))) = l.all sg := by
  have h : (l.filter (· != 32)).all low = l.all sg := by
    induction l with
    | nil => rfl
    | cons c t ih =>
      by_cases e : c = 32
      · subst e
        rw [List.filter_cons_of_neg (by simp), ih]
        rfl
      · rw [List.filter_cons_of_pos (by simpa using e), List.all_cons, List.all_cons, ih]
        have : sg c = low c := by
          unfold sg
          rw [decide_eq_false e, Bool.false_or]
        rw [this]
  unfold lowB
  rw [h]
  cases hE : (l.filter (· != 32)).isEmpty with
  | true =>
    have : l.filter (· != 32) = [] := List.isEmpty_iff.mp hE
    rw [← h, this]
    rfl
  | false => simp
/-- as an error with its part is raised -/
def RaisedPart (E : XK) (C : Addr) (H : Hp) (part : Str) : Prop := ∀ d H', Same H H' → H' d = some (.xd [("part", .str part)]) → E (.ref C) (some d) H'
/-! ### items between blanks -/
def itemsA (acc : List Nat) : List Nat → List (List Nat)
  | [] => [acc]
  | c :: r => if c = 32 then acc :: itemsA [] r else itemsA (acc ++ [c]) r
theorem pre_blank (c : Nat) (r : List Nat) : TL.pre [32] (c :: r) = decide (c = 32) := by
  by_cases h : c = 32
  · subst h
    simp [TL.pre]
  · have h' : ¬ 32 = c := fun e => h e.symm
    simp [TL.pre, h, h']
theorem spl_items : ∀ (l acc : List Nat), TL.spl [32] 0 acc l = itemsA acc l
  | [], acc => TL.spl_nil _ _ _
  | c :: r, acc => by
    by_cases h : c = 32
    · rw [TL.spl_hit (by rw [pre_blank, decide_eq_true h])]
      show acc :: TL.spl [32] 0 [] r = if c = 32 then acc :: itemsA [] r else itemsA (acc ++ [c]) r
      rw [if_pos h, spl_items r []]
    · rw [TL.spl_miss (by rw [pre_blank, decide_eq_false h])]
      show TL.spl [32] 0 (acc ++ [c]) r = if c = 32 then acc :: itemsA [] r else itemsA (acc ++ [c]) r
      rw [if_neg h, spl_items r (acc ++ [c])]
theorem split_items (l : List Nat) : Txt.split (S l) " " = (itemsA [] l).map S := by
  have h := SX.split_S (a := l) (b := [32]) (by simp) (by decide)
  rw [spl_items] at h
  exact h
def beginsA : Nat → List (List Nat) → List Nat
  | _, [] => []
  | p, x :: xs => p :: beginsA (p + x.length + 1) xs
/-- how far items reach -/
def reachA : Nat → List (List Nat) → Nat
  | p, [] => p
  | p, x :: xs => reachA (p + x.length + 1) xs
theorem beginsA_snoc : ∀ (xs : List (List Nat)) (p : Nat) (x : List Nat), beginsA p (xs ++ [x]) = beginsA p xs ++ [reachA p xs]
  | [], _, _ => rfl
  | y :: ys, p, x => by
    show p :: beginsA (p + y.length + 1) (ys ++ [x]) = p :: (beginsA (p + y.length + 1) ys ++ [reachA (p + y.length + 1) ys])
    rw [beginsA_snoc ys]
theorem reachA_snoc : ∀ (xs : List (List Nat)) (p : Nat) (x : List Nat), reachA p (xs ++ [x]) = reachA p xs + x.length + 1
  | [], _, _ => rfl
  | y :: ys, p, x => reachA_snoc ys _ x
theorem reach_items : ∀ (l acc : List Nat) (p : Nat), reachA p (itemsA acc l) = p + acc.length + l.length + 1
  | [], acc, p => rfl
  | c :: r, acc, p => by
    show reachA p (if c = 32 then acc :: itemsA [] r else itemsA (acc ++ [c]) r) = _
    by_cases h : c = 32
    · rw [if_pos h]
      show reachA (p + acc.length + 1) (itemsA [] r) = _
      rw [reach_items]
      simp
      omega
    · rw [if_neg h, reach_items]
      simp
      omega
theorem items_blank : ∀ (l acc : List Nat), itemsA acc (l ++ [32]) = itemsA acc l ++ [[]]
  | [], acc => rfl
  | c :: r, acc => by
    show (if c = 32 then acc :: itemsA [] (r ++ [32]) else itemsA (acc ++ [c]) (r ++ [32])) = (if c = 32 then acc :: itemsA [] r else itemsA (acc ++ [c]) r) ++ [[]]
    by_cases h : c = 32
    · rw [if_pos h, if_pos h, items_blank]
      rfl
    · rw [if_neg h, if_neg h, items_blank]
theorem items_sign {s : Nat} (hs : s ≠ 32) : ∀ (l acc : List Nat), ∃ xs x, itemsA acc l = xs ++ [x] ∧ itemsA acc (l ++ [s]) = xs ++ [x ++ [s]]
  | [], acc => ⟨[], acc, rfl, by show (if s = 32 then _ else itemsA (acc ++ [s]) []) = _; rw [if_neg hs]; rfl⟩
  | c :: r, acc => by
    by_cases h : c = 32
    · obtain ⟨xs, x, h1, h2⟩ := items_sign hs r []
      refine ⟨acc :: xs, x, ?_, ?_⟩
      · show (if c = 32 then acc :: itemsA [] r else _) = _
        rw [if_pos h, h1]
        rfl
      · show (if c = 32 then acc :: itemsA [] (r ++ [s]) else _) = _
        rw [if_pos h, h2]
        rfl
    · obtain ⟨xs, x, h1, h2⟩ := items_sign hs r (acc ++ [c])
      refine ⟨xs, x, ?_, ?_⟩
      · show (if c = 32 then _ else itemsA (acc ++ [c]) r) = _
        rw [if_neg h, h1]
      · show (if c = 32 then _ else itemsA (acc ++ [c]) (r ++ [s])) = _
        rw [if_neg h, h2]
theorem items_length : ∀ (l acc : List Nat), (itemsA acc l).length = l.count 32 + 1
  | [], acc => rfl
  | c :: r, acc => by
    show (if c = 32 then acc :: itemsA [] r else itemsA (acc ++ [c]) r).length = _
    by_cases h : c = 32
    · subst h
      rw [if_pos rfl, List.length_cons, items_length, List.count_cons_self]
    · rw [if_neg h, items_length, List.count_cons_of_ne h]
theorem join_items : ∀ (l acc : List Nat), TL.joinL [32] (itemsA acc l) = acc ++ l
  | [], acc => by simp [itemsA, TL.joinL]
  | c :: r, acc => by
    show TL.joinL [32] (if c = 32 then acc :: itemsA [] r else itemsA (acc ++ [c]) r) = _
    by_cases h : c = 32
    · subst h
      rw [if_pos rfl]
      have ih := join_items r []
      cases hi : itemsA [] r with
      | nil =>
        have := items_length r []
        rw [hi] at this
        simp at this
      | cons x xs =>
        rw [hi] at ih
        show acc ++ ([32] ++ TL.joinL [32] (x :: xs)) = _
        rw [ih]
        simp
    · rw [if_neg h, join_items]
      simp
theorem beginsA_length : ∀ (xs : List (List Nat)) (p : Nat), (beginsA p xs).length = xs.length
  | [], _ => rfl
  | x :: xs, p => by
    show (beginsA (p + x.length + 1) xs).length + 1 = xs.length + 1
    rw [beginsA_length xs]
theorem item_le : ∀ (l acc it : List Nat), it ∈ itemsA acc l → it.length ≤ acc.length + l.length
  | [], acc, it, h => by
    rw [List.mem_singleton.mp h]
    simp
  | c :: r, acc, it, h => by
    have h : it ∈ (if c = 32 then acc :: itemsA [] r else itemsA (acc ++ [c]) r) := h
    by_cases e : c = 32
    · rw [if_pos e] at h
      rcases List.mem_cons.mp h with rfl | h
      · simp
      · have := item_le r [] it h
        simp at this ⊢
        omega
    · rw [if_neg e] at h
      have := item_le r _ it h
      simp at this ⊢
      omega
end Kx
namespace Kx
open PySem PySem.Spec PyProof.Rows L2 SX LamX
/-! ### an int or a truth is (not) a truth -/
def rNotBI : R2 := fun x y H Q => ∃ b : Bool, y = .bl b ∧ ((∃ i : Int, x = .int i ∧ Q (.bl true) H) ∨ ∃ a : Bool, x = .bl a ∧ Q (.bl (!decide (a = b))) H)
section
variable {X : Cx}
theorem op_notBI : OpR X (compareOp .IsNot) rNotBI := by
  intro pins s σ H x y v u Q I rx ry h
  obtain ⟨b, rfl, h⟩ := h
  rcases h with ⟨i, rfl, q⟩ | ⟨a, rfl, q⟩
  · obtain ⟨t, rfl⟩ := rx
    obtain rfl : u = Value.bool b := ry
    exact wpAny_isNot_other rfl (fun z => nomatch z) ⟨.bl true, H, I, rfl, q⟩
  · exact op_notBl pins s σ H _ _ v u Q I rx ry ⟨a, b, rfl, rfl, q⟩
/-! ### list(text) -/
def signsV (l : List Nat) : List V := l.map fun c => V.str (S [c])
theorem vals_signs : ∀ {l : List Nat} {its : List Value}, l.length = its.length → (∀ (i : Nat) (c : Nat), l[i]? = some c → ∃ u : Tok, its[i]? = some (Value.str (S [c]) u)) → Vals (signsV l) its
  | [], [], _, _ => .nil
  | [], _ :: _, h, _ => by simp at h
  | _ :: _, [], h, _ => by simp at h
  | c :: l, v :: its, hl, h => by
    obtain ⟨u, e⟩ := h 0 c rfl
    have e' : v = .str (S [c]) u := by simpa using e
    exact .cons ⟨u, e'⟩ (vals_signs (by simpa using hl) fun i d hd => by
      have := h (i + 1) d (by simpa using hd)
      simpa using this)
theorem call_list_txt (hc : X.calm = true) : CallR X (.type "list") (fun xs H Q => ∃ l : List Nat, xs = [.str (S l)] ∧ l.length ≤ 1000000 ∧ ∀ p, H p = none → Q (.ref p) (upd H p (.lst (signsV l)))) := by
  intro pins s σ H xs us Q I r h
  obtain ⟨l, rfl, hl, q⟩ := h
  obtain ⟨u, rfl, t, rfl⟩ := vals1 r
  have hz : (S l).cps.size = l.length := by simp [S]
  have hn : (S l).cps.size ≤ sizeLine := by
    rw [hz]
    exact Nat.le_trans hl (by decide)
  refine call_list_str (hn := hn) (I.ok.hd hc) (S l) t fun h' tk acc' c' k e1 e2 => ?_
  obtain ⟨z1, z2⟩ := e2
  rw [hz] at z1
  have rv : Vals (signsV l) acc'.toList := by
    refine vals_signs (l := l) (by have e := Array.length_toList (xs := acc'); omega) fun i c hi => ?_
    have il : i < l.length := by
      rcases Nat.lt_or_ge i l.length with h | h
      · exact h
      · rw [List.getElem?_eq_none h] at hi
        cases hi
    have ia : i < acc'.size := by omega
    obtain ⟨d, u, h3, h4⟩ := z2 i acc'[i] (by simp [ia])
    have h5 : (S l).cps[i]? = l[i]? := by simp [S]
    rw [h5, hi] at h3
    cases h3
    refine ⟨u, ?_⟩
    have h6 : acc'.toList[i]? = some acc'[i] := by simp [ia]
    rw [h6, h4]
  exact ⟨.ref s.heap.objs.size, upd H s.heap.objs.size (.lst (signsV l)), I.laid (t' := tk) k (Nat.le_refl _) (show ObjOk X.prog X.w _ h' _ (.lst (signsV l)) from ⟨by unfold signsV; rw [List.length_map]; exact Nat.le_trans hl (by decide), acc'.toList, c', rv, by simpa using e1⟩), rfl, q _ (I.hok.fresh (Nat.le_refl _))⟩
end
/-! ### enumerate(text) -/
def IteS (x : Str) : It :=
  ⟨fun i _ => i < x.cps.size, fun i H v H' => ∃ T c, v = .ref T ∧ H T = none ∧ H' = upd H T (.tup [.int (i : Nat), .str ⟨#[c]⟩]) ∧ x.cps[i]? = some c, fun i _ => i = x.cps.size⟩
theorem draws_str {prog : Program} {w : World} {A : Around} (hh : A.handled = none) (it : Addr) (x : Str) (t : Tok) :
    Draws prog w A it [it] x.cps.size (fun i v => ∃ c u, x.cps[i]? = some c ∧ v = .str ⟨#[c]⟩ u) (fun i h => h.IsStrIter it (strIterType x) x t i) := by
  unfold strIterType
  cases x.cps.all (· < 128)
  · exact Draws.strWide hh it x t
  · exact Draws.strAscii hh it x t
theorem turn_enumS {P : Program} {w : World} {K : PySem.W.Frag} {elts : List Expr} {kk : Nat} {tpos : Pos} (x : Str) (t : Tok) (e it : Addr) :
    Turn P w K (.Tuple elts kk tpos) (IteS x) [e, it] e (fun i h => (∃ old, IsEnum h e it ((i : Nat) : Int) old) ∧ h.IsStrIter it (strIterType x) x t i ∧ e ≠ it) where
  mem := by simp
  obj := fun i h st b hb => by
    obtain ⟨⟨old, he⟩, ⟨o, ho, hc, hd⟩, _⟩ := st
    rcases (show b = e ∨ b = it by simpa using hb) with z | z
    · rw [z]
      exact ⟨_, he, fun v q => nomatch q⟩
    · rw [z]
      exact ⟨o, ho, fun v q => by rw [hd] at q; cases q⟩
  keep := fun i h h' st k => by
    obtain ⟨⟨old, he⟩, ⟨o, ho, r⟩, hne⟩ := st
    exact ⟨⟨old, k e (by simp) _ he⟩, ⟨o, k it (by simp) _ ho, r⟩, hne⟩
  item := by
    intro X hP hw hK hc i pins s σ H E I hf st hg
    subst hP hw hK
    obtain ⟨⟨old, he⟩, hit, hne⟩ := st
    have el : e < s.heap.objs.size := Heap.lt_size he
    have il : it < s.heap.objs.size := by
      obtain ⟨_, q, _⟩ := hit
      exact Heap.lt_size q
    have D := draws_str (prog := X.prog) (w := X.w) (A := X.A.in1) (I.ok.hd hc) it x t
    refine wpAny_pyNext_enum_itemD D he hit hg hne (by simpa using hne) fun u h' tk hu ho hit' hT hz hk => ?_
    obtain ⟨c, tu, hcx, rfl⟩ := hu
    refine ⟨_, rfl, wpAny_letOwnedTupleGo_enum (s := { s with heap := h', toks := tk + 1 }) ho fun h2 he' sb => ?_⟩
    have T2 := (sb.2 _ (Nat.ne_of_gt el)).trans hT
    have new : ObjOk X.prog X.w (upd H s.heap.objs.size (.tup [.int (i : Nat), .str ⟨#[c]⟩])) h2 s.heap.objs.size (.tup [.int (i : Nat), .str ⟨#[c]⟩]) :=
      ⟨by show 2 ≤ sizeLine; decide, [.int i tk, .str ⟨#[c]⟩ tu], .cons ⟨_, rfl⟩ (.cons ⟨_, rfl⟩ .nil), ⟨_, T2, rfl, _, rfl⟩⟩
    have I1 : Inv X pins σ (upd H s.heap.objs.size (.tup [.int (i : Nat), .str ⟨#[c]⟩])) { s with heap := h2, toks := tk + 1 } :=
      I.turnedNew (ch := [e, it]) (fun b ob hb q => (sb.2 b (fun z => hb (by simp [z]))).trans (hk b ob (fun z => hb (by simp [z])) (fun z => hb (by simp [z])) q)) hf (Nat.le_refl _) new
    refine ⟨.ref s.heap.objs.size, _, I1, rfl, ⟨_, c, rfl, I.hok.fresh (Nat.le_refl _), rfl, hcx⟩, ⟨⟨.str ⟨#[c]⟩ tu, ?_⟩, ?_, hne⟩, fun b hb => ?_⟩
    · rw [show ((i + 1 : Nat) : Int) = (i : Int) + 1 by omega]
      exact he'
    · obtain ⟨o, ho2, r⟩ := hit'
      exact ⟨o, (sb.2 it (Ne.symm hne)).trans ho2, r⟩
    · have hb' : b < s.heap.objs.size := by
        rcases (show b = e ∨ b = it by simpa using hb) with z | z
        · rw [z]
          exact el
        · rw [z]
          exact il
      rw [upd_ne (Nat.ne_of_lt hb')]
      exact (hf b hb).1
  done := by
    intro X hP hw hK hc i pins s σ H E I hf st hg
    subst hP hw hK
    obtain ⟨⟨old, he⟩, hit, hne⟩ := st
    obtain ⟨f0, f1, f2, f3, f4, f5⟩ := hf it (by simp)
    have hg : i = x.cps.size := hg
    subst hg
    have D := draws_str (prog := X.prog) (w := X.w) (A := X.A.in1) (I.ok.hd hc) it x t
    exact wpAny_pyNext_enum_endD D he hit fun h' eb => ⟨rfl, I.turned (t' := s.toks) (fun b o hb q => eb b o hb q) f0 f1 f3 f4 f5⟩
  self := fun A i s Q E st h => by
    obtain ⟨⟨_, he⟩, _⟩ := st
    exact wpAny_pyIter_enum he h
def iEnumS (ta : TA) : TI := fun σ H R => ta σ H fun vs H1 => ∃ x : Str, vs = [.str x] ∧ R (IteS x) H1
theorem pi_enumS {X : Cx} {e : Expr} {ta : TA} {p pos tpos : Pos} {elts : List Expr} {kk : Nat} (hg : Gl X "enumerate") (hm : X.mg "enumerate" = none) (ha : PA X [e] ta) (hs : starEach [e] X.env = [(false, eval e X.env)] := by rfl) :
    PI X (.Tuple elts kk tpos) (.Call (.Name "enumerate" p) [e] [] pos) (iEnumS ta) := by
  refine ⟨fun pins s σ H R I h => ?_⟩
  refine Call_ (ld_blt I hg hm boot_enumerate (PyProof.Rows.callWith_type1 (thn (ha.run pos pins s σ H _ I h) fun us s1 hh => ?_) hs rfl))
  obtain ⟨vs, H1, I1, r1, x, rfl, q⟩ := hh
  obtain ⟨u, rfl, t, rfl⟩ := vals1 r1
  refine call_enumerate_str fun h' he hit hz hk => wpAny_pyIter_enum he ?_
  have I2 : Inv X pins σ H1 { s1 with heap := h' } := I1.kept (t' := s1.toks) hk
  refine ⟨s1.heap.objs.size + 1, [s1.heap.objs.size + 1, s1.heap.objs.size], _, _, H1, rfl, I2, turn_enumS x t (s1.heap.objs.size + 1) s1.heap.objs.size, ⟨⟨.none, he⟩, hit, Nat.succ_ne_self _⟩, fun b hb => ?_, q⟩
  have hle : s1.heap.objs.size ≤ b := by
    rcases (show b = s1.heap.objs.size + 1 ∨ b = s1.heap.objs.size by simpa using hb) with z | z
    · rw [z]
      exact Nat.le_add_right _ _
    · rw [z]
      exact Nat.le_refl _
  exact I1.fpOk hle (I1.hok.fresh hle)
theorem walk_enumS {x : Str} : Walk (IteS x) x.cps.size (fun _ => True) (fun i H v H' => ∃ T c, v = .ref T ∧ H T = none ∧ H' = upd H T (.tup [.int (i : Nat), .str ⟨#[c]⟩]) ∧ x.cps[i]? = some c) :=
  ⟨fun _ _ h _ => h, fun _ _ => rfl, fun _ _ _ _ _ _ y => y⟩
end Kx
namespace Kx
open PySem PySem.Spec PyProof.Rows L2 SX LamX
/-! ### values of all kinds -/
def KindIs (K : PySem.W.Frag) (H : Hp) (x : V) : Prop := (∃ i, x = .int i) ∨ (∃ b, x = .bl b) ∨ (isIntV x = false ∧ ∃ n, TyX K H x (.type n) ∧ kitB n "int" = some false)
section
variable {K : PySem.W.Frag} {H H' : Hp}
theorem KindIs.same {x : V} (e : Same H H') (h : KindIs K H x) : KindIs K H' x := by
  rcases h with h | h | ⟨h, n, h1, h2⟩
  · exact .inl h
  · exact .inr (.inl h)
  · exact .inr (.inr ⟨h, n, tyx_same e h1, h2⟩)
theorem kind_non : KindIs K H .non := .inr (.inr ⟨rfl, "NoneType", .base .non, by decide +kernel⟩)
theorem kind_str (x : Str) : KindIs K H (.str x) := .inr (.inr ⟨rfl, "str", .base (.str x), by decide +kernel⟩)
theorem kind_lst {a : Addr} {ws : List V} (h : SqL K H a ws) : KindIs K H (.ref a) := .inr (.inr ⟨rfl, "list", tyL h, by decide +kernel⟩)
theorem kind_tup {a : Addr} {ws : List V} (h : SqT K H a ws) : KindIs K H (.ref a) := .inr (.inr ⟨rfl, "tuple", tyT h, by decide +kernel⟩)
theorem kind_dk {a : Addr} {kvs : List (Key × V)} (h : H a = some (.dK kvs)) : KindIs K H (.ref a) := .inr (.inr ⟨rfl, "dict", .base (.dK h), by decide +kernel⟩)
theorem hasInt_dk {a : Addr} {kvs : List (Key × V)} (h : H a = some (.dK kvs)) : HasInt K H (.ref a) := ⟨"dict", false, false, .base (.dK h), by decide +kernel, by decide +kernel, rfl⟩
end
/-- an item: of what kind it is -/
def Itm (K : PySem.W.Frag) (H : Hp) (v : V) : Prop := HasInt K H v ∧ KindIs K H v
theorem Itm.same {K : PySem.W.Frag} {H H' : Hp} {x : V} (e : Same H H') (h : Itm K H x) : Itm K H' x := ⟨h.1.same e, h.2.same e⟩
/-- codes of signs -/
def cdC (l : List Nat) : Prop := l.all (fun c => decide (c < 1114112)) = true
theorem cdC.app {l m : List Nat} (h : cdC l) (k : cdC m) : cdC (l ++ m) := by
  unfold cdC at h k ⊢
  rw [List.all_append, h, k]
  rfl
theorem cdC.sub {l m : List Nat} (h : cdC l) (k : ∀ c ∈ m, c ∈ l) : cdC m := by
  unfold cdC at h ⊢
  exact List.all_eq_true.mpr fun c hc => List.all_eq_true.mp h c (k c hc)
theorem ok_ofString (s : String) : cdC (Str.ofString s).cps.toList := by
  rw [Str.ofString_eq_toList]
  unfold cdC
  refine List.all_eq_true.mpr fun n hn => ?_
  obtain ⟨c, _, rfl⟩ := List.mem_map.mp (by simpa using hn)
  refine decide_eq_true ?_
  have hv := c.valid
  show c.val.toNat < 1114112
  rcases hv with h | ⟨_, h⟩
  · have h' : c.val.toNat < 55296 := h
    omega
  · exact h
inductive AnyV (K : PySem.W.Frag) (H : Hp) : V → Prop where
  | non : AnyV K H .non
  | bl (b : Bool) : AnyV K H (.bl b)
  | int (i : Int) : AnyV K H (.int i)
  | str (l : List Nat) (h : l.length ≤ 5000) (v : cdC l) : AnyV K H (.str (S l))
  | lst {a : Addr} {ws : List V} (h : SqL K H a ws) (n : ws.length ≤ 1000) (t : ∀ v ∈ ws, Itm K H v) : AnyV K H (.ref a)
  | tup {a : Addr} {ws : List V} (h : SqT K H a ws) (n : ws.length ≤ 1000) (t : ∀ v ∈ ws, Itm K H v) : AnyV K H (.ref a)
  | dk {a : Addr} {kvs : List (Key × V)} (h : H a = some (.dK kvs)) : AnyV K H (.ref a)
section
variable {K : PySem.W.Frag} {H H' : Hp} {x : V}
theorem AnyV.same (e : Same H H') (h : AnyV K H x) : AnyV K H' x := by
  cases h with
  | non => exact .non
  | bl b => exact .bl b
  | int i => exact .int i
  | str l h v => exact .str l h v
  | lst h n t => exact .lst (e.seq h) n fun v m => (t v m).same e
  | tup h n t => exact .tup (Same.t e h) n fun v m => (t v m).same e
  | dk h => exact .dk (e _ _ h)
theorem AnyV.itm (h : AnyV K H x) : Itm K H x := by
  cases h with
  | non => exact ⟨hasInt_non, kind_non⟩
  | bl b => exact ⟨hasInt_bl b, .inr (.inl ⟨b, rfl⟩)⟩
  | int i => exact ⟨hasInt_int i, .inl ⟨i, rfl⟩⟩
  | str l h v => exact ⟨hasInt_str _, kind_str _⟩
  | lst h n t => exact ⟨hasInt_lst h, kind_lst h⟩
  | tup h n t => exact ⟨hasInt_tup h, kind_tup h⟩
  | dk h => exact ⟨hasInt_dk h, kind_dk h⟩
/-- is it a list or a tuple -/
theorem AnyV.seq (h : AnyV K H x) : (∃ n, TyX K H x (.type n) ∧ PySem.W.kitAny K (.type n) [.type "list", .type "tuple"] = some false) ∨
    ∃ (a : Addr) (ws : List V), x = .ref a ∧ SqQ K H a ws ∧ ws.length ≤ 1000 ∧ ∀ v ∈ ws, Itm K H v := by
  cases h with
  | non => exact .inl ⟨"NoneType", .base .non, no_list (by decide +kernel) (by decide +kernel)⟩
  | bl b => exact .inl ⟨"bool", .base (.bl b), no_list (by decide +kernel) (by decide +kernel)⟩
  | int i => exact .inl ⟨"int", .base (.int i), no_list (by decide +kernel) (by decide +kernel)⟩
  | str l h v => exact .inl ⟨"str", .base (.str _), no_list (by decide +kernel) (by decide +kernel)⟩
  | lst h n t => exact .inr ⟨_, _, rfl, .inl h, n, t⟩
  | tup h n t => exact .inr ⟨_, _, rfl, .inr h, n, t⟩
  | dk h => exact .inl ⟨"dict", .base (.dK h), no_list (by decide +kernel) (by decide +kernel)⟩
/-- is it a text -/
theorem AnyV.str? (h : AnyV K H x) : (∃ l : List Nat, x = .str (S l) ∧ l.length ≤ 5000 ∧ cdC l) ∨ ∃ n, TyX K H x (.type n) ∧ kitB n "str" = some false := by
  cases h with
  | non => exact .inr ⟨"NoneType", .base .non, by decide +kernel⟩
  | bl b => exact .inr ⟨"bool", .base (.bl b), by decide +kernel⟩
  | int i => exact .inr ⟨"int", .base (.int i), by decide +kernel⟩
  | str l h v => exact .inl ⟨l, rfl, h, v⟩
  | lst h n t => exact .inr ⟨"list", tyL h, by decide +kernel⟩
  | tup h n t => exact .inr ⟨"tuple", tyT h, by decide +kernel⟩
  | dk h => exact .inr ⟨"dict", .base (.dK h), by decide +kernel⟩
end
theorem S_of (x : Str) : S x.cps.toList = x := by
  cases x
  simp [S]
theorem any_text {K : PySem.W.Frag} {H : Hp} (x : Str) (h : x.length ≤ 5000) (v : cdC x.cps.toList) : AnyV K H (.str x) := by
  have e := AnyV.str (K := K) (H := H) x.cps.toList (by simpa [Str.length] using h) v
  rw [S_of] at e
  exact e
theorem itms_nil {K : PySem.W.Frag} {H : Hp} : ∀ v ∈ ([] : List V), Itm K H v := fun _ m => by cases m
theorem itms_cons {K : PySem.W.Frag} {H : Hp} {x : V} {xs : List V} (h : Itm K H x) (t : ∀ v ∈ xs, Itm K H v) : ∀ v ∈ x :: xs, Itm K H v := fun v m => by
  rcases List.mem_cons.mp m with rfl | m
  · exact h
  · exact t v m
theorem itm_int {K : PySem.W.Frag} {H : Hp} (i : Int) : Itm K H (.int i) := ⟨hasInt_int i, .inl ⟨i, rfl⟩⟩
theorem itm_bl {K : PySem.W.Frag} {H : Hp} (b : Bool) : Itm K H (.bl b) := ⟨hasInt_bl b, .inr (.inl ⟨b, rfl⟩)⟩
theorem joinL_nil : ∀ (l : List Nat), TL.joinL [] (l.map fun c => [c]) = l
  | [] => rfl
  | [c] => rfl
  | c :: d :: r => by
    have ih := joinL_nil (d :: r)
    show [c] ++ ([] ++ TL.joinL [] ((d :: r).map fun c => [c])) = c :: d :: r
    rw [ih]
    rfl
theorem join_signs (l : List Nat) : Txt.join "" (l.map fun c => S [c]) = S l := by
  have h := SX.join_S [] (l.map fun c => [c])
  rw [joinL_nil, List.map_map] at h
  exact h
theorem sum_signs : ∀ (l : List Nat), ((l.map fun c => S [c]).map (·.length)).sum = l.length
  | [] => rfl
  | c :: r => by
    show (S [c]).length + ((r.map fun c => S [c]).map (·.length)).sum = r.length + 1
    rw [sum_signs r, S_len]
    show 1 + r.length = _
    omega
theorem signs_map (l : List Nat) : signsV l = (l.map fun c => S [c]).map V.str := by
  unfold signsV
  rw [List.map_map]
  rfl
theorem in_signs {l : List Nat} {v : V} (h : v ∈ signsV l) : ∃ c, c ∈ l ∧ v = .str (S [c]) := by
  obtain ⟨c, hc, e⟩ := List.mem_map.mp h
  exact ⟨c, hc, e.symm⟩
end Kx
namespace Kx
open PySem PySem.Spec PyProof.Rows L2 SX LamX
section
variable {K : PySem.W.Frag} {J : It} {n : Nat} {G : Hp → Prop} {Y : Nat → Hp → V → Hp → Prop} {g : TG} {tt : TT} {te : TE} {vs : List Nat} {σ : L2.St} {H1 : Hp} {D : Addr} {Qd : Hp → Prop}
theorem keep_some {zs : List (Option V)} {i : Nat} {v : V} (h : zs[i]? = some (some v)) : (zs.take (i + 1)).filterMap id = (zs.take i).filterMap id ++ [v] := by
  rw [List.take_add_one, h, List.filterMap_append]
  rfl
theorem keep_none {zs : List (Option V)} {i : Nat} (h : zs[i]? = some none) : (zs.take (i + 1)).filterMap id = (zs.take i).filterMap id := by
  rw [List.take_add_one, h, List.filterMap_append]
  simp
/-- a comprehension with a test, its items told ahead: none where the test fails -/
theorem lc_keep (w : Walk J n G Y) (zs : List (Option V)) (hz : zs.length = n) (nD : H1 D = none) (len : n ≤ 1000000) (hG : ∀ Hc, Same H1 Hc → G Hc)
    (turn : ∀ (i : Nat) (x : V) (z : Option V) (Hc Hx : Hp) (Q' : VK) (R' : Hp → Prop), i < n → zs[i]? = some z → Same H1 Hc → Y i Hc x Hx → (∀ v H4, z = some v → Same Hc H4 → Q' v H4) → (∀ H4, z = none → Same Hc H4 → R' H4) → g x (wipe σ vs) Hx fun σ2 H2 => wipe σ2 vs = wipe σ vs ∧ tt σ2 H2 fun b H3 => if b = true then te σ2 H3 Q' else R' H3)
    (fin : ∀ Hc, Same H1 Hc → Hc D = some (.lst (zs.filterMap id)) → Qd Hc) :
    ∃ W : Nat → Nat → Hp → Prop, (∃ m, W 0 m (upd H1 D (.lst []))) ∧ ∀ i m H, W i m H →
      (J.stop i H ∧ Qd H) ∨ (J.go i H ∧ ∃ Nx : Hp → Prop, (∀ H', Nx H' → ∃ m', m' < m ∧ W (i + 1) m' H') ∧ ∀ x H', J.yld i H x H' → g x (wipe σ vs) H' fun σ2 H2 => wipe σ2 vs = wipe σ vs ∧ tt σ2 H2 fun b H3 =>
        if b = true then te σ2 H3 fun y H4 => ∃ acc, H4 D = some (.lst acc) ∧ acc.length < sizeLine ∧ Nx (upd H4 D (.lst (acc ++ [y]))) else Nx H3) := by
  refine lc_it w (fun i Hc => Same H1 Hc ∧ Hc D = some (.lst ((zs.take i).filterMap id))) ⟨same_new nD, upd_same⟩ (fun i H _ p => hG H p.1) (fun i x Hc Hx hi p y => ?_) (fun Hc p => ?_)
  · have hzi : zs[i]? = some (zs[i]'(by omega)) := List.getElem?_eq_getElem (by omega)
    refine turn i x _ Hc Hx _ _ hi hzi p.1 y (fun v H4 ev e4 => ⟨_, e4 _ _ p.2, ?_, ?_⟩) (fun H4 ev e4 => ⟨p.1.trans e4, ?_⟩)
    · have h1 : ((zs.take i).filterMap id).length ≤ (zs.take i).length := List.length_filterMap_le ..
      rw [List.length_take] at h1
      exact Nat.lt_of_le_of_lt (show _ ≤ 1000000 by omega) (by decide)
    · refine ⟨fun b o z => ?_, ?_⟩
      · rw [upd_ne (ne_of_none z nD)]
        exact e4 _ _ (p.1 b o z)
      · rw [upd_same, keep_some (by rw [hzi, ev])]
    · rw [keep_none (by rw [hzi, ev])]
      exact e4 _ _ p.2
  · rw [← hz, List.take_length] at p
    exact fin Hc p.1 p.2
end
section
variable {K : PySem.W.Frag} {a : Addr} {xs : List V} {g : TG} {tt : TT} {te : TE} {vs : List Nat} {σ : L2.St} {H : Hp} {k : Nat} {Q : VK} {l : List Nat}
/-- [e for c in NAME if t], NAME a text -/
theorem lc_txt (zs : List (Option V)) (hz : zs.length = l.length) (hi : σ[k]? = some (some (.str (S l)))) (len : l.length ≤ 1000000)
    (turn : ∀ (i : Nat) (c : Nat) (z : Option V) (Hc : Hp) (Q' : VK) (R' : Hp → Prop), l[i]? = some c → zs[i]? = some z → Same H Hc → (∀ v H4, z = some v → Same Hc H4 → Q' v H4) → (∀ H4, z = none → Same Hc H4 → R' H4) → g (.str (S [c])) (wipe σ vs) Hc fun σ2 H2 => wipe σ2 vs = wipe σ vs ∧ tt σ2 H2 fun b H3 => if b = true then te σ2 H3 Q' else R' H3)
    (fin : ∀ (D : Addr) (Hc : Hp), Same H Hc → Hc D = some (.lst (zs.filterMap id)) → Q (.ref D) Hc) :
    tLc (iStr (tVar k)) g tt te vs σ H Q := by
  have e : (S l).cps.size = l.length := by simp [S]
  refine ⟨_, hi, S l, rfl, fun D nD => lc_keep walk_str zs (by rw [hz, e]) nD (by rw [e]; exact len) (fun _ _ => trivial) (fun i x z Hc Hx Q' R' _ hzi e1 y q r => ?_) (fin D)⟩
  obtain ⟨rfl, c, hc, rfl⟩ := y
  have hc' : l[i]? = some c := by
    have : (S l).cps[i]? = l[i]? := by simp [S]
    rw [← this]
    exact hc
  exact turn i c z _ Q' R' hc' hzi e1 q r
/-- [e for x in NAME if t], NAME a list -/
theorem lc_lstk (zs : List (Option V)) (hz : zs.length = xs.length) (hi : σ[k]? = some (some (.ref a))) (hq : SqL K H a xs) (len : xs.length ≤ 1000000)
    (turn : ∀ (i : Nat) (x : V) (z : Option V) (Hc : Hp) (Q' : VK) (R' : Hp → Prop), xs[i]? = some x → zs[i]? = some z → Same H Hc → (∀ v H4, z = some v → Same Hc H4 → Q' v H4) → (∀ H4, z = none → Same Hc H4 → R' H4) → g x (wipe σ vs) Hc fun σ2 H2 => wipe σ2 vs = wipe σ vs ∧ tt σ2 H2 fun b H3 => if b = true then te σ2 H3 Q' else R' H3)
    (fin : ∀ (D : Addr) (Hc : Hp), Same H Hc → Hc D = some (.lst (zs.filterMap id)) → Q (.ref D) Hc) :
    tLc (iList K (tVar k)) g tt te vs σ H Q := ⟨_, hi, a, rfl, ⟨_, hq⟩, fun D nD => lc_keep walk_list zs hz nD len (fun Hc e => e.seq hq) (fun i x z Hc Hx Q' R' _ hzi e y q r => by
      obtain ⟨rfl, hx⟩ := y
      exact turn i x z _ Q' R' hx hzi e q r) (fin D)⟩
end
/-- texts of one sign each, laid -/
theorem pl_signs {l : List Nat} (h : cdC l) : ∀ d ∈ l.map (fun c => PyData.str (S [c])), Pl 0 d := fun d m => by
  obtain ⟨c, hc, rfl⟩ := List.mem_map.mp m
  refine ⟨?_, Nat.le_refl _⟩
  have h2 := List.all_eq_true.mp h c hc
  show (S [c]).cps.all (· < 0x110000) = true
  simpa [S] using of_decide_eq_true h2
theorem dp_signs {K : PySem.W.Frag} {H : Hp} (l : List Nat) : Paired (fun v d => Dp K H v d) (signsV l) (l.map fun c => PyData.str (S [c])) := paired_of_map _ _ fun c _ => .str (S [c])
/-- «xs == []», any laid items -/
theorem eq_nilD {K : PySem.W.Frag} {H : Hp} {a p : Addr} {vs : List V} {ds : List PyData} {k : Nat} {Q : VK} (h1 : SqL K H a vs) (hd : Paired (fun v d => Dp K H v d) vs ds) (hp : ∀ d ∈ ds, Pl k d) (hk : k ≤ 60) (h2 : H p = some (.lst [])) (q : Q (.bl (decide (ds = []))) H) : rEqD K (.ref a) (.ref p) H Q :=
  ⟨_, _, .lst h1 (dpAll_of hd), dp_ints (xs := []) (.inl (.inl h2)), (Pl.lst hp).shaped (by omega), (pl_ints []).shaped (by decide), by
    have e : PyData.eqv (.list ds) (.list (([] : List Int).map PyData.int)) = decide (ds = []) := by
      cases ds with
      | nil => rfl
      | cons d t => rfl
    rw [e]
    exact q⟩
theorem filt_map {α β : Type} (p : α → Bool) (f : α → β) : ∀ (l : List α), (l.map fun c => if p c = true then some (f c) else none).filterMap id = (l.filter p).map f
  | [] => rfl
  | c :: l => by
    rw [List.map_cons, List.filterMap_cons]
    cases h : p c with
    | true =>
      rw [List.filter_cons_of_pos h]
      show f c :: _ = f c :: _
      rw [filt_map p f l]
    | false =>
      rw [List.filter_cons_of_neg (by rw [h]; decide)]
      exact filt_map p f l
end Kx
namespace Kx
open PySem PySem.Spec PyProof.Rows L2 SX LamX
section
variable {D : Ends} {σ : L2.St} {H : Hp}
theorem go_and {ta tb : TE} {Q : VK} (h : ta σ H fun x H1 => ∃ c, x = .bl c ∧ if c = true then tb σ H1 Q else Q (.bl false) H1) : tAndV ta tb σ H Q := h
theorem go_chain {r r' : R2} {ta tb tc : TE} {Q : VK} (h : ta σ H fun x H1 => tb σ H1 fun y H2 => r x y H2 fun z H3 => ∃ k, z = .bl k ∧ if k = true then tc σ H3 fun w' H4 => r' y w' H4 Q else Q (.bl false) H3) : tChain r r' ta tb tc σ H Q := h
theorem go_or {ta tb : TE} {Q : VK} (h : ta σ H fun x H1 => ∃ c, x = .bl c ∧ if c = true then Q (.bl true) H1 else tb σ H1 Q) : tOrV ta tb σ H Q := h
theorem go_lst {t : TA} {Q : VK} (h : t σ H fun xs H1 => xs.length ≤ sizeLine ∧ ∀ p, H1 p = none → Q (.ref p) (upd H1 p (.lst xs))) : tLst t σ H Q := h
end
/-- both, told as one truth -/
theorem and_join {c : Bool} {tb : TE} {Q : VK} {σ : L2.St} {H : Hp} (d : Bool) (h : c = true → ∀ Q' : VK, Q' (.bl d) H → tb σ H Q') (q : Q (.bl (c && d)) H) : ∃ c', V.bl c = .bl c' ∧ if c' = true then tb σ H Q else Q (.bl false) H := by
  refine ⟨c, rfl, ?_⟩
  cases c with
  | true => exact h rfl _ q
  | false => exact q
theorem and_b {c : Bool} {A B : Prop} (h1 : c = true → A) (h2 : c = false → B) : if c = true then A else B := by
  cases c with
  | true => rw [if_pos rfl]; exact h1 rfl
  | false => rw [if_neg (by decide)]; exact h2 rfl
theorem map_nil_dec {α β : Type} (f : α → β) (l : List α) [Decidable (l.map f = [])] : decide (l.map f = []) = l.isEmpty := by
  cases l with
  | nil => exact decide_eq_true rfl
  | cons a t => exact decide_eq_false (fun e => nomatch e)
theorem filt_empty (p : Nat → Bool) (l : List Nat) : (l.filter fun c => !p c).isEmpty = l.all p := by
  induction l with
  | nil => rfl
  | cons c t ih =>
    cases h : p c with
    | true =>
      rw [List.filter_cons_of_neg (by rw [h]; decide), List.all_cons, h, ih]
      rfl
    | false =>
      rw [List.filter_cons_of_pos (by rw [h]; rfl), List.all_cons, h]
      rfl
/-- one sign is the blank -/
theorem is_blank (c : Nat) : decide (V.str (S [c]) = V.str (Str.ofString " ")) = decide (c = 32) := by
  by_cases hc : c = 32
  · subst hc
    rfl
  · rw [decide_eq_false hc, decide_eq_false]
    intro e
    injection e with e
    have := congrArg (fun z : Str => z.cps.toList) e
    simp [S] at this
    exact hc (by have h2 : (Str.ofString " ").cps.toList = [32] := rfl; rw [h2] at this; simpa using this)
theorem take_succ {α : Type} {l : List α} {i : Nat} {c : α} (h : l[i]? = some c) : l.take (i + 1) = l.take i ++ [c] := by
  rw [List.take_add_one, h]
  rfl
theorem ixN_last (n : Nat) : ixN (n + 1) (-1) = some n := by
  unfold ixN
  rw [if_neg (by decide), if_pos (by omega)]
  congr 1
  omega
end Kx
namespace Kx
open PySem PySem.Spec PyProof.Rows L2 SX LamX
section
variable {X : Cx} {k : Nat} {f : Addr} {fd : FuncData} {ps : List Str} {sp : Sp} {x : Str} {p pos : Pos} {e1 : Expr} {more : List Expr} {t : TA}
/-! ### a call of a def that is promised only where no repr runs around it; it raises nothing -/
theorem pe_callG (F : FnG X.prog X.w X.K X.mg X.base CX0 k f fd ps sp) (nog : X.A.guards = some []) (room : Room k X.A) (here : Gl X x) (at_f : X.mg x = some (.ref f)) (keeps : PySem.W.keepIn X.K (.ref f) = true) (bd : Binds X.K fd ps [])
    (args : PA X (e1 :: more) t) (nd : (x == ("__debug__" : Str)) = false := by decide) (h1 : starEach (e1 :: more) X.env = (false, eval e1 X.env) :: starEach more X.env := by rfl) (h2 : (backTo pos (starEach more X.env)).any (·.1) = false := by rfl) :
    PE X (.Call (.Name x p) (e1 :: more) [] pos) (tCall sp [] C8.E0 t) := by
  constructor
  intro pins s σ H Q I want
  apply wpAny_Call_Name_kw
  refine ld_glob I here at_f ?_ nd
  refine PySem.W.callWith_K (h₀ := X.base) I.ok.mod.kin keeps (thn (args.run pos pins s σ H _ I want) fun us st hh => ?_) h1 h2
  obtain ⟨vs, Hm, J, rv, promise⟩ := hh
  rw [List.append_nil] at promise
  have size : (us ++ []).length = ps.length := by
    rw [List.append_nil, ← rv.length]
    exact F.len _ _ _ _ promise
  have bound := bd st us J.kIn size
  rw [List.append_nil] at bound
  refine ⟨J.kIn, wpAny_call (codeAny_mono (F.go X.A X.stack st Hm ⟨us, []⟩ us vs Q C8.E0 nog room J.env0 bound rv promise) fun r st2 done => ?_)⟩
  match r, done with
  | .ok (.ret u), done => exact J.after done
  | .error e, done => exact (show False from done).elim
  | .ok .next, done => exact done.elim
  | .ok .brk, done => exact done.elim
  | .ok .cont, done => exact done.elim
end
/-! ### tables stay through draws -/
theorem Tabs.mv {T : List (Addr × Str)} {a c : Addr} {n : Nat} {H H' : Hp} (t : Tabs T H) (w : Wh H a c n) (m : Mv a H H') : Tabs T H' := fun p hp => by
  obtain ⟨ps, h1, h2, h3⟩ := t p hp
  obtain ⟨cs, x, l', g1, _⟩ := w
  refine ⟨ps, m _ _ (ne_of_two h1 g1 (fun z => by cases z)) h1, h2, fun pos cv hc => ?_⟩
  obtain ⟨c', e1, e2⟩ := h3 pos cv hc
  exact ⟨c', e1, m _ _ (ne_of_two e2 g1 (fun z => by cases z)) e2⟩
theorem Tabs.same {T : List (Addr × Str)} {H H' : Hp} (t : Tabs T H) (m : Same H H') : Tabs T H' := fun p hp => (t p hp).ext m
end Kx
namespace Kx
open PySem PySem.Spec PyProof.Rows L2 SX LamX
/-! ### data that repr shows -/
structure Sh (k m : Nat) (d : PyData) : Prop where
  sh : d.showable = true
  nd : d.hasDict = false
  dp : d.depth ≤ k
  lv : d.leavesShort 13 = true
  bk : d.bulk ≤ m
theorem Sh.len {k m : Nat} {d : PyData} (h : Sh k m d) (hm : m ≤ 1048576) : d.shown.length ≤ sizeLine :=
  PyData.shown_fits_bulk (B := 13) (by decide) (by decide) h.lv (Nat.le_trans h.bk hm)
theorem Sh.up {k l m n : Nat} {d : PyData} (h : Sh k m d) (hk : k ≤ l) (hm : m ≤ n) : Sh l n d := ⟨h.sh, h.nd, Nat.le_trans h.dp hk, h.lv, Nat.le_trans h.bk hm⟩
theorem sh_bool (b : Bool) : Sh 0 0 (.bool b) := ⟨rfl, rfl, Nat.le_refl _, rfl, Nat.le_refl _⟩
theorem sh_none : Sh 0 0 .none := ⟨rfl, rfl, Nat.le_refl _, rfl, Nat.le_refl _⟩
theorem sh_int {i : Int} (h : i.natAbs < 1000000000000) : Sh 0 0 (.int i) :=
  ⟨by
    simp only [PyData.showable, decide_eq_true_eq]
    by_cases z : i.natAbs = 0
    · rw [z]; decide
    · exact Nat.lt_of_lt_of_le ((Nat.log2_lt z).mpr (Nat.lt_of_lt_of_le h (by decide : 1000000000000 ≤ 2 ^ 40))) (by decide), rfl, Nat.le_refl _, by simp only [PyData.leavesShort, decide_eq_true_eq]; exact PyData.shown_int_le (by exact h), Nat.le_refl _⟩
theorem sh_str {x : Str} {l : List Nat} (e : x = S l) (h : cdC l) : Sh 0 l.length (.str x) :=
  ⟨rfl, rfl, Nat.le_refl _, by
    subst e
    simp only [PyData.leavesShort, List.all_eq_true, decide_eq_true_eq]
    intro c hc
    have h2 := List.all_eq_true.mp h c (by simpa [S] using hc)
    have h3 := of_decide_eq_true h2
    exact Nat.lt_of_lt_of_le h3 (by decide), by
    subst e
    simp [PyData.bulk, S]⟩
/-- items that are shown, m: their signs and one each -/
inductive ShA (k : Nat) : Nat → List PyData → Prop
  | nil : ShA k 0 []
  | cons {m n : Nat} {d : PyData} {ds : List PyData} : Sh k m d → ShA k n ds → ShA k (m + 1 + n) (d :: ds)
theorem ShA.all {k m : Nat} {ds : List PyData} (h : ShA k m ds) : PyData.showableAll ds = true ∧ PyData.hasDictAll ds = false ∧ PyData.depthAll ds ≤ k ∧ PyData.leavesShortAll 13 ds = true ∧ PyData.bulkAll ds ≤ m := by
  induction h with
  | nil => exact ⟨rfl, rfl, Nat.zero_le _, rfl, Nat.le_refl _⟩
  | cons h1 _ ih =>
    obtain ⟨a, b, c, d, e⟩ := ih
    refine ⟨?_, ?_, ?_, ?_, ?_⟩
    · simp only [PyData.showableAll, h1.sh, a, Bool.and_self]
    · simp only [PyData.hasDictAll, h1.nd, b, Bool.or_self]
    · simp only [PyData.depthAll]
      exact Nat.max_le.mpr ⟨h1.dp, c⟩
    · simp only [PyData.leavesShortAll, h1.lv, d, Bool.and_self]
    · simp only [PyData.bulkAll]
      have := h1.bk
      omega
theorem ShA.lst {k m : Nat} {ds : List PyData} (h : ShA k m ds) : Sh (k + 1) m (.list ds) := by
  obtain ⟨a, b, c, d, e⟩ := h.all
  exact ⟨by simp only [PyData.showable, a], by simp only [PyData.hasDict, b], by simp only [PyData.depth]; omega, by simp only [PyData.leavesShort, d], by simp only [PyData.bulk]; exact e⟩
theorem ShA.tup {k m : Nat} {ds : List PyData} (h : ShA k m ds) : Sh (k + 1) m (.tuple ds) := by
  obtain ⟨a, b, c, d, e⟩ := h.all
  exact ⟨by simp only [PyData.showable, a], by simp only [PyData.hasDict, b], by simp only [PyData.depth]; omega, by simp only [PyData.leavesShort, d], by simp only [PyData.bulk]; exact e⟩
theorem shA_ints {k : Nat} : ∀ (l : List Int), (∀ i ∈ l, i.natAbs < 1000000000000) → ShA k l.length (l.map PyData.int)
  | [], _ => .nil
  | i :: r, h => by
    have := ShA.cons ((sh_int (h i List.mem_cons_self)).up (Nat.zero_le k) (Nat.le_refl _)) (shA_ints r fun j m => h j (List.mem_cons_of_mem _ m))
    have e : 0 + 1 + r.length = (i :: r).length := by rw [List.length_cons]; omega
    rw [e] at this
    exact this
theorem shA_texts {k : Nat} : ∀ (xs : List (List Nat)), (∀ x ∈ xs, cdC x) → ShA k (reachA 0 xs) (xs.map fun x => PyData.str (S x))
  | [], _ => .nil
  | x :: r, h => by
    have := ShA.cons ((sh_str rfl (h x List.mem_cons_self)).up (Nat.zero_le k) (Nat.le_refl _)) (shA_texts r fun y m => h y (List.mem_cons_of_mem _ m))
    have e : ∀ (r : List (List Nat)) (p : Nat), reachA p r = p + reachA 0 r := fun r => by
      induction r with
      | nil => intro p; rfl
      | cons y r ih =>
        intro p
        show reachA (p + y.length + 1) r = p + reachA (0 + y.length + 1) r
        rw [ih, ih (0 + y.length + 1)]
        omega
    have e2 : x.length + 1 + reachA 0 r = reachA 0 (x :: r) := by
      show _ = reachA (0 + x.length + 1) r
      rw [e r (0 + x.length + 1)]
      omega
    rw [e2] at this
    exact this
theorem item_cd : ∀ (l acc it : List Nat), it ∈ itemsA acc l → ∀ c ∈ it, c ∈ acc ∨ c ∈ l
  | [], acc, it, h, c, hc => by
    rw [List.mem_singleton.mp h] at hc
    exact .inl hc
  | d :: r, acc, it, h, c, hc => by
    have h : it ∈ (if d = 32 then acc :: itemsA [] r else itemsA (acc ++ [d]) r) := h
    by_cases e : d = 32
    · rw [if_pos e] at h
      rcases List.mem_cons.mp h with rfl | h
      · exact .inl hc
      · rcases item_cd r [] it h c hc with z | z
        · cases z
        · exact .inr (List.mem_cons_of_mem _ z)
    · rw [if_neg e] at h
      rcases item_cd r _ it h c hc with z | z
      · rcases List.mem_append.mp z with z | z
        · exact .inl z
        · rw [List.mem_singleton.mp z]
          exact .inr List.mem_cons_self
      · exact .inr (List.mem_cons_of_mem _ z)
theorem begins_le : ∀ (xs : List (List Nat)) (p : Nat), ∀ b ∈ beginsA p xs, b ≤ reachA p xs
  | [], p, b, h => by cases h
  | x :: xs, p, b, h => by
    have r : ∀ (xs : List (List Nat)) (p : Nat), p ≤ reachA p xs := fun xs => by
      induction xs with
      | nil => exact fun p => Nat.le_refl _
      | cons y ys ih =>
        intro p
        show p ≤ reachA (p + y.length + 1) ys
        exact Nat.le_trans (by omega) (ih _)
    show b ≤ reachA (p + x.length + 1) xs
    rcases List.mem_cons.mp h with rfl | h
    · exact Nat.le_trans (by omega) (r xs _)
    · exact begins_le xs _ b h
/-- repr of data -/
theorem go_repr {K : PySem.W.Frag} {a : Addr} {d : PyData} {k m : Nat} {H : Hp} {Q : VK} (hd : Dp K H (.ref a) d) (h : Sh k m d) (hk : k ≤ 60) (hm : m ≤ 1048576) (q : Q (.str d.shown) H) : rRepr K [.ref a] H Q :=
  ⟨a, d, rfl, hd, h.sh, h.nd, Nat.le_trans h.dp hk, h.len hm, q⟩
/-- one and the same text is no other -/
theorem rne_self {x : Str} {H : Hp} {Q : Bool → Hp → Prop} (q : Q false H) : ∃ k, V.bl (!decide (V.str x = V.str x)) = .bl k ∧ Q k H := ⟨false, by simp, q⟩
theorem bools_dp {K : PySem.W.Frag} {H : Hp} {p : Addr} {bs : List Bool} (h : H p = some (.lst (bs.map V.bl))) : Dp K H (.ref p) (.list (bs.map PyData.bool)) := .lst (.inl (.inl h)) (by
  clear h
  induction bs with
  | nil => exact .nil
  | cons b t ih => exact .cons (.bl b) ih)
theorem shA_bools {k : Nat} : ∀ (l : List Bool), ShA k l.length (l.map PyData.bool)
  | [] => .nil
  | i :: r => by
    have := ShA.cons ((sh_bool i).up (Nat.zero_le k) (Nat.le_refl _)) (shA_bools r)
    have e : 0 + 1 + r.length = (i :: r).length := by rw [List.length_cons]; omega
    rw [e] at this
    exact this
theorem cnt_count : ∀ (l : List Nat), cnt 32 l = (l.count 32 : Nat)
  | [] => rfl
  | c :: r => by
    rw [cnt_cons, cnt_count r]
    by_cases h : c = 32
    · subst h
      rw [List.count_cons_self]
      simp
      omega
    · rw [List.count_cons_of_ne h]
      simp [h]
theorem count_blank (l : List Nat) : Txt.count (S l) " " = (l.count 32 : Nat) := by
  have h := count_cnt (S l) 32
  have e : (" " : Str) = ⟨#[32]⟩ := rfl
  rw [e, h]
  have e2 : (S l).cps.toList = l := by simp [S]
  rw [e2, cnt_count]
end Kx
namespace Kx
open PySem PySem.Spec PyProof.Rows L2 SX LamX
/-- no positional value, one by name -/
def oneG {α : Type} (us ws : List α) : List α := match us, ws with | [], [u] => [u] | _, _ => []
theorem kb_one {K : PySem.W.Frag} {x qual : Str} {st : Stmt} {f : Addr} {fd : FuncData} {a : Str} (F : Fun K x qual st f fd)
    (h : ∀ (kV doc pm : Value) (an : Option Addr) (cdv ct : Value) (u : Value), bindArgs (PySem.W.fnOf x qual (defArgs st) (defBody st) (defScope st) .none kV doc pm an cdv ct) ⟨[], [(a, u)]⟩ = pure [(a, u)]) :
    KBinds K fd [a] [a] oneG oneG := by
  obtain ⟨oc, od, kV, doc, pm, an, cdv, ct, osl, rfl, lk, hcd⟩ := F.ex
  refine ⟨fun s us ws X l => ?_, fun {vs us zs ws} r1 r2 => ?_⟩
  · match us, ws, l with
    | [], [u], _ => exact .of_eq (h kV doc pm an cdv ct u)
    | [], [], l => cases l
    | [], _ :: _ :: _, l => cases l
    | _ :: _, _, l => cases l
  · cases r1 with
    | cons _ _ => exact .nil
    | nil =>
      cases r2 with
      | nil => exact .nil
      | cons h1 r2 =>
        cases r2 with
        | nil => exact .cons h1 .nil
        | cons _ _ => exact .nil
/-- no positional value, three by name: c, a, b for a, b, c -/
def turnG {α : Type} (us ws : List α) : List α := match us, ws with | [], [c, a, b] => [a, b, c] | _, _ => []
theorem kb_turn {K : PySem.W.Frag} {x qual : Str} {st : Stmt} {f : Addr} {fd : FuncData} {a b c : Str} (F : Fun K x qual st f fd)
    (h : ∀ (kV doc pm : Value) (an : Option Addr) (cdv ct : Value) (u v w : Value), bindArgs (PySem.W.fnOf x qual (defArgs st) (defBody st) (defScope st) .none kV doc pm an cdv ct) ⟨[], [(c, w), (a, u), (b, v)]⟩ = pure [(a, u), (b, v), (c, w)]) :
    KBinds K fd [a, b, c] [c, a, b] turnG turnG := by
  obtain ⟨oc, od, kV, doc, pm, an, cdv, ct, osl, rfl, lk, hcd⟩ := F.ex
  refine ⟨fun s us ws X l => ?_, fun {vs us zs ws} r1 r2 => ?_⟩
  · match us, ws, l with
    | [], [w, u, v], _ => exact .of_eq (h kV doc pm an cdv ct u v w)
    | [], [], l => cases l
    | [], [_], l => cases l
    | [], [_, _], l => cases l
    | [], _ :: _ :: _ :: _ :: _, l => cases l
    | _ :: _, _, l => cases l
  · cases r1 with
    | cons _ _ => exact .nil
    | nil =>
      cases r2 with
      | nil => exact .nil
      | cons h1 r2 =>
        cases r2 with
        | nil => exact .nil
        | cons h2 r2 =>
          cases r2 with
          | nil => exact .nil
          | cons h3 r2 =>
            cases r2 with
            | nil => exact .cons h2 (.cons h3 (.cons h1 .nil))
            | cons _ _ => exact .nil
end Kx
namespace Kx
open PySem PySem.Spec PyProof.Rows L2 SX LamX
theorem go_nil {σ : L2.St} {H : Hp} {Q : List V → Hp → Prop} (h : Q [] H) : tNil σ H Q := h
theorem go_var {σ : L2.St} {H : Hp} {i : Nat} {v : V} {Q : VK} (e : σ[i]? = some (some v)) (h : Q v H) : tVar i σ H Q := ⟨v, e, h⟩
theorem go_or2 {ta tb : TT} {σ : L2.St} {H : Hp} {Q : Bool → Hp → Prop} (h : ta σ H fun b H1 => if b = true then Q true H1 else tb σ H1 Q) : tOr ta tb σ H Q := h
theorem go_not {ta : TT} {σ : L2.St} {H : Hp} {Q : Bool → Hp → Prop} (h : ta σ H fun b H1 => Q (!b) H1) : tNot ta σ H Q := h
theorem go_b {te : TE} {σ : L2.St} {H : Hp} {Q : Bool → Hp → Prop} (h : te σ H fun x H1 => ∃ c, x = .bl c ∧ Q c H1) : tB te σ H Q := h
end Kx
namespace Kx
open PySem PySem.Spec PyProof.Rows L2 SX LamX
theorem ext_at {H H' : Hp} {b : Addr} {o : HO} (e : ExtN H H') (h : H b = some o) (n : ∀ ps, o ≠ .tbl ps := by intro ps z; cases z) : H' b = some o := e b o h n
theorem tyx_ext {K : PySem.W.Frag} {H H' : Hp} {x : V} {n : String} (e : ExtN H H') (h : TyX K H x (.type n)) : TyX K H' x (.type n) := by
  cases h with
  | base b =>
    cases b with
    | non => exact .base .non
    | bl y => exact .base (.bl y)
    | int i => exact .base (.int i)
    | str z => exact .base (.str z)
    | flt z => exact .base (.flt z)
    | lst h => exact .base (.lst (ext_at e h))
    | frz h => exact .base (.frz (ext_at e h))
    | tup h => exact .base (.tup (ext_at e h))
    | dK h => exact .base (.dK (ext_at e h))
    | dT h => exact .base (.dT (ext_at e h))
  | byt b => exact .byt b
  | set h => exact .set (ext_at e h)
  | kList h c => exact .kList h c
  | kTuple h c => exact .kTuple h c
  | kDict h c => exact .kDict h c
  | fTuple h => exact .fTuple (ext_at e h)
  | fDict h => exact .fDict (ext_at e h)
theorem sqL_ext {K : PySem.W.Frag} {H H' : Hp} {a : Addr} {xs : List V} (e : ExtN H H') (h : SqL K H a xs) : SqL K H' a xs := by
  rcases h with (h | ⟨o, h⟩) | h
  · exact .inl (.inl (ext_at e h))
  · exact .inl (.inr ⟨o, ext_at e h⟩)
  · exact .inr h
theorem sqT_ext {K : PySem.W.Frag} {H H' : Hp} {a : Addr} {xs : List V} (e : ExtN H H') (h : SqT K H a xs) : SqT K H' a xs := by
  rcases h with (h | ⟨o, h⟩) | h
  · exact .inl (.inl (ext_at e h))
  · exact .inl (.inr ⟨o, ext_at e h⟩)
  · exact .inr h
/-- ["text", "text"] == ["text", "text"] -/
theorem eq_data {K : PySem.W.Frag} {H : Hp} {a b : Addr} {d e : PyData} {Q : VK} (h1 : Dp K H (.ref a) d) (h2 : Dp K H (.ref b) e) (s1 : SeqAt.shaped d = true) (s2 : SeqAt.shaped e = true) (q : Q (.bl (PyData.eqv d e)) H) : rEqD K (.ref a) (.ref b) H Q :=
  ⟨d, e, h1, h2, s1, s2, q⟩
end Kx
namespace Kx
open PySem PySem.Spec PyProof.Rows L2 SX LamX
theorem reachA_add : ∀ (r : List (List Nat)) (p : Nat), reachA p r = p + reachA 0 r
  | [], p => rfl
  | y :: r, p => by
    show reachA (p + y.length + 1) r = p + reachA (0 + y.length + 1) r
    rw [reachA_add r, reachA_add r (0 + y.length + 1)]
    omega
theorem sum_texts : ∀ xs : List (List Nat), ((xs.map S).map (·.length)).sum + xs.length = reachA 0 xs
  | [] => rfl
  | x :: r => by
    have e : reachA 0 (x :: r) = x.length + 1 + reachA 0 r := by
      show reachA (0 + x.length + 1) r = _
      rw [reachA_add]
      omega
    rw [e, ← sum_texts r]
    simp only [List.map_cons, List.sum_cons, List.length_cons, S_len]
    omega
end Kx
namespace Kx
open PySem PySem.Spec PyProof.Rows L2 SX LamX
theorem S_inj {a b : Str} (h : a.cps.toList = b.cps.toList) : a = b := by
  cases a with
  | mk a =>
    cases b with
    | mk b =>
      have : a = b := Array.toList_inj.mp h
      rw [this]
theorem fold_arr (a : Array Nat) : ∀ (n : Nat) (acc : Array Nat), ((List.replicate n a).foldl (· ++ ·) acc).toList = acc.toList ++ (List.replicate n a.toList).flatten
  | 0, acc => by simp
  | n + 1, acc => by
    rw [List.replicate_succ, List.foldl_cons, fold_arr a n, List.replicate_succ, List.flatten_cons, Array.toList_append, List.append_assoc]
theorem mul_S (l : List Nat) (n : Nat) : Txt.mul (S l) n = S ((List.replicate n l).flatten) := by
  refine S_inj ?_
  have e0 : ∀ m : List Nat, (S m).cps.toList = m := fun m => by simp [S]
  rw [e0]
  unfold Txt.mul
  by_cases h1 : (n : Int) < 1
  · rw [if_pos h1]
    have : n = 0 := by omega
    subst this
    rfl
  · rw [if_neg h1]
    by_cases h2 : ((n : Int) == 1 || (S l).length == 0) = true
    · rw [if_pos h2, e0]
      simp only [Bool.or_eq_true, beq_iff_eq] at h2
      rcases h2 with h2 | h2
      · have : n = 1 := by omega
        subst this
        simp
      · rw [S_len] at h2
        cases l with
        | nil => simp
        | cons _ _ => simp at h2
    · rw [if_neg h2]
      show ((List.replicate (n : Int).toNat (S l).cps).foldl (· ++ ·) #[]).toList = _
      rw [fold_arr, Int.toNat_natCast, e0]
      simp
section
variable {X : Cx}
/-- a text times an int -/
def rRepS : R2 := fun x y H Q => ∃ (l : List Nat) (n : Nat), x = .str (S l) ∧ y = .int n ∧ l.length ≤ 16 ∧ n ≤ 1048576 ∧ Q (.str (S ((List.replicate n l).flatten))) H
theorem op_repS : OpR X (binaryOp .Mult) rRepS := by
  intro pins s σ H x y v u Q I rx ry h
  obtain ⟨l, n, rfl, rfl, h1, h2, q⟩ := h
  obtain ⟨t, rfl⟩ := rx
  obtain ⟨t', rfl⟩ := ry
  refine PySem.W.KXi.mul (n := l.length) (S_len l) h1 (by omega) (by omega) (fun t2 tk _ _ => ⟨.str _, H, I.tok _, ⟨_, rfl⟩, ?_⟩)
  rw [mul_S]
  exact q
end
end Kx
namespace Kx
open PySem PySem.Spec PyProof.Rows L2 SX LamX
section
variable {X : Cx}
/-- a list of whatever values == [] -/
def rEqE : R2 := fun x y H Q => ∃ (a b : Addr) (xs : List V), x = .ref a ∧ y = .ref b ∧ H a = some (.lst xs) ∧ H b = some (.lst []) ∧ Q (.bl xs.isEmpty) H
theorem op_eqE (hu : X.A.units + 64 < cLine) : OpR X (compareOp .Eq) rEqE := by
  intro pins s σ H x y v u Q I rx ry h
  obtain ⟨a, b, xs, rfl, rfl, ha, hb, q⟩ := h
  cases rx
  cases ry
  obtain ⟨z, its, n, r, hl, e⟩ := I.lstM ha
  obtain ⟨z2, its2, n2, r2, hl2, e2⟩ := I.lstM hb
  have l2 : its2 = [] := by
    cases its2 with
    | nil => rfl
    | cons _ _ => simp at hl2
  subst l2
  cases xs with
  | nil =>
    have l1 : its = [] := by
      cases its with
      | nil => rfl
      | cons _ _ => simp at hl
    subst l1
    exact P.eq_list (e := fun _ => true) e e2 rfl (fun j h1 _ => absurd h1 (Nat.not_lt_zero j)) (by omega) ⟨.bl true, H, I, rfl, q⟩
  | cons x r' =>
    exact P.eq_list_lengths e e2 (by
      simp only [List.size_toArray, List.length_nil]
      rw [← hl]
      simp) (by omega) ⟨.bl false, H, I, rfl, q⟩
end
end Kx
namespace Kx
open PySem PySem.Spec PyProof.Rows L2 SX LamX
section
variable {K : PySem.W.Frag} {a : Addr} {xs : List V} {g : TG} {tt : TT} {te : TE} {vs : List Nat} {σ : L2.St} {H : Hp} {k : Nat} {Q : VK}
/-- [e for x in NAME if t], NAME a tuple -/
theorem lc_tupk (zs : List (Option V)) (hz : zs.length = xs.length) (hi : σ[k]? = some (some (.ref a))) (hq : SqT K H a xs) (len : xs.length ≤ 1000000)
    (turn : ∀ (i : Nat) (x : V) (z : Option V) (Hc : Hp) (Q' : VK) (R' : Hp → Prop), xs[i]? = some x → zs[i]? = some z → Same H Hc → (∀ v H4, z = some v → Same Hc H4 → Q' v H4) → (∀ H4, z = none → Same Hc H4 → R' H4) → g x (wipe σ vs) Hc fun σ2 H2 => wipe σ2 vs = wipe σ vs ∧ tt σ2 H2 fun b H3 => if b = true then te σ2 H3 Q' else R' H3)
    (fin : ∀ (D : Addr) (Hc : Hp), Same H Hc → Hc D = some (.lst (zs.filterMap id)) → Q (.ref D) Hc) :
    tLc (iTup K (tVar k)) g tt te vs σ H Q := ⟨_, hi, a, rfl, ⟨_, hq⟩, fun D nD => lc_keep walk_tup zs hz nD len (fun Hc e => Same.t e hq) (fun i x z Hc Hx Q' R' _ hzi e y q r => by
      obtain ⟨rfl, hx⟩ := y
      exact turn i x z _ Q' R' hx hzi e q r) (fin D)⟩
theorem lc_or {I J : TI} (h : tLc I g tt te vs σ H Q ∨ tLc J g tt te vs σ H Q) : tLc (fun σ H R => I σ H R ∨ J σ H R) g tt te vs σ H Q := h
/-- .. a list or a tuple -/
theorem lc_seqk (zs : List (Option V)) (hz : zs.length = xs.length) (hi : σ[k]? = some (some (.ref a))) (hq : SqQ K H a xs) (len : xs.length ≤ 1000000)
    (turn : ∀ (i : Nat) (x : V) (z : Option V) (Hc : Hp) (Q' : VK) (R' : Hp → Prop), xs[i]? = some x → zs[i]? = some z → Same H Hc → (∀ v H4, z = some v → Same Hc H4 → Q' v H4) → (∀ H4, z = none → Same Hc H4 → R' H4) → g x (wipe σ vs) Hc fun σ2 H2 => wipe σ2 vs = wipe σ vs ∧ tt σ2 H2 fun b H3 => if b = true then te σ2 H3 Q' else R' H3)
    (fin : ∀ (D : Addr) (Hc : Hp), Same H Hc → Hc D = some (.lst (zs.filterMap id)) → Q (.ref D) Hc) :
    tLc (fun σ H R => iList K (tVar k) σ H R ∨ iTup K (tVar k) σ H R) g tt te vs σ H Q :=
  lc_or (hq.imp (fun h => lc_lstk zs hz hi h len turn fin) (fun h => lc_tupk zs hz hi h len turn fin))
end
theorem filt_none {α : Type} (p : α → Bool) : ∀ (l : List α), ((l.map fun x => if p x = true then some x else none).filterMap id).isEmpty = l.all fun x => !p x
  | [] => rfl
  | x :: r => by
    cases h : p x with
    | true =>
      simp only [List.map_cons, h, if_true, List.filterMap_cons, id, List.all_cons, Bool.not_true, Bool.false_and]
      rfl
    | false =>
      have := filt_none p r
      simp only [List.map_cons, h, Bool.false_eq_true, if_false, List.filterMap_cons, id, List.all_cons, Bool.not_false, Bool.true_and]
      exact this
theorem core_same {a : Addr} {H H' : Hp} (e : Same (core a H) H') (h : ∀ b o, core a H b = some o → b ≠ a) : Same (core a H) (core a H') := fun b o k => core_at (e b o k) (h b o k) (of_core k).2.2
theorem core_core {a : Addr} {H0 H : Hp} (e : Same (core a H0) H) : Same (core a H0) (core a H) := fun b o k => core_at (e b o k) (of_core k).1 (of_core k).2.2
theorem go_par {i j : Nat} {t : TA} {D : Ends} {σ : L2.St} {H : Hp} (h : tPar i j t D σ H) : tPar i j t D σ H := h
end Kx
namespace Kx
open PySem PySem.Spec PyProof.Rows L2 SX LamX
section
variable {K : PySem.W.Frag} {σ : L2.St} {H : Hp} {ta tb : TE} {k m : Nat}
/-- repr(x) != repr(y), of one and the same data -/
theorem nerepr_t (d : PyData) (hd : Sh k m d) (hk : k ≤ 60) (hm : m ≤ 1048576) {Q : Bool → Hp → Prop}
    (ha : ∀ Q : VK, (∀ a H', Same H H' → Dp K H' (.ref a) d → Q (.ref a) H') → ta σ H Q)
    (hb : ∀ H0, Same H H0 → ∀ Q : VK, (∀ b H', Same H0 H' → Dp K H' (.ref b) d → Q (.ref b) H') → tb σ H0 Q)
    (h : ∀ H', Same H H' → Q false H') : tTest (tOp rNe (tCB (rRepr K) (tCons ta tNil)) (tCB (rRepr K) (tCons tb tNil))) σ H Q := by
  refine go_test (go_op (go_cb (go_cons (ha _ fun a H1 e1 h1 => go_nil (go_repr h1 hd hk hm (go_cb (go_cons (hb H1 e1 _ fun b H2 e2 h2 => go_nil (go_repr h2 hd hk hm ⟨rfl, false, ?_, h H2 (e1.trans e2)⟩)))))))))
  rw [ne_self]
theorem nerepr_if (d : PyData) (hd : Sh k m d) (hk : k ≤ 60) (hm : m ≤ 1048576) {D : Ends} {t u : TS}
    (ha : ∀ Q : VK, (∀ a H', Same H H' → Dp K H' (.ref a) d → Q (.ref a) H') → ta σ H Q)
    (hb : ∀ H0, Same H H0 → ∀ Q : VK, (∀ b H', Same H0 H' → Dp K H' (.ref b) d → Q (.ref b) H') → tb σ H0 Q)
    (h : ∀ H', Same H H' → u D σ H') : tIfS (tTest (tOp rNe (tCB (rRepr K) (tCons ta tNil)) (tCB (rRepr K) (tCons tb tNil)))) t u D σ H :=
  go_if (nerepr_t d hd hk hm ha hb fun H' e => iteF (A := _) (h H' e))
end
theorem sh_bb (b c : Bool) : Sh 1 2 (.list [.bool b, .bool c]) := (shA_bools (k := 0) [b, c]).lst
theorem dp_bc {K : PySem.W.Frag} {H : Hp} {p : Addr} {b c : Bool} (h : H p = some (.lst [.bl b, .bl c])) : Dp K H (.ref p) (.list [.bool b, .bool c]) := .lst (.inl (.inl h)) (.cons (.bl b) (.cons (.bl c) .nil))
end Kx
namespace Kx
open PySem PySem.Spec PyProof.Rows L2 SX LamX
theorem go_c {v : V} {σ : L2.St} {H : Hp} {Q : VK} (h : Q v H) : tC v σ H Q := h
theorem core_sub {a : Addr} {H : Hp} : Same (core a H) H := fun b o h => (of_core h).2.1
theorem core_mvO {a : Addr} {H0 H H' : Hp} (e : Same (core a H0) H) (m : Mv a H H') : Same (core a H0) H' := fun b o h => m b o (of_core h).1 (e b o h)
theorem sz5 : 5 ≤ sizeLine := by decide
theorem rep_flat (n x : Nat) : (List.replicate n [x]).flatten = List.replicate n x := by
  induction n with
  | zero => rfl
  | succ j ih => rw [List.replicate_succ, List.flatten_cons, ih, List.replicate_succ]; rfl
theorem rep_len (n : Nat) (l : List Nat) : ((List.replicate n l).flatten).length = n * l.length := by
  induction n with
  | zero => simp
  | succ j ih => rw [List.replicate_succ, List.flatten_cons, List.length_append, ih, Nat.succ_mul, Nat.add_comm]
theorem rep_mem {n : Nat} {l : List Nat} {i : Nat} (h : i ∈ (List.replicate n l).flatten) : i ∈ l := by
  obtain ⟨m, hm, hi⟩ := List.mem_flatten.mp h
  rw [List.eq_of_mem_replicate hm] at hi
  exact hi
end Kx
namespace Kx
open PySem PySem.Spec PyProof.Rows L2 SX LamX
section
variable {M : Model} {prog : Program} {w : World} {A : Around} {E : Value → Shared → Prop} {s : Shared} {K : PySem.W.Frag} {x C f : Addr} {ox : Obj} {od : Option Obj} {y : Value}
theorem objNe (X : K.In s.heap) (I : PySem.W.InstAt s.heap x ox C od) (hu : A.units < cLine) (hs : PySem.W.findIn K (.ref C) "__eq__" = some (some (.ref f))) (hf : PySem.W.isFn K (.ref f) = true) {Q : Fin → Shared → Prop}
    (hcall : wpAny (model prog w) A (call (.ref f) [.ref x, y]) (fun v s' => ∃ b, v = .bool b ∧ Q (.done (.ret (.bool (!b)))) s') E s) : wpAny (model prog w) A (Builtin.«object.__ne__» ⟨[.ref x, y], []⟩) Q E s := by
  unfold Builtin.«object.__ne__»
  repeat (first
    | with_reducible refine wpAny_cRoomFor hu ?_
    | (refine wpAny_bind (m := callSpecialIfBound? (.ref x) (Str.ofString "__eq__") [y])
        (PySem.W.ifBound_K X I hs hf (wpAny_mono hcall (fun r s' hr => by
          obtain ⟨b, rfl, hq⟩ := hr
          repeat (first | exact hq | exact wpAny_pure hq | exact wpAny_truthy_bool hq | (refine wpAny_bind (m := truthy (.bool _)) (wpAny_truthy_bool ?_)) | wp_step)) fun _ _ e => e)))
    | wp_step)
theorem call_ne {Q : Value → Shared → Prop} (X : K.In s.heap) (I : PySem.W.InstAt s.heap x ox C od) (hu : A.in1.units < cLine) (hm : PySem.W.mroIn K C (.type "object") = some true) (hs : PySem.W.findIn K (.ref C) "__eq__" = some (some (.ref f))) (hf : PySem.W.isFn K (.ref f) = true)
    (hcall : wpAny (model prog w) A.in1 (call (.ref f) [.ref x, y]) (fun v s' => ∃ b, v = .bool b ∧ Q (.bool (!b)) s') E s) : wpAny (model prog w) A (call (.builtin "object.__ne__") [.ref x, y]) Q E s :=
  wpAny_call (codeAny_call_builtin F.cmp_object.ne.plain F.cmpEntry_ne (PySem.W.check_slot F.cmpKind_ne F.cmpSplit_ne (I.type.andThen (PySem.W.looks_mroIn X hm)) (F.cmpArgs_ne _ _) (objNe X I hu hs hf hcall)))
theorem ifBound_objNe {args : List Value} {Q : Option Value → Shared → Prop} (X : K.In s.heap) (I : PySem.W.InstAt s.heap x ox C od) (hs : PySem.W.findIn K (.ref C) "__ne__" = some (some (.builtin "object.__ne__")))
    (h : wpAny M A (call (.builtin "object.__ne__") (.ref x :: args)) (fun v => Q (some v)) E s) : wpAny M A (callSpecialIfBound? (.ref x) "__ne__" args) Q E s := by
  simp only [callSpecialIfBound?, bindSpecialIfBound?]
  refine wpAny_holding (wpAny_bind (wpAny_bind (wpAny_bind (I.type.here ((PySem.W.looks_findIn X hs).here ?_)))))
  refine wpAny_bind (wpAny_askSetting (wpAny_ite ?_))
  have fin : wpAny M A (call (.builtin "object.__ne__") ([.ref x] ++ args) >>= fun v => pure (some v)) Q E s := wpAny_bind (wpAny_mono h (fun v s' h' => wpAny_pure h') fun _ _ h' => h')
  split
  · exact wpAny_bind (wpAny_of_eq (F.cmp_object.ne.bind _) (wpAny_pure (by exact fin)))
  · exact wpAny_tryCatch (wpAny_bind (wpAny_of_eq (F.cmp_object.ne.bind _) (wpAny_pure (by exact fin))))
/-- x != y, x an instance with an == of its own, no != -/
theorem rich_ne {Q : Value → Shared → Prop} {tb : Value} (hu : A.in1.units < cLine) (X : K.In s.heap) (I : PySem.W.InstAt s.heap x ox C od) (hb : PySem.W.Looks (model prog w) s.heap (typeOf y) tb) (hn : PySem.W.notFirst K C tb = true) (hm : PySem.W.mroIn K C (.type "object") = some true)
    (hs : PySem.W.findIn K (.ref C) "__eq__" = some (some (.ref f))) (hf : PySem.W.isFn K (.ref f) = true) (hne : PySem.W.findIn K (.ref C) "__ne__" = some (some (.builtin "object.__ne__")))
    (h : wpAny (model prog w) A.in1 (call (.ref f) [.ref x, y]) (fun v s' => ∃ b, v = .bool b ∧ Q (.bool (!b)) s') E s) : wpAny (model prog w) A (richCompare .NotEq (.ref x) y) Q E s := by
  have one : wpAny (model prog w) A (tryCompare (.ref x) "__ne__" y) (fun r s' => ∃ v, r = some v ∧ Q v s') E s := by
    unfold tryCompare
    refine wpAny_bind (ifBound_objNe X I hne (call_ne X I hu hm hs hf (wpAny_mono h (fun v s' hv => ?_) fun _ _ e => e)))
    obtain ⟨b, rfl, hq⟩ := hv
    exact ⟨b, rfl, wpAny_pure ⟨_, rfl, hq⟩⟩
  have hu0 : A.units < cLine := Nat.lt_of_succ_lt (show A.units + 1 < cLine from hu)
  unfold richCompare
  simp only [oneThing_ref]
  refine wpAny_holding (wpAny_bind (wpAny_cRoomFor hu0 ?_))
  rw [cmpInfo_NotEq]
  dsimp only
  refine wpAny_bind (I.type.here (wpAny_bind (hb.here ?_)))
  split
  · rename_i q
    have e : PySem.W.subIn K tb (.ref C) = some false := by
      rcases Bool.or_eq_true_iff.mp hn with e | e
      · rw [beq_iff_eq.mp e] at q; simp at q
      · exact beq_iff_eq.mp e
    refine wpAny_bind ((PySem.W.looks_subIn X e).here ?_)
    simp only [Bool.false_eq_true, if_false]
    refine wpAny_bind (wpAny_mono one (fun r s' z => ?_) fun _ _ e => e)
    obtain ⟨v, rfl, hq⟩ := z
    exact wpAny_pure hq
  · refine wpAny_bind (wpAny_pure ?_)
    simp only [Bool.false_eq_true, if_false]
    refine wpAny_bind (wpAny_mono one (fun r s' z => ?_) fun _ _ e => e)
    obtain ⟨v, rfl, hq⟩ := z
    exact wpAny_pure hq
theorem sub_list : PySem.W.subIn K (.type "list") (.ref C) = some false := by
  have e : fastBuiltinMro "list" = some [.type "list", .type "object"] := by decide +kernel
  show (fastBuiltinMro "list").map (·.contains (.ref C)) = some false
  rw [e]
  first
    | rfl
    | simp
theorem sub_tuple : PySem.W.subIn K (.type "tuple") (.ref C) = some false := by
  have e : fastBuiltinMro "tuple" = some [.type "tuple", .type "object"] := by decide +kernel
  show (fastBuiltinMro "tuple").map (·.contains (.ref C)) = some false
  rw [e]
  first
    | rfl
    | simp
end
end Kx
namespace Kx
open PySem PySem.Spec PyProof.Rows L2 SX LamX
section
variable {X : Cx} {pins : List (Addr × Obj)} {σ : L2.St} {H : Hp} {s : Shared}
/-- what stands at the other side of an own ==: an instance of the class, a list, a tuple -/
def OthV (K : PySem.W.Frag) (C : Addr) (H : Hp) (y : V) : Prop := ∃ b, y = .ref b ∧ ((∃ dx fs, H b = some (.ins C dx fs)) ∨ ∃ xs, SqQ K H b xs)
theorem oth_looks {C : Addr} {y : V} {u : Value} (I : Inv X pins σ H s) (ry : RelV y u) (h : OthV X.K C H y) : ∃ b tb, y = .ref b ∧ u = .ref b ∧ (∀ M, PySem.W.Looks M s.heap (typeOf u) tb) ∧ PySem.W.notFirst X.K C tb = true := by
  obtain ⟨b, rfl, h⟩ := h
  obtain rfl : u = Value.ref b := ry
  rcases h with ⟨dx, fs, h⟩ | ⟨xs, h | h⟩
  · obtain ⟨mA, J, _⟩ := ins_get I.hok h
    obtain ⟨od, J, _⟩ := J.look
    exact ⟨b, _, rfl, rfl, fun M => J.type, by simp [PySem.W.notFirst]⟩
  · obtain ⟨us, r1, p1, _⟩ := I.list h
    obtain ⟨o, n, e, c1, c2, d⟩ := p1
    have c : o.cls = .type "list" := by first | exact c1 | exact c2
    refine ⟨b, .type "list", rfl, rfl, fun M => c ▸ (PySem.W.Looks.ld e).andThen .now, ?_⟩
    unfold PySem.W.notFirst
    rw [sub_list]
    rfl
  · obtain ⟨us, r1, ⟨o, e, c, _⟩, _⟩ := I.tuple h
    refine ⟨b, .type "tuple", rfl, rfl, fun M => c ▸ (PySem.W.Looks.ld e).andThen .now, ?_⟩
    unfold PySem.W.notFirst
    rw [sub_tuple]
    rfl
end
end Kx
namespace Kx
open PySem PySem.Spec PyProof.Rows L2 SX LamX
section
variable {X : Cx}
/-- x == y by the class's own ==: what it promises, a truth -/
def rEqI (K : PySem.W.Frag) (C : Addr) (sp : Sp) : R2 := fun x y H Q => ∃ a dx fs, x = .ref a ∧ H a = some (.ins C dx fs) ∧ OthV K C H y ∧ sp [x, y] H (fun v H' => ∃ b, v = .bl b ∧ Q (.bl b) H') C8.E0
def rNeI (K : PySem.W.Frag) (C : Addr) (sp : Sp) : R2 := fun x y H Q => ∃ a dx fs, x = .ref a ∧ H a = some (.ins C dx fs) ∧ OthV K C H y ∧ sp [x, y] H (fun v H' => ∃ b, v = .bl b ∧ Q (.bl (!b)) H') C8.E0
theorem own_run {f : Addr} {fd : FuncData} {ps : List Str} {n : Nat} {sp : Sp} {A : Around} {pins : List (Addr × Obj)} {σ : L2.St} {H : Hp} {s : Shared} {a b : Addr} {Q : VK} {R : Value → Shared → Prop} {xe : Value → Shared → Prop}
    (F : FnOk X.prog X.w X.K X.mg X.base C8.CX0 n f fd ps sp) (hb : Binds X.K fd ps []) (hr : Room n A) (hf : A.frames = X.A.frames) (I : Inv X pins σ H s) (h : sp [.ref a, .ref b] H Q C8.E0)
    (back : ∀ u s', EP X pins σ Q u s' → R u s') : wpAny (model X.prog X.w) A (call (.ref f) [.ref a, .ref b]) R xe s := by
  have e0 : Env0 X.prog X.w X.K X.mg X.base A X.stack s H := by
    have e := I.env0
    exact ⟨by rw [hf]; exact e.frames, e.mod, e.bs, e.bsz, e.funs, e.frf, e.hok, e.bare⟩
  have hl := F.len _ _ _ _ h
  have r2 : Vals [V.ref a, V.ref b] [Value.ref a, Value.ref b] := .cons rfl (.cons rfl .nil)
  refine wpAny_call (codeAny_mono (F.run A X.stack s H ⟨[.ref a, .ref b], []⟩ [.ref a, .ref b] [.ref a, .ref b] _ C8.E0 hr e0 (by
    have := hb s [.ref a, .ref b] I.kIn (by simpa using hl)
    simpa using this) r2 h) fun r s' hq => ?_)
  match r, hq with
  | .error e, hq => exact (show False from hq).elim
  | .ok (.ret w), hq => exact back w s' (I.after hq)
  | .ok .next, hq => exact False.elim hq
  | .ok .brk, hq => exact False.elim hq
  | .ok .cont, hq => exact False.elim hq
theorem op_eqI {C f : Addr} {fd : FuncData} {ps : List Str} {n : Nat} {sp : Sp} (F : FnOk X.prog X.w X.K X.mg X.base C8.CX0 n f fd ps sp) (hb : Binds X.K fd ps []) (hr : Room n X.A)
    (hs : PySem.W.findIn X.K (.ref C) "__eq__" = some (some (.ref f))) (hf : PySem.W.isFn X.K (.ref f) = true) : OpR X (compareOp .Eq) (rEqI X.K C sp) := by
  intro pins s σ H x y v u Q I rx ry hq
  obtain ⟨a, dx, fs, rfl, ha, oth, h⟩ := hq
  cases rx
  obtain ⟨mA, J, _⟩ := ins_get I.hok ha
  obtain ⟨od, J, _⟩ := J.look
  obtain ⟨b, tb, rfl, rfl, lk, nf⟩ := oth_looks I ry oth
  obtain ⟨m, hF⟩ := I.fr
  show wpAny (model X.prog X.w) X.A (richCompare .Eq (.ref a) (.ref b)) _ _ s
  refine PySem.W.cmp_K (op := .Eq) (tb := tb) hr.units0 hF I.ok.mod.kin J (lk _) nf hs hf (own_run F hb hr rfl I h fun u s' ep => ?_)
  obtain ⟨z, H', I', rz, c, rfl, q⟩ := ep
  cases rz
  exact ⟨.bl c, H', I', rfl, q⟩
theorem op_neI {C f : Addr} {fd : FuncData} {ps : List Str} {n : Nat} {sp : Sp} (F : FnOk X.prog X.w X.K X.mg X.base C8.CX0 n f fd ps sp) (hb : Binds X.K fd ps []) (hr : Room (n + 1) X.A)
    (hs : PySem.W.findIn X.K (.ref C) "__eq__" = some (some (.ref f))) (hf : PySem.W.isFn X.K (.ref f) = true) (hm : PySem.W.mroIn X.K C (.type "object") = some true) (hne : PySem.W.findIn X.K (.ref C) "__ne__" = some (some (.builtin "object.__ne__"))) :
    OpR X (compareOp .NotEq) (rNeI X.K C sp) := by
  intro pins s σ H x y v u Q I rx ry hq
  obtain ⟨a, dx, fs, rfl, ha, oth, h⟩ := hq
  cases rx
  obtain ⟨mA, J, _⟩ := ins_get I.hok ha
  obtain ⟨od, J, _⟩ := J.look
  obtain ⟨b, tb, rfl, rfl, lk, nf⟩ := oth_looks I ry oth
  show wpAny (model X.prog X.w) X.A (richCompare .NotEq (.ref a) (.ref b)) _ _ s
  refine rich_ne hr.in1.units0 I.kIn J (lk _) nf hm hs hf hne (own_run F hb hr.in1 rfl I h fun u s' ep => ?_)
  obtain ⟨z, H', I', rz, c, rfl, q⟩ := ep
  cases rz
  exact ⟨c, rfl, .bl (!c), H', I', rfl, q⟩
end
end Kx
namespace Kx
open PySem PySem.Spec PyProof.Rows L2 SX LamX
/-! ### texts, each once -/
def onceStep (σ : List Str) (x : Str) : List Str := if σ.any (· == x) = true then σ else σ ++ [x]
def onceS (xs : List Str) : List Str := xs.foldl onceStep []
theorem once_any (σ : List Str) (v k : Str) : (onceStep σ v).any (· == k) = (σ.any (· == k) || decide (k = v)) := by
  unfold onceStep
  by_cases h : σ.any (· == v) = true
  · rw [if_pos h]
    by_cases e : k = v
    · rw [e, h]; simp
    · simp [e]
  · rw [if_neg h, List.any_append]
    by_cases e : k = v
    · rw [e]; simp
    · have hb : (v == k) = false := by simpa [beq_iff_eq] using (fun h' : v = k => e h'.symm)
      simp [hb, e]
theorem once_len (σ : List Str) (v : Str) : (onceStep σ v).length = if σ.any (· == v) = true then σ.length else σ.length + 1 := by
  unfold onceStep
  split <;> simp
theorem once_fold : ∀ (xs σ : List Str), (xs.foldl onceStep σ).length ≤ σ.length + xs.length
  | [], σ => Nat.le_refl _
  | x :: r, σ => by
    have h := once_fold r (onceStep σ x)
    have h2 := once_len σ x
    rw [List.foldl_cons, List.length_cons]
    split at h2 <;> omega
theorem onceS_le (xs : List Str) : (onceS xs).length ≤ xs.length := by
  have h := once_fold xs []
  simpa [onceS] using h
theorem onceS_take {xs : List Str} {i : Nat} {x : Str} (h : xs[i]? = some x) : onceS (xs.take (i + 1)) = onceStep (onceS (xs.take i)) x := by
  unfold onceS
  rw [List.take_add_one, h, List.foldl_append]
  rfl
section
variable {prog : Program} {w : World} {A : Around} {R : Result → Shared → Prop} {I : Addr} {fp wr : List Addr} {G : Array GenState → Array GenState → Prop} {n : Nat} {P : Nat → Value → Prop} {St : Nat → Shared → Prop}
def txSet (prog : Program) (w : World) (h : Heap) (S : Addr) (l : List Str) : Prop := h.SetOf (PySem.strKind prog w) S (fun k => l.any (· == k)) l.length
theorem txSet_at {h h' : Heap} {S : Addr} {l : List Str} (t : txSet prog w h S l) (k : ∀ o, h.get? S = some o → h'.get? S = some o) : txSet prog w h' S l := by
  obtain ⟨o, es, ep, tb, ho, rest⟩ := t
  exact ⟨o, es, ep, tb, k o ho, rest⟩
/-- set.update over texts, whatever walks over them -/
theorem upd_texts (W : WalksS prog w A.in1 I fp wr G n P St) (S : Addr) (hSf : S ∉ fp) (xs : List Str) (hn : n = xs.length) (hval : ∀ i v, P i v → ∃ x t, xs[i]? = some x ∧ v = .str x t) (hb : n + 1 < scanBound) :
    ∀ (k i : Nat) (s : Shared), n - i = k → i ≤ n → St i s → txSet prog w s.heap S (onceS (xs.take i)) →
      (∀ s', Moved (S :: wr) G s s' → txSet prog w s'.heap S (onceS xs) → R (.ok (.ret .none)) s') → codeAny (model prog w) A (.builtin "set.update.loop" ⟨[.ref S, .ref I], []⟩) R s := by
  have out : S ∉ wr := fun h => hSf (W.sub _ h)
  have more : ∀ b ∈ wr, b ∈ S :: wr := fun b hb => List.mem_cons_of_mem _ hb
  intro k
  induction k with
  | zero =>
    intro i s hk hi hst hS hR
    obtain rfl : i = n := by omega
    refine codeAny_builtin PyProof.Rows.F.entry_set_update_loop ?_
    rw [Around.under_plainId PyProof.Rows.F.plain_set_update_loop _]
    show wpAny _ A.in1 (pyNext (.ref I) >>= _) _ _ s
    refine wpAny_bind (W.done s _ _ hst fun s' hm => ?_)
    show wpAny _ A.in1 (ret Value.none) _ _ s'
    rw [hn, List.take_length] at hS
    exact wpAny_pure (hR s' (hm.mono more) (txSet_at hS fun o e => hm.heap S o out e))
  | succ k ih =>
    intro i s hk hi hst hS hR
    have hlt : i < n := by omega
    refine codeAny_builtin PyProof.Rows.F.entry_set_update_loop ?_
    rw [Around.under_plainId PyProof.Rows.F.plain_set_update_loop _]
    show wpAny _ A.in1 (pyNext (.ref I) >>= _) _ _ s
    refine wpAny_bind (W.item i s _ _ hlt hst fun v s' hP hst' hm => ?_)
    obtain ⟨x, t, hx, rfl⟩ := hval i v hP
    have hS' := txSet_at hS fun o e => hm.heap S o out e
    show wpAny _ A.in1 (holding [Value.str x t] (setAdd S (.str x t)) >>= _) _ _ s'
    refine wpAny_bind (wpAny_holding ?_)
    unfold setAdd
    refine wpAny_holding (wpAny_bind ((PySem.strKind prog w).pyHash (k := x) (strKind_is _ _ _ _) ?_))
    have room : (onceS (xs.take i)).length + 1 < scanBound := by
      have h1 := onceS_le (xs.take i)
      rw [List.length_take] at h1
      omega
    refine wpAny_setAddHashed_of (knd := PySem.strKind prog w) (s := { s' with toks := s'.toks + 1 }) (strKind_is _ _ _ _) rfl hS' room fun h' same hS2 => ?_
    have hS3 : txSet prog w h' S (onceS (xs.take (i + 1))) := PyProof.Rows.SetOf_congr hS2 (fun k' => by rw [onceS_take hx, once_any]) (by rw [onceS_take hx, once_len])
    refine wpAny_pure ⟨plainId_quiet PyProof.Rows.F.plain_set_update_loop _, ih (i + 1) _ (by omega) hlt (W.frame _ s' _ _ hst' (Nat.le_succ _) fun b hb o e => ?_) hS3 fun s2 hm2 hS4 => ?_⟩
    · rw [same.2 b (fun h : b = S => hSf (by rw [← h]; exact hb))]
      exact e
    · refine hR s2 (Moved.trans W.gtrans ((hm.mono more).then_heap (Nat.le_succ _) fun b o hb e => ?_) hm2) hS4
      rw [same.2 b (fun h : b = S => hb (by rw [h]; exact List.mem_cons_self))]
      exact e
end
section
variable {prog : Program} {w : World} {A : Around} {E : Value → Shared → Prop} {s : Shared}
abbrev freshSet (led : Bool) : Obj := { cls := .type "set", dict := none, data := .set #[] 0 (.fresh 0 0 led) }
/-- what a set of these texts leaves -/
def MadeTx (prog : Program) (w : World) (s : Shared) (xs : List Str) (h' : Heap) : Prop := txSet prog w h' s.heap.objs.size (onceS xs) ∧ ∀ b o, s.heap.get? b = some o → h'.get? b = some o
/-- set(x): what its __init__ has to do -/
theorem set_made {x : Value} {xs : List Str} {Q : Value → Shared → Prop}
    (hin : ∀ (led : Bool) (A' : Around) (E' : Value → Shared → Prop) (Q' : Fin → Shared → Prop), A'.handled = A.handled → (∀ h' tk, MadeTx prog w s xs h' → Q' (.done (.ret .none)) { s with heap := h', toks := tk }) →
      wpAny (model prog w) A' (Builtin.«set.__init__» ⟨[.ref s.heap.objs.size, x], []⟩) Q' E' { s with heap := s.heap.push (freshSet led) })
    (h : ∀ (h' : Heap) (tk : Nat), MadeTx prog w s xs h' → Q (.ref s.heap.objs.size) { s with heap := h', toks := tk }) : wpAny (model prog w) A (call (.type "set") [x]) Q E s := by
  obtain ⟨c, tl, hmro⟩ := PySem.F.called_set.mro
  have hmade := PySem.F.called_set.made
  have hsub := PySem.F.called_set.sub
  refine wpAny_call (codeAny_of_tree ?_)
  show wpAny _ _ (callAny (.type "set") _) _ _ _
  refine wpAny_pure ⟨Code.quiet_builtin _ (by decide +kernel), codeAny_builtin PySem.F.entry_type_call ?_⟩
  rw [Around.under_plain (weight_type_call_type "set" [x] []) rfl]
  have h1 := PySem.F.called_set.notType
  have h2 := PySem.F.called_set.canCreate
  have hct := PySem.F.typeCall_set_1 x
  repeat (any_goals (first | assumption | wp_step))
  refine codeAny_mono (code_set_new_1 x (E := E) (Q₁ := fun obj s₁ => ∃ led : Bool, obj = .ref s.heap.objs.size ∧ s₁ = { s with heap := s.heap.push (freshSet led) }) fun led => ⟨led, rfl, rfl⟩) fun r s₁ hr => ?_
  match r, hr with
  | .error e, hr => exact hr
  | .ok .next, hr => exact hr.elim
  | .ok .brk, hr => exact hr.elim
  | .ok .cont, hr => exact hr.elim
  | .ok (.ret obj), hr =>
    obtain ⟨led, rfl, rfl⟩ := hr
    have hS : (s.heap.push (freshSet led)).get? s.heap.objs.size = some (freshSet led) := Heap.get?_push_size _ rfl
    have hT : Shared.TypeIs { s with heap := s.heap.push (freshSet led) } (.ref s.heap.objs.size) "set" := ⟨_, hS, rfl⟩
    have hli := PySem.F.called_set.init.lookup
    have hbi := PySem.F.called_set.init.bind (.ref s.heap.objs.size)
    repeat (any_goals (first | assumption | wp_step))
    refine codeAny_mono (codeAny_call_builtin (R := wants (fun r s₂ => r = .none ∧ ∃ h' tk, s₂ = { s with heap := h', toks := tk } ∧ MadeTx prog w s xs h') E) PySem.F.called_set.init.plain PySem.F.entry_set_init (check_set_init_1 hT ?_)) fun r₂ s₂ hr₂ => ?_
    · exact hin led _ _ _ rfl fun h' tk m => ⟨rfl, h', tk, rfl, m⟩
    · match r₂, hr₂ with
      | .error e, hr₂ => exact hr₂
      | .ok .next, hr₂ => exact hr₂.elim
      | .ok .brk, hr₂ => exact hr₂.elim
      | .ok .cont, hr₂ => exact hr₂.elim
      | .ok (.ret r), hr₂ =>
        obtain ⟨rfl, h', tk, rfl, m⟩ := hr₂
        repeat (any_goals (first | assumption | wp_step))
        exact h _ _ m
end
end Kx
namespace Kx
open PySem PySem.Spec PyProof.Rows L2 SX LamX
section
variable {prog : Program} {w : World} {A : Around} {E : Value → Shared → Prop} {s : Shared}
theorem strs_get : ∀ {us : List Value} {xs : List Str}, StrsAre us xs → ∀ (i : Nat) (v : Value), us[i]? = some v → ∃ x t, xs[i]? = some x ∧ v = .str x t
  | _, _, .nil, i, v, h => by simp at h
  | _, _, .cons y t hr, 0, v, h => by
    simp at h
    exact ⟨y, t, rfl, h.symm⟩
  | _, _, .cons y t hr, i + 1, v, h => by
    simp only [List.getElem?_cons_succ] at h
    exact strs_get hr i v h
theorem strs_len : ∀ {us : List Value} {xs : List Str}, StrsAre us xs → us.length = xs.length
  | _, _, .nil => rfl
  | _, _, .cons _ _ r => by rw [List.length_cons, List.length_cons, strs_len r]
/-- set(x), a list or a tuple of texts -/
theorem call_set_texts {l : Addr} {items : Array Value} {xs : List Str} {Q : Value → Shared → Prop} (hh : A.handled = none) (hl : s.heap.IsList l items ∨ s.heap.IsTuple l items) (hi : StrsAre items.toList xs) (hb : xs.length + 1 < scanBound)
    (h : ∀ (h' : Heap) (tk : Nat), MadeTx prog w s xs h' → Q (.ref s.heap.objs.size) { s with heap := h', toks := tk }) : wpAny (model prog w) A (call (.type "set") [.ref l]) Q E s := by
  refine set_made (xs := xs) (fun led A' E' Q' hA q => ?_) h
  have isz : items.size = xs.length := by rw [← strs_len hi, Array.length_toList]
  have hS : (s.heap.push (freshSet led)).get? s.heap.objs.size = some (freshSet led) := Heap.get?_push_size _ rfl
  have hlS : l < s.heap.objs.size := by
    rcases hl with ⟨o, ho, _⟩ | ⟨o, ho, _⟩ <;> exact Heap.lt_size ho
  have hneI : l ≠ (s.heap.push (freshSet led)).objs.size := by
    rw [Heap.size_push]
    exact Nat.ne_of_lt (Nat.lt_succ_of_lt hlS)
  have hSf : s.heap.objs.size ∉ [(s.heap.push (freshSet led)).objs.size, l] := by
    rw [Heap.size_push]
    simp only [List.mem_cons, List.not_mem_nil, or_false, not_or]
    exact ⟨Nat.ne_of_lt (Nat.lt_succ_self _), Nat.ne_of_gt hlS⟩
  have hval : ∀ (i : Nat) (v : Value), items[i]? = some v → ∃ x t, xs[i]? = some x ∧ v = .str x t := fun i v hv => strs_get hi i v (by rw [Array.getElem?_toList]; exact hv)
  have hh3 : A'.in1.handled = none := by simp [hA, hh]
  have done : ∀ (it : Obj) (s' : Shared), Moved (s.heap.objs.size :: [(s.heap.push (freshSet led)).objs.size]) (fun a b => b = a) { s with heap := (s.heap.push (freshSet led)).push it } s' → txSet prog w s'.heap s.heap.objs.size (onceS xs) →
      wpAny (model prog w) A' (ret Value.none) Q' E' s' := fun it s' hm hS' => by
    obtain ⟨h', g', d', tk', os'⟩ := s'
    have eg : g' = s.gens := hm.gens
    have ed : d' = s.drawn := hm.drawn
    have eo : os' = s.os := hm.os
    subst eg
    subst ed
    subst eo
    refine wpAny_pure (q h' tk' ⟨hS', fun b o e => ?_⟩)
    have hb0 : b < s.heap.objs.size := Heap.lt_size e
    have hb1 : b ≠ s.heap.objs.size := Nat.ne_of_lt hb0
    have hb2 : b ≠ (s.heap.push (freshSet led)).objs.size := by
      rw [Heap.size_push]
      exact Nat.ne_of_lt (Nat.lt_succ_of_lt hb0)
    exact hm.heap b o (by simp only [List.mem_cons, List.not_mem_nil, or_false, not_or]; exact ⟨hb1, hb2⟩) (Heap.get?_push_of_some _ (Heap.get?_push_of_some _ e))
  unfold Builtin.«set.__init__» noKeywords Builtin.Frozenset.updateFrom
  rcases hl with hl | hl
  · obtain ⟨ol, hol, hcl, nl, hdl⟩ := hl
    obtain ⟨ocls, odict, odata, oslots⟩ := ol
    simp only at hcl hdl
    subst hcl
    subst hdl
    have hol' : (s.heap.push (freshSet led)).get? l = some { cls := .type "list", dict := odict, data := .seq items nl, slots := oslots } := Heap.get?_push_of_some _ hol
    have hsls := PySem.F.sub_list_set
    have hslf := PySem.F.sub_list_frozenset
    have hne : (Value.type "list" == Value.type "dict") = false := by decide
    have hl1 : (s.heap.push (freshSet led)).IsList l items := ⟨_, hol', rfl, nl, rfl⟩
    generalize hPI : pyIter = PI
    wp_walk
    subst hPI
    refine wpAny_pyIter_list hl1 ?_
    refine wpAny_bind (wpAny_runValue ?_)
    refine upd_texts ((Walks.list hh3 _ l hneI items).toS) s.heap.objs.size hSf xs isz hval (by omega) (items.size - 0) 0 _ (by omega) (Nat.zero_le _) ⟨⟨_, Heap.get?_push_size _ rfl, rfl, rfl⟩, (hl1.push _)⟩ ?_ (fun s' hm hS' => ?_)
    · have hget : ((s.heap.push (freshSet led)).push { cls := .type "list_iterator", data := .fields #[.ref l, .int 0 0] }).get? s.heap.objs.size = some (freshSet led) := Heap.get?_push_of_some _ hS
      exact PyProof.Rows.SetOf_congr ((PyProof.Rows.setObjOf_fresh (knd := PySem.strKind prog w) led).setOf hget (by unfold scanBound; omega)) (fun _ => rfl) rfl
    · exact wpAny_pure (done _ s' hm hS')
  · obtain ⟨ol, hol, hcl, nl, hdl⟩ := hl
    obtain ⟨ocls, odict, odata, oslots⟩ := ol
    simp only at hcl hdl
    subst hcl
    subst hdl
    have hol' : (s.heap.push (freshSet led)).get? l = some { cls := .type "tuple", dict := odict, data := .seq items nl, slots := oslots } := Heap.get?_push_of_some _ hol
    have hsls := PySem.F.sub_tuple_set
    have hslf := PySem.F.sub_tuple_frozenset
    have hne : (Value.type "tuple" == Value.type "dict") = false := by decide
    have hl1 : (s.heap.push (freshSet led)).IsTuple l items := ⟨_, hol', rfl, nl, rfl⟩
    generalize hPI : pyIter = PI
    wp_walk
    subst hPI
    refine wpAny_pyIter_tuple hl1 ?_
    refine wpAny_bind (wpAny_runValue ?_)
    refine upd_texts ((Walks.tuple hh3 _ l hneI items).toS) s.heap.objs.size hSf xs isz hval (by omega) (items.size - 0) 0 _ (by omega) (Nat.zero_le _) ⟨⟨_, Heap.get?_push_size _ rfl, rfl, rfl⟩, (hl1.push _)⟩ ?_ (fun s' hm hS' => ?_)
    · have hget : ((s.heap.push (freshSet led)).push { cls := .type "tuple_iterator", data := .fields #[.ref l, .int 0 0] }).get? s.heap.objs.size = some (freshSet led) := Heap.get?_push_of_some _ hS
      exact PyProof.Rows.SetOf_congr ((PyProof.Rows.setObjOf_fresh (knd := PySem.strKind prog w) led).setOf hget (by unfold scanBound; omega)) (fun _ => rfl) rfl
    · exact wpAny_pure (done _ s' hm hS')
end
end Kx
namespace Kx
open PySem PySem.Spec PyProof.Rows L2 SX LamX
section
variable {X : Cx}
/-- len(set(e)), e a list or a tuple of texts -/
def tLenSetN (K : PySem.W.Frag) (ta : TE) : TE := fun σ H Q => ta σ H fun x H1 => ∃ (l : Addr) (xs : List Str), x = .ref l ∧ SqQ K H1 l (xs.map V.str) ∧ xs.length ≤ 4000 ∧ Q (.int ((onceS xs).length : Nat)) H1
theorem pe_lenSetN {a : Expr} {ta : TE} {p p2 q pos : Pos} (hg : Gl X "len") (hm : X.mg "len" = none) (hg2 : Gl X "set") (hm2 : X.mg "set" = none) (ha : PE X a ta) (hc : X.calm = true := by rfl)
    (na : starEach [a] X.env = (false, eval a X.env) :: starEach [] X.env := by rfl) : PE X (.Call (.Name "len" p) [.Call (.Name "set" p2) [a] [] q] [] pos) (tLenSetN X.K ta) := by
  refine ⟨fun pins s σ H Q I h => ?_⟩
  refine Call_ (ld_blt I hg hm boot_len ?_)
  refine PyProof.Rows.callWith_builtin1 (PyProof.Rows.args_cons ?_ rfl) rfl rfl
  refine Call_ (ld_blt I hg2 hm2 boot_set ?_)
  refine PyProof.Rows.callWith_type1 (PyProof.Rows.args_cons (thn (ha.run pins s σ H _ I h) fun v s1 ⟨x, H1, I1, r1, q1⟩ => PyProof.Rows.args_nil ?_) na) na rfl
  obtain ⟨l, xs, rfl, hq, h1, q1⟩ := q1
  cases r1
  have fin : ∀ (h' : Heap) (tk : Nat), MadeTx X.prog X.w s1 xs h' →
      wpAny (model X.prog X.w) X.A (spliced (backTo pos (starEach [] X.env))) (fun vs s₂ => wpAny (model X.prog X.w) X.A (call (.builtin "len") (Value.ref s1.heap.objs.size :: vs)) (EP X pins σ Q) X.xe s₂) X.xe { s1 with heap := h', toks := tk } := fun h' tk m => by
    refine PyProof.Rows.args_nil ?_
    obtain ⟨⟨o, es, ep, t, ho, hex, hd, _, _, _, hf, hn⟩, hk⟩ := m
    have I2 : Inv X pins σ H1 { s1 with heap := h', toks := tk } := I1.kept fun b o e => hk b o e
    have h2 := onceS_le xs
    exact call_len_set ho hex hd hf (by rw [hn] <;> omega) ⟨.int ((onceS xs).length : Nat), H1, I2.tok _, ⟨_, by rw [hn]⟩, q1⟩
  rcases hq with hq | hq
  · obtain ⟨its, r, pl, hz⟩ := I1.list hq
    exact call_set_texts (I1.ok.hd hc) (.inl pl.isList) (by simpa using strsAre_of r) (by unfold scanBound; omega) fin
  · obtain ⟨its, r, pl, hz⟩ := I1.tuple hq
    exact call_set_texts (I1.ok.hd hc) (.inr pl) (by simpa using strsAre_of r) (by unfold scanBound; omega) fin
end
theorem onceS_nodup : ∀ (xs : List Str), (onceS xs).length = xs.length ↔ xs.Nodup := by
  have key : ∀ (xs σ : List Str), σ.Nodup → ((xs.foldl onceStep σ).length = σ.length + xs.length ↔ (xs.Nodup ∧ ∀ x ∈ xs, x ∉ σ)) := by
    intro xs
    induction xs with
    | nil => intro σ _; simp
    | cons x r ih =>
      intro σ hσ
      rw [List.foldl_cons, List.length_cons]
      by_cases hx : σ.any (· == x) = true
      · have e : onceStep σ x = σ := by unfold onceStep; rw [if_pos hx]
        have hm : x ∈ σ := by
          obtain ⟨y, hy, e⟩ := List.any_eq_true.mp hx
          rw [← beq_iff_eq.mp e]
          exact hy
        rw [e]
        have := once_fold r σ
        constructor
        · intro h; omega
        · intro ⟨_, h⟩
          exact absurd hm (h x List.mem_cons_self)
      · have e : onceStep σ x = σ ++ [x] := by unfold onceStep; rw [if_neg hx]
        have hm : x ∉ σ := fun hm => hx (List.any_eq_true.mpr ⟨x, hm, by simp⟩)
        rw [e]
        have hn : (σ ++ [x]).Nodup := List.nodup_append.mpr ⟨hσ, by simp, fun a ha b hb => by
          rw [List.mem_singleton.mp hb]
          exact fun e => hm (e ▸ ha)⟩
        have h := ih (σ ++ [x]) hn
        rw [List.length_append, List.length_singleton] at h
        have e2 : σ.length + 1 + r.length = σ.length + (r.length + 1) := by omega
        rw [e2] at h
        rw [h, List.nodup_cons]
        constructor
        · rintro ⟨h1, h2⟩
          refine ⟨⟨fun hr => h2 x hr (List.mem_append_right _ (List.mem_singleton.mpr rfl)), h1⟩, fun y hy => ?_⟩
          rcases List.mem_cons.mp hy with rfl | hy
          · exact hm
          · exact fun z => h2 y hy (List.mem_append_left _ z)
        · rintro ⟨⟨h1, h2⟩, h3⟩
          refine ⟨h2, fun y hy z => ?_⟩
          rcases List.mem_append.mp z with z | z
          · exact h3 y (List.mem_cons_of_mem _ hy) z
          · rw [List.mem_singleton.mp z] at hy
            exact h1 hy
  intro xs
  have h := key xs [] List.nodup_nil
  simpa [onceS] using h
end Kx
namespace Kx
open PySem PySem.Spec PyProof.Rows L2 SX LamX
section
variable {X : Cx}
/-- tuple(list): the tuple is known to the object -/
theorem call_tuple_frz : CallR X (.type "tuple") (fun xs H Q => ∃ p ys, xs = [.ref p] ∧ ((SqL X.K H p ys ∧ ∀ l o, H l = none → o.dict = none → Q (.ref l) (upd H l (.frz o (.tup ys)))) ∨ (SqT X.K H p ys ∧ Q (.ref p) H))) := by
  intro pins s σ H xs us Q I r h
  obtain ⟨p, ys, rfl, h⟩ := h
  obtain ⟨u, rfl, rx⟩ := vals1 r
  cases rx
  rcases h with ⟨hq, q⟩ | ⟨hq, q⟩
  · obtain ⟨its, r', pl, hz⟩ := I.list hq
    have hlen := r'.length
    refine call_tuple_list pl.isList (fun h' kp => ?_) (by simp only [List.size_toArray] <;> omega)
    have I1 : Inv X pins σ H { s with heap := h' } := I.kept (t' := s.toks) kp
    have I2 : Inv X pins σ (upd H h'.objs.size (.frz { cls := .type "tuple", data := .seq its.toArray } (.tup ys))) { s with heap := h'.push { cls := .type "tuple", data := .seq its.toArray } } :=
      I1.laid (t' := s.toks) (fun b o e => Heap.get?_push_of_some _ e) (Nat.le_refl _) (show ObjOk X.prog X.w _ _ _ (.frz _ (.tup ys)) from ⟨Heap.get?_push_size _ rfl, hz, its, r', IsTup.new _ _⟩)
    exact ⟨.ref h'.objs.size, _, I2, rfl, q _ _ (I1.hok.fresh (Nat.le_refl _)) rfl⟩
  · obtain ⟨its, r', pl, hz⟩ := I.tuple hq
    exact call_tuple_same pl ⟨.ref p, H, I, rfl, q⟩
/-- a tuple that has no dict -/
def TupN (K : PySem.W.Frag) (H : Hp) (p : Addr) : Prop := (∃ o xs, H p = some (.frz o (.tup xs)) ∧ o.dict = none) ∨ ∃ o, K.lookup p = some o ∧ o.cls = .type "tuple" ∧ o.dict = none
theorem TupN.same {K : PySem.W.Frag} {H H' : Hp} {p : Addr} (e : Same H H') (h : TupN K H p) : TupN K H' p := by
  rcases h with ⟨o, xs, h1, h2⟩ | h
  · exact .inl ⟨o, xs, e _ _ h1, h2⟩
  · exact .inr h
theorem TupN.ext {K : PySem.W.Frag} {H H' : Hp} {p : Addr} (e : ExtN H H') (h : TupN K H p) : TupN K H' p := by
  rcases h with ⟨o, xs, h1, h2⟩ | h
  · exact .inl ⟨o, xs, ext_at e h1, h2⟩
  · exact .inr h
theorem tupN_ty {pins : List (Addr × Obj)} {σ : L2.St} {H : Hp} {s : Shared} {y : V} {v : Value} (I : Inv X pins σ H s) (r : RelV y v) (ty : ∃ p, y = .ref p ∧ TupN X.K H p) :
    s.TypeIs v "tuple" ∧ ∀ a, v = .ref a → ∃ ob, s.heap.get? a = some ob ∧ ob.dict = none := by
  obtain ⟨p, rfl, h⟩ := ty
  cases r
  have key : ∃ ob, s.heap.get? p = some ob ∧ ob.cls = .type "tuple" ∧ ob.dict = none := by
    rcases h with ⟨o, xs, e, d⟩ | ⟨o, e, c, d⟩
    · have h1 : ObjOk X.prog X.w H s.heap p (.frz o (.tup xs)) := I.hok p _ e
      obtain ⟨g, _, its, _, ⟨o2, g2, c2, _⟩⟩ := h1
      rw [g] at g2
      cases g2
      exact ⟨o, g, c2, d⟩
    · exact ⟨o, I.kIn _ _ e, c, d⟩
  obtain ⟨ob, g, c, d⟩ := key
  refine ⟨⟨ob, g, c⟩, fun b hb => ?_⟩
  cases hb
  exact ⟨ob, g, d⟩
def tTM (K : PySem.W.Frag) (r : V → List V → Hp → VK → Prop) (to : TE) (t : TA) : TE := fun σ H Q => to σ H fun x H1 => (∃ p, x = .ref p ∧ TupN K H1 p) ∧ t σ H1 fun xs H2 => r x xs H2 Q
variable {o e : Expr} {es : List Expr} {to : TE} {t : TA} {name : Str} {apos cpos : Pos} {id : String} {r : V → List V → Hp → VK → Prop}
/-- o.m(e, ..), o a tuple -/
theorem pe_tm (slot : Slot "tuple" name id) (hty : typeOf (.builtin id) = pure (.type "method_descriptor")) (hm : MtR X id r) (ho : PE X o to) (ha : PA X (e :: es) t)
    (hbase : attributeBase o name X.env (eval o X.env) = eval o X.env := by rfl)
    (hfew : ((backTo cpos (starEach (e :: es) X.env)).all (fun x => !x.1) && (backToKw cpos (keywordEach [] X.env)).all (fun x => x.1.isSome)
      && decide ((e :: es).length + ([] : List Keyword).length + (if ([] : List Keyword).isEmpty then 0 else 1) < 30)) = true := by rfl)
    (hline : (apos.endLine == cpos.line) = true := by rfl) (hs : starEach (e :: es) X.env = (false, eval e X.env) :: starEach es X.env := by rfl) (hplain : (backTo cpos (starEach es X.env)).any (·.1) = false := by rfl) :
    PE X (.Call (.Attribute o name apos) (e :: es) [] cpos) (tTM X.K r to t) := by
  refine ⟨fun pins s σ H Q I h => ?_⟩
  refine wpAny_Call_method_late hbase hfew hline rfl (thn (ho.run pins s σ H _ I h) fun v s1 ⟨x, H1, I1, r1, ty, q1⟩ => ?_)
  obtain ⟨h1, h2⟩ := tupN_ty I1 r1 ty
  refine ⟨"tuple", id, PySem.F.plainAttrs_tuple, slot, hty, h1, h2, ?_⟩
  have hA := ha.run cpos pins s1 σ H1 _ I1 q1
  rw [hs] at hA ⊢
  refine Calls.callWith_builtin (by show (false || (backTo cpos (starEach es X.env)).any (·.1)) = false; rw [hplain] <;> rfl) (Calls.evalArgs_plain ?_)
  exact thn hA fun us s2 ⟨vs, H2, I2, r2, q2⟩ => hm pins s2 σ H2 x vs v us Q I2 r1 r2 q2
end
section
variable {X : Cx} {CX : CXT} {k : Nat} {f C : Addr} {fd : FuncData} {ps ks : List Str} {sp : Sp} {E : XK} {o : Expr} {m : Str} {apos pos : Pos} {kws : List Keyword} {ta : TE} {tk : TA} {g : List Value → List Value → List Value} {gV : List V → List V → List V}
def tMethK (C : Addr) (m : Str) (sp : Sp) (gV : List V → List V → List V) (E : XK) (ta : TE) (tk : TA) : TE := fun σ H Q => ta σ H fun x H1 => ∃ a dx fs, x = .ref a ∧ H1 a = some (.ins C dx fs) ∧ fs.lookup m = none ∧ tk σ H1 fun zs H2 => sp (gV [x] zs) H2 Q E
/-- o.m(k = v) -/
theorem pe_methK0 {pl : Sem Bool} (he : PE X o ta) (c : Cls X.K C) (hm : Meth X.K C m f) (F : FnOk X.prog X.w X.K X.mg X.base CX k f fd ps sp) (hr : Room k X.A) (hb : KBinds X.K fd ps ks g gV) (hx : Passes CX X E) (hkw : PK X kws tk)
    (hall : (backToKw pos (keywordEach kws X.env)).all (·.1.isSome) = true := by rfl) (hks : (backToKw pos (keywordEach kws X.env)).filterMap (·.1) = ks := by rfl)
    (hpl : ((backTo pos (starEach [] X.env)).any (·.1) || (backToKw pos (keywordEach kws X.env)).any (·.1.isNone)) = false := by rfl)
    (ht : eval (.Call (.Attribute o m apos) [] kws pos) X.env = (do
      let ov ← eval o X.env
      standAt apos.atName
      let (f, first) ← holding [ov] (getMethod ov m pl)
      callWith pos f first (backTo pos (starEach [] X.env)) (backToKw pos (keywordEach kws X.env))) := by rfl) :
    PE X (.Call (.Attribute o m apos) [] kws pos) (tMethK C m sp gV E ta tk) := by
  refine ⟨fun pins s σ H Q I h => ?_⟩
  refine PySem.W.methodCall_KW (pl := pl) (thn (he.run pins s σ H _ I h) fun u s1 ⟨x, H1, I1, rx, a, dx, fs, ex, ea, l, q⟩ => ?_) ht
  subst ex
  obtain rfl : u = Value.ref a := rx
  refine getmeth_ok I1 ea c hm l ?_
  show wpAny _ _ (callWith pos (.ref f) [.ref a] (backTo pos (starEach [] X.env)) (backToKw pos (keywordEach kws X.env))) _ _ _
  refine PySem.W.callWith_KW0 (first := [.ref a]) (h₀ := X.base) I.ok.mod.kin hm.kp hall (thn (hkw.run pos pins s1 σ H1 _ I1 q) fun ws s2 ⟨zs, H2, I2, rz, q2⟩ => ⟨I2.kIn, ?_⟩) hpl
  rw [hks]
  exact run_fnk (us := [.ref a]) (vs := [.ref a]) F hr hb hx I2 (.cons rfl .nil) rz q2
end
/-- self, and one by name -/
def selfG {α : Type} (us ws : List α) : List α := match us, ws with | [s], [u] => [s, u] | _, _ => []
theorem kb_self {K : PySem.W.Frag} {x qual : Str} {st : Stmt} {f : Addr} {fd : FuncData} {a b : Str} (F : Fun K x qual st f fd)
    (h : ∀ (kV doc pm : Value) (an : Option Addr) (cdv ct : Value) (s u : Value), bindArgs (PySem.W.fnOf x qual (defArgs st) (defBody st) (defScope st) .none kV doc pm an cdv ct) ⟨[s], [(b, u)]⟩ = pure [(a, s), (b, u)]) :
    KBinds K fd [a, b] [b] selfG selfG := by
  obtain ⟨oc, od, kV, doc, pm, an, cdv, ct, osl, rfl, lk, hcd⟩ := F.ex
  refine ⟨fun s us ws X l => ?_, fun {vs us zs ws} r1 r2 => ?_⟩
  · match us, ws, l with
    | [s], [u], _ => exact .of_eq (h kV doc pm an cdv ct s u)
    | [], _, l => cases l
    | [_], [], l => cases l
    | [_], _ :: _ :: _, l => cases l
    | _ :: _ :: _, _, l => cases l
  · cases r1 with
    | nil => exact .nil
    | cons h1 r1 =>
      cases r1 with
      | cons _ _ => exact .nil
      | nil =>
        cases r2 with
        | nil => exact .nil
        | cons h2 r2 =>
          cases r2 with
          | nil => exact .cons h1 (.cons h2 .nil)
          | cons _ _ => exact .nil
/-- .. the same for the making of an instance -/
theorem kbn_self {K : PySem.W.Frag} {x qual : Str} {st : Stmt} {f : Addr} {fd : FuncData} {a b : Str} (F : Fun K x qual st f fd)
    (h : ∀ (kV doc pm : Value) (an : Option Addr) (cdv ct : Value) (s u : Value), bindArgs (PySem.W.fnOf x qual (defArgs st) (defBody st) (defScope st) .none kV doc pm an cdv ct) ⟨[s], [(b, u)]⟩ = pure [(a, s), (b, u)]) :
    KBn K fd [a, b] 1 [b] selfG selfG := by
  have kb := kb_self F h
  refine ⟨fun s us ws X l1 l2 => kb.to s us ws X ?_, kb.rel⟩
  match us, ws, l1, l2 with
  | [_], [_], _, _ => rfl
end Kx
namespace Kx
open PySem PySem.Spec PyProof.Rows L2 SX LamX
theorem sqT_put {K : PySem.W.Frag} {H : Hp} {p a C dx : Addr} {fs : List (Str × V)} {o : HO} {xs : List V} (hp : H p = some (.ins C dx fs)) (h : SqT K H a xs) : SqT K (upd H p o) a xs := by
  rcases h with (h | ⟨ob, h⟩) | h
  · exact .inl (.inl (by rw [upd_ne (ne_of_two h hp (fun z => by cases z))]; exact h))
  · exact .inl (.inr ⟨ob, by rw [upd_ne (ne_of_two h hp (fun z => by cases z))]; exact h⟩)
  · exact .inr h
theorem tupN_put {K : PySem.W.Frag} {H : Hp} {p a C dx : Addr} {fs : List (Str × V)} {o : HO} (hp : H p = some (.ins C dx fs)) (h : TupN K H a) : TupN K (upd H p o) a := by
  rcases h with ⟨ob, xs, h, d⟩ | h
  · exact .inl ⟨ob, xs, by rw [upd_ne (ne_of_two h hp (fun z => by cases z))]; exact h, d⟩
  · exact .inr h
theorem kitOne_no {K : PySem.W.Frag} {C : Addr} {n : String} (h1 : PySem.W.isClsIn K C = true) (h2 : PySem.W.typeIn K (.ref C) = some (.type "type")) (h3 : PySem.W.subIn K (.type n) (.ref C) = some false) : PySem.W.kitOne K (.type n) (.ref C) = some false := by
  unfold PySem.W.kitOne
  rw [if_neg (by simp)]
  unfold PySem.W.kitCls
  have h1' : (PySem.W.clsIn K C).isSome = true := h1
  dsimp only
  rw [h1', h2]
  exact h3
theorem kitOne_self {K : PySem.W.Frag} {C : Addr} : PySem.W.kitOne K (.ref C) (.ref C) = some true := by
  unfold PySem.W.kitOne
  simp
theorem kitOne_other {K : PySem.W.Frag} {C D : Addr} (h1 : PySem.W.isClsIn K C = true) (h2 : PySem.W.typeIn K (.ref C) = some (.type "type")) (h3 : PySem.W.subIn K (.ref D) (.ref C) = some false) (h4 : PySem.W.subIn K (.ref D) (.ref D) = some true) : PySem.W.kitOne K (.ref D) (.ref C) = some false := by
  have ne : D ≠ C := fun e => by
    rw [e] at h3 h4
    rw [h3] at h4
    cases h4
  unfold PySem.W.kitOne
  rw [if_neg (by simpa using ne)]
  unfold PySem.W.kitCls
  have h1' : (PySem.W.clsIn K C).isSome = true := h1
  dsimp only
  rw [h1', h2]
  exact h3
theorem sub_non {K : PySem.W.Frag} {C : Addr} : PySem.W.subIn K (.type "NoneType") (.ref C) = some false := HN.sub_none
theorem eqv_text (a b : List Nat) : PyData.eqv (.str (S a)) (.str (S b)) = decide (a = b) := by
  show (S a == S b) = _
  by_cases h : a = b
  · rw [h, decide_eq_true rfl]
    simp
  · rw [decide_eq_false h, beq_eq_false_iff_ne]
    intro e
    have := congrArg (fun z : Str => z.cps.toList) e
    exact h (by simpa [S] using this)
theorem eqv_texts (xs ys : List (List Nat)) : PyData.eqv (.tuple (xs.map fun l => PyData.str (S l))) (.tuple (ys.map fun l => PyData.str (S l))) = decide (xs = ys) := eqvAll_map eqv_text xs ys
theorem pl_text {l : List Nat} (h : cdC l) : Pl 0 (.str (S l)) := ⟨by
  show (S l).cps.all (· < 0x110000) = true
  have e : (S l).cps.all (· < 0x110000) = l.all (fun c => decide (c < 1114112)) := by simp [S]
  rw [e]
  exact h, Nat.le_refl _⟩
theorem low_cd {l : List Nat} (h : l.all low = true) : cdC l := by
  unfold cdC
  rw [List.all_eq_true] at h ⊢
  intro c hc
  have := low_lt (h c hc)
  exact decide_eq_true (by omega)
theorem inV_texts {v : V} (ws : List (List Nat)) : inV v (ws.map fun l => V.str (S l)) = true ↔ ∃ w ∈ ws, v = .str (S w) := by
  unfold inV
  rw [List.any_map, List.any_eq_true]
  constructor
  · rintro ⟨w, hw, h⟩
    refine ⟨w, hw, ?_⟩
    cases v with
    | str x =>
      have h' : (S w == x) = true := h
      rw [beq_iff_eq.mp h']
    | _ => cases h
  · rintro ⟨w, hw, rfl⟩
    exact ⟨w, hw, by show (S w == S w) = true; simp⟩
end Kx
namespace Kx
open PySem PySem.Spec PyProof.Rows L2 SX LamX
section
variable {X : Cx}
theorem rev_pick (z : Str) : ((Builtin.Str.strSliceIndices none none (-1) z.length).filterMap (z.cps[·]?)).toArray = z.cps.toList.reverse.toArray := by
  have e : Builtin.Str.strSliceIndices none none (-1) z.length = sliceRange ((z.cps.size : Int) - 1) (-1) (-1) := rfl
  rw [e, PySem.W.krv_sliceRange, PySem.W.krv_range, List.filterMap_reverse, PySem.W.krv_all]
/-- x[::-1], a text -/
def tRevS (te : TE) : TE := fun σ H Q => te σ H fun x H1 => ∃ l : List Nat, x = .str (S l) ∧ l.length ≤ 1000000 ∧ Q (.str (S l.reverse)) H1
theorem pe_revS {e : Expr} {te : TE} {k : Nat} {p1 p2 p3 pos : Pos} (he : PE X e te) : PE X (.Subscript e (.Slice none none (some (.UnaryOp .USub (.Constant (.int 1) k p1) p2)) p3) pos) (tRevS te) := by
  refine ⟨fun pins s σ H Q I h => ?_⟩
  refine Subscript_ (thn (he.run pins s σ H _ I h) fun v s1 ⟨x, H1, I1, r1, q1⟩ => ?_)
  obtain ⟨z, ex, hz, q⟩ := q1
  subst ex
  obtain ⟨t, rfl⟩ := r1
  have hst : PO X (some (.UnaryOp .USub (.Constant (.int 1) k p1) p2)) (tPart (tUn (rU fun i => .int (-i)) (tC (.int 1)))) := po_some (pe_un un_neg pe_int)
  refine wpAny_Slice (thn (po_none.run pins s1 σ H1 (fun o H2 => o = none ∧ H2 = H1) I1 ⟨rfl, rfl⟩) fun vl s2 ⟨l, H2, I2, pl, el, e2⟩ => ?_)
  subst el e2
  refine thn (po_none.run pins s2 σ H2 (fun o H3 => o = none ∧ H3 = H2) I2 ⟨rfl, rfl⟩) fun vu s3 ⟨u, H3, I3, pu, eu, e3⟩ => ?_
  subst eu e3
  refine thn (hst.run pins s3 σ H3 (fun o H4 => o = some (-1) ∧ H4 = H3) I3 ⟨1, rfl, -1, rfl, rfl, rfl⟩) fun vs s4 ⟨o, H4, I4, ps, eo, e4⟩ => ?_
  subst eo e4
  have I5 : Inv X pins σ H4 { s4 with heap := s4.heap.push { cls := .type "slice", data := .fields #[vl, vu, vs] } } := I4.kept (t' := s4.toks) fun b ob q => Heap.get?_push_of_some _ q
  obtain ⟨l', rfl, e1⟩ := IsPart.raw pl
  obtain ⟨u', rfl, e2⟩ := IsPart.raw pu
  obtain ⟨w', rfl, e3⟩ := IsPart.raw ps
  show wpAny (model X.prog X.w) X.A (subscriptTail e (.Slice none none (some (.UnaryOp .USub (.Constant (.int 1) k p1) p2)) p3) (.str (S z) t) (.ref s4.heap.objs.size)) (EP X pins σ Q) X.xe _
  refine tail_any (ops := [.str (S z) t, .ref s4.heap.objs.size]) (typeIs_str _ _ _) (PySem.F.slot_str_getitem.lookup) ?_ (by with_unfolding_all rfl)
  refine wpAny_getItem_str_slice (l := l') (u := u') (st := w') ⟨_, Heap.get?_push_size _ rfl, rfl, rfl⟩ (by rw [e3]; decide) ?_
  have hm : l'.map (·.1) = none := e1
  have hu : u'.map (·.1) = none := e2
  have made : sliceMade (S z) t l' u' w' = Made.str (S z.reverse) := by
    unfold sliceMade slicePicked
    rw [hm, hu, e3]
    show (if ((-1 : Int) == 1 && _) = true then _ else _) = _
    rw [if_neg (by simp)]
    have e0 : (S z).cps.toList = z := by simp [S]
    have e5 := rev_pick (S z)
    rw [e0] at e5
    exact congrArg (fun a => Made.str ⟨a⟩) e5
  rw [made]
  exact ⟨by rw [S_len, List.length_reverse]; exact Nat.le_trans hz (by decide), .str _, _, I5.tok _, ⟨_, rfl⟩, q⟩
end
end Kx
namespace Kx
open PySem PySem.Spec PyProof.Rows L2 SX LamX
theorem go_set {te : TE} {u : TS} {D : Ends} {σ : L2.St} {H : Hp} {i : Nat} (h : te σ H fun x H1 => u D (σ.set i (some x)) H1) : tSeq (tAsg te (gName i)) u D σ H := h
theorem go_next {D : Ends} {σ : L2.St} {H : Hp} (h : D.nx σ H) : tNext D σ H := h
theorem go_and2 {ta tb : TT} {σ : L2.St} {H : Hp} {Q : Bool → Hp → Prop} (h : ta σ H fun b H1 => if b = true then tb σ H1 Q else Q false H1) : tAnd ta tb σ H Q := h
end Kx
namespace Kx
open PySem PySem.Spec PyProof.Rows L2 SX LamX
/-- a test that fails -/
theorem if_same {c : TT} {t u : TS} {D : Ends} {σ : L2.St} {H : Hp} (hc : ∀ Q : Bool → Hp → Prop, (∀ H', Same H H' → Q false H') → c σ H Q) (h : ∀ H', Same H H' → u D σ H') : tIfS c t u D σ H := go_if (hc _ fun H' e => iteF (A := _) (h H' e))
theorem nodup_rev {α : Type} {l : List α} (h : l.Nodup) : l.reverse.Nodup := by
  unfold List.Nodup at h ⊢
  rw [List.pairwise_reverse]
  exact h.imp fun h e => h e.symm
end Kx
namespace Kx
open PySem PySem.Spec PyProof.Rows L2 SX LamX
open PySem.W in
/-- the goal that the head leaves, of a law in which two defs make lambdas -/
theorem walkL2 {l : OpenLaw} {n k : Nat} {q : Program} {loose : List Str} {XP : (Str → Option Value) → Heap → Prop} {YP : World → Heap → Prop} {d : DefRec} {K : Params → Frag} {x y z : Str} (sp : Frag → Addr → Addr → Sp)
    (hn : l.most = some n) (hz : n ≤ sizeLine) (h0 : d.params.defaults = []) (hr : Room k callerA) (hY : ∀ (w : World) (h : Heap), YP w h → (K w.params).In h)
    (hc : ∀ p, ((∃ r, (recsOf q).find? (fun r => r.name == y) = some r) ∧ ∃ r, (recsOf q).find? (fun r => r.name == z) = some r) ∧ ∃ c Pt c2 Pu, (tabIn (K p) y = some (c, Pt) ∧ (K p).lookup Pt = none) ∧ (tabIn (K p) z = some (c2, Pu) ∧ (K p).lookup Pu = none) ∧ Pt ≠ Pu)
    (F : ∀ (w : World) (mg : Str → Option Value) (fa : Addr) (h : Heap), (K w.params).In h → h.Ns mainGlobals mg → mg d.name = some (.ref fa) → ∃ fd : FuncData,
      (∀ (t : Shared) (u : Value), BindsTo t fd ⟨[u], []⟩ [(x, u)]) ∧ ∀ (c Pt c2 Pu : Addr), tabIn (K w.params) y = some (c, Pt) → tabIn (K w.params) z = some (c2, Pu) → Pt ≠ Pu → ∀ base : Heap, (K w.params).In base → base.Ns mainGlobals mg → TabB base mg c Pt → TabB base mg c2 Pu → FnG l.prog w (K w.params) mg base CX0 k fa fd [x] (sp (K w.params) Pt Pu))
    (pr : ∀ (K : Frag) (Pt Pu : Addr) (H : Hp) (a : Addr) (ns : List Int), ns.length ≤ n → H Pt = some (.tbl #[]) → H Pu = some (.tbl #[]) → SqL K H a (ns.map V.int) → sp K Pt Pu [.ref a] H (fun v _ => v = .bl true) fun _ _ _ => False) :
    WalkO q loose XP YP l.row.toRowW d [] (fun f us => PySem.call f us) := by
  refine walkT (x := x) (K := K) (cs := fun p => [(y, ((tabIn (K p) y).getD (0, 0))), (z, ((tabIn (K p) z).getD (0, 0)))]) (sp := fun K => sp K ((tabIn K y).getD (0, 0)).2 ((tabIn K z).getD (0, 0)).2) hn hz h0 hr hY (fun p e he => ?_) (fun w mg fa h KX G hmg => ?_) (fun p H a ns hl ht hS _ => pr _ _ _ H a ns hl (ht _ List.mem_cons_self) (ht _ (List.mem_cons_of_mem _ List.mem_cons_self)) hS)
  · obtain ⟨⟨r1, r2⟩, c, Pt, c2, Pu, ⟨h2, h3⟩, ⟨h4, h5⟩, _⟩ := hc p
    rcases List.mem_cons.mp he with rfl | he
    · refine ⟨r1, ?_, ?_⟩
      · rw [h2]
        rfl
      · rw [h2]
        exact h3
    · cases List.mem_singleton.mp he
      refine ⟨r2, ?_, ?_⟩
      · rw [h4]
        rfl
      · rw [h4]
        exact h5
  · obtain ⟨fd, hb, hF⟩ := F w mg fa h KX G hmg
    obtain ⟨_, c, Pt, c2, Pu, ⟨h2, _⟩, ⟨h4, _⟩, hne⟩ := hc w.params
    refine ⟨fd, hb, fun base hk hg ht => ?_⟩
    have hT := ht _ List.mem_cons_self
    have hU := ht _ (List.mem_cons_of_mem _ List.mem_cons_self)
    simp only [h2, h4, Option.getD_some] at hT hU ⊢
    exact hF c Pt c2 Pu h2 h4 hne base hk hg hT hU
theorem tab_at {K : PySem.W.Frag} {x : Str} {f c Pt : Addr} {oc oc2 : Value} {od od2 : Option Addr} {osl osl2 : Array (Option Value)} {fd : FuncData} {vs : Array Value} (a : PySem.W.nsIn K mainGlobals x = some (some (.ref f)))
    (l : K.lookup f = some ⟨oc, od, .func fd, osl⟩) (e : fd.code = .ref c) (l2 : K.lookup c = some ⟨oc2, od2, .fields vs, osl2⟩) (v : (vs[11]? : Option Value) = some (.ref Pt)) (n : K.lookup Pt = none) :
    PySem.W.tabIn K x = some (c, Pt) ∧ K.lookup Pt = none := by
  refine ⟨?_, n⟩
  unfold PySem.W.tabIn
  rw [a]
  simp only [l, e, l2, v]
end Kx
namespace Kx
open PySem PySem.Spec PyProof.Rows L2 SX LamX
section
variable {X : Cx} {K : PySem.W.Frag}
theorem inK_op_in_seq (e : X.K = K) : OpR X (compareOp .In) (rIn K false) := e ▸ op_in_seq
theorem inK_op_notIn_seq (e : X.K = K) : OpR X (compareOp .NotIn) (rIn K true) := e ▸ op_notIn_seq
theorem inK_call_tuple_frz (e : X.K = K) : CallR X (.type "tuple") (fun xs H Q => ∃ p ys, xs = [.ref p] ∧ ((SqL K H p ys ∧ ∀ l o, H l = none → o.dict = none → Q (.ref l) (upd H l (.frz o (.tup ys)))) ∨ (SqT K H p ys ∧ Q (.ref p) H))) := e ▸ call_tuple_frz
end
theorem sub_int {K : PySem.W.Frag} {C : Addr} : PySem.W.subIn K (.type "int") (.ref C) = some false := by
  have e : fastBuiltinMro "int" = some [.type "int", .type "object"] := by decide +kernel
  show (fastBuiltinMro "int").map (·.contains (.ref C)) = some false
  rw [e]
  first
    | rfl
    | simp
end Kx
namespace PySem
open Sem (wp)
open AutoSeq1 (wpAny_loadPart')
theorem meets_enumerate_newT (l : Addr) (items : Array Value) (n : Nat) (dct : Option Addr) (sl : Array (Option Value)) :
    Meets (Builtin.«enumerate.__new__» ⟨[.type "enumerate", .ref l], []⟩) (fun _ R s => s.heap.get? l = some { cls := .type "tuple", dict := dct, data := .seq items n, slots := sl } ∧
      R (.ok (.ret (.ref (s.heap.push { cls := .type "tuple_iterator", data := .fields #[.ref l, .int 0 0] }).objs.size)))
        { s with heap := (s.heap.push { cls := .type "tuple_iterator", data := .fields #[.ref l, .int 0 0] }).push { cls := .type "enumerate", data := .fields #[.none, .bool false, .ref s.heap.objs.size, rawInt 0, .none, .none] } }) :=
  .of_wp fun prog w A R s h => by
    obtain ⟨hp, g, d, tk, os⟩ := s
    obtain ⟨hl, h⟩ := h
    have hsub := sub_enumerate
    have hL : Heap.IsTuple (Shared.heap ⟨hp, g, d, tk, os⟩) l items := ⟨_, hl, rfl, n, rfl⟩
    wp_walk using wpAny_loadPart' hl
    refine wpAny_stack_any fun st => wpAny_pure ?_
    split
    · rename_i c _ _ _ _ _
      cases (c == Value.type "enumerate")
      · wp_walk using wpAny_loadPart' hl, wpAny_pyIter_tuple hL
        exact ⟨_, rfl, h⟩
      · wp_walk using wpAny_loadPart' hl, wpAny_pyIter_tuple hL
        exact ⟨_, rfl, h⟩
    · wp_walk using wpAny_loadPart' hl, wpAny_pyIter_tuple hL
      exact ⟨_, rfl, h⟩
section
variable {prog : Program} {w : World} {A : Around} {E : Value → Shared → Prop} {s : Shared}
theorem call_enumerate_tuple {l : Addr} {items : Array Value} {Q : Value → Shared → Prop} (hL : s.heap.IsTuple l items)
    (h : ∀ h', IsEnum h' (s.heap.objs.size + 1) s.heap.objs.size 0 .none → h'.IsTupleIter s.heap.objs.size l 0 → h'.objs.size = s.heap.objs.size + 2 →
      (∀ b o, s.heap.get? b = some o → h'.get? b = some o) → Q (.ref (s.heap.objs.size + 1)) { s with heap := h' }) :
    wpAny (model prog w) A (call (.type "enumerate") [.ref l]) Q E s := by
  obtain ⟨⟨c, dct, dt, sl⟩, hl, hc, n, hd⟩ := hL
  replace hc : c = .type "tuple" := hc
  replace hd : dt = .seq items n := hd
  subst hc hd
  refine callType_new F.called_enumerate (by decide) (F.typeCall_enumerate_1 _) (F.newCall_enumerate_1 _) (fun obj => F.args_object_init_2 obj _) F.entry_enumerate_new
    (meets_enumerate_newT l items n dct sl) ⟨hl, ?_⟩
  have hz : (s.heap.push { cls := .type "tuple_iterator", data := .fields #[.ref l, .int 0 0] }).objs.size = s.heap.objs.size + 1 := Heap.size_push ..
  show _ ∧ _
  rw [hz]
  have he : IsEnum ((s.heap.push { cls := .type "tuple_iterator", data := .fields #[.ref l, .int 0 0] }).push
      { cls := .type "enumerate", data := .fields #[.none, .bool false, .ref s.heap.objs.size, rawInt 0, .none, .none] }) (s.heap.objs.size + 1) s.heap.objs.size 0 .none := by
    have := Heap.get?_push_size (s.heap.push { cls := .type "tuple_iterator", data := .fields #[.ref l, .int 0 0] })
      (o := { cls := .type "enumerate", data := .fields #[.none, .bool false, .ref s.heap.objs.size, rawInt 0, .none, .none] }) rfl
    rw [hz] at this; exact this
  refine ⟨⟨_, he, rfl⟩, h _ he ⟨_, Heap.get?_push_of_some _ (Heap.get?_push_size _ rfl), rfl, rfl⟩ (by rw [Heap.size_push, hz]) fun b o x => Heap.get?_push_of_some _ (Heap.get?_push_of_some _ x)⟩
end
end PySem
namespace Kx
open PySem PySem.Spec PyProof.Rows L2 SX LamX
/-! ### enumerate(tuple) -/
def IteT (K : PySem.W.Frag) (a : Addr) : It :=
  ⟨fun i H => ∃ (xs : List V) (x : V), SqT K H a xs ∧ xs[i]? = some x, fun i H v H' => ∃ T x, v = .ref T ∧ H T = none ∧ H' = upd H T (.tup [.int (i : Nat), x]) ∧ ∀ xs, SqT K H a xs → xs[i]? = some x, fun i H => ∃ xs : List V, SqT K H a xs ∧ i = xs.length⟩
theorem turn_enumT {P : Program} {w : World} {K : PySem.W.Frag} {elts : List Expr} {kk : Nat} {tpos : Pos} (a e it : Addr) :
    Turn P w K (.Tuple elts kk tpos) (IteT K a) [e, it] e (fun i h => (∃ old, IsEnum h e it ((i : Nat) : Int) old) ∧ h.IsTupleIter it a i ∧ e ≠ it ∧ a ≠ it ∧ a ≠ e) where
  mem := by simp
  obj := fun i h st b hb => by
    obtain ⟨⟨old, he⟩, ⟨o, ho, hc, hd⟩, _⟩ := st
    rcases (show b = e ∨ b = it by simpa using hb) with z | z
    · rw [z]
      exact ⟨_, he, fun v q => nomatch q⟩
    · rw [z]
      exact ⟨o, ho, fun v q => by rw [hd] at q; cases q⟩
  keep := fun i h h' st k => by
    obtain ⟨⟨old, he⟩, ⟨o, ho, r⟩, hne⟩ := st
    exact ⟨⟨old, k e (by simp) _ he⟩, ⟨o, k it (by simp) _ ho, r⟩, hne⟩
  item := by
    intro X hP hw hK hc i pins s σ H E I hf st hg
    subst hP hw hK
    obtain ⟨⟨old, he⟩, hit, hne, n1, n2⟩ := st
    obtain ⟨xs, x, hq, hx⟩ := hg
    obtain ⟨its, rv, p, hz⟩ := I.tuple hq
    obtain ⟨u, hu, ru⟩ := rv.get hx
    have el : e < s.heap.objs.size := Heap.lt_size he
    have il : it < s.heap.objs.size := by
      obtain ⟨_, q, _⟩ := hit
      exact Heap.lt_size q
    have D := Draws.tuple (prog := X.prog) (w := X.w) (A := X.A.in1) (I.ok.hd hc) it a n1 its.toArray
    have hlt : i < its.toArray.size := by
      have := (List.getElem?_eq_some_iff.mp hu).1
      simpa using this
    refine wpAny_pyNext_enum_itemD D he ⟨hit, p⟩ hlt hne (by simp [hne, Ne.symm n2]) fun u' h' tk hu' ho hit' hT hz' hk => ?_
    obtain rfl : u = u' := by
      have h1 : its.toArray[i]? = some u := by simpa using hu
      rw [h1] at hu'
      exact Option.some.inj hu'
    refine ⟨_, rfl, wpAny_letOwnedTupleGo_enum (s := { s with heap := h', toks := tk + 1 }) ho fun h2 he' sb => ?_⟩
    have T2 := (sb.2 _ (Nat.ne_of_gt el)).trans hT
    have new : ObjOk X.prog X.w (upd H s.heap.objs.size (.tup [.int (i : Nat), x])) h2 s.heap.objs.size (.tup [.int (i : Nat), x]) :=
      ⟨by show 2 ≤ sizeLine; decide, [.int i tk, u], .cons ⟨_, rfl⟩ (.cons ru .nil), ⟨_, T2, rfl, _, rfl⟩⟩
    have I1 : Inv X pins σ (upd H s.heap.objs.size (.tup [.int (i : Nat), x])) { s with heap := h2, toks := tk + 1 } :=
      I.turnedNew (ch := [e, it]) (fun b ob hb q => (sb.2 b (fun z => hb (by simp [z]))).trans (hk b ob (fun z => hb (by simp [z])) (fun z => hb (by simp [z])) q)) hf (Nat.le_refl _) new
    refine ⟨.ref s.heap.objs.size, _, I1, rfl, ⟨_, x, rfl, I.hok.fresh (Nat.le_refl _), rfl, fun ys hy => by rw [I.tuple_inj hy hq]; exact hx⟩, ⟨⟨u, ?_⟩, ?_, hne, n1, n2⟩, fun b hb => ?_⟩
    · rw [show ((i + 1 : Nat) : Int) = (i : Int) + 1 by omega]
      exact he'
    · obtain ⟨⟨o, ho2, r⟩, _⟩ := hit'
      exact ⟨o, (sb.2 it (Ne.symm hne)).trans ho2, r⟩
    · have hb' : b < s.heap.objs.size := by
        rcases (show b = e ∨ b = it by simpa using hb) with z | z
        · rw [z]
          exact el
        · rw [z]
          exact il
      rw [upd_ne (Nat.ne_of_lt hb')]
      exact (hf b hb).1
  done := by
    intro X hP hw hK hc i pins s σ H E I hf st hg
    subst hP hw hK
    obtain ⟨⟨old, he⟩, hit, hne, n1, n2⟩ := st
    obtain ⟨xs, hq, hx⟩ := hg
    obtain ⟨its, rv, p, hz⟩ := I.tuple hq
    obtain ⟨f0, f1, f2, f3, f4, f5⟩ := hf it (by simp)
    have hl : i = its.toArray.size := by
      rw [hx, rv.length]
      simp
    have D := Draws.tuple (prog := X.prog) (w := X.w) (A := X.A.in1) (I.ok.hd hc) it a n1 its.toArray
    rw [hl] at hit he
    exact wpAny_pyNext_enum_endD D he ⟨hit, p⟩ fun h' eb => ⟨rfl, I.turned (t' := s.toks) (fun b o hb q => eb b o hb q) f0 f1 f3 f4 f5⟩
  self := fun A i s Q E st h => by
    obtain ⟨⟨_, he⟩, _⟩ := st
    exact wpAny_pyIter_enum he h
def iEnumT (K : PySem.W.Frag) (ta : TA) : TI := fun σ H R => ta σ H fun vs H1 => ∃ a xs, vs = [.ref a] ∧ SqT K H1 a xs ∧ R (IteT K a) H1
theorem pi_enumT {X : Cx} {e : Expr} {ta : TA} {p pos tpos : Pos} {elts : List Expr} {kk : Nat} (hg : Gl X "enumerate") (hm : X.mg "enumerate" = none) (ha : PA X [e] ta) (hs : starEach [e] X.env = [(false, eval e X.env)] := by rfl) :
    PI X (.Tuple elts kk tpos) (.Call (.Name "enumerate" p) [e] [] pos) (iEnumT X.K ta) := by
  refine ⟨fun pins s σ H R I h => ?_⟩
  refine Call_ (ld_blt I hg hm boot_enumerate (PyProof.Rows.callWith_type1 (thn (ha.run pos pins s σ H _ I h) fun us s1 hh => ?_) hs rfl))
  obtain ⟨vs, H1, I1, r1, a, xs, rfl, hq, q⟩ := hh
  obtain ⟨u, rfl, rx⟩ := vals1 r1
  cases rx
  obtain ⟨its, rv, pp, hz⟩ := I1.tuple hq
  have hla : a < s1.heap.objs.size := by
    obtain ⟨_, q, _⟩ := pp
    exact Heap.lt_size q
  refine call_enumerate_tuple pp fun h' he hit hsz hk => wpAny_pyIter_enum he ?_
  have I2 : Inv X pins σ H1 { s1 with heap := h' } := I1.kept (t' := s1.toks) hk
  refine ⟨s1.heap.objs.size + 1, [s1.heap.objs.size + 1, s1.heap.objs.size], _, _, H1, rfl, I2, turn_enumT a (s1.heap.objs.size + 1) s1.heap.objs.size, ⟨⟨.none, he⟩, hit, Nat.succ_ne_self _, Nat.ne_of_lt hla, Nat.ne_of_lt (Nat.lt_succ_of_lt hla)⟩, fun b hb => ?_, q⟩
  have hle : s1.heap.objs.size ≤ b := by
    rcases (show b = s1.heap.objs.size + 1 ∨ b = s1.heap.objs.size by simpa using hb) with z | z
    · rw [z]
      exact Nat.le_add_right _ _
    · rw [z]
      exact Nat.le_refl _
  exact I1.fpOk hle (I1.hok.fresh hle)
theorem walk_enumT {K : PySem.W.Frag} {a : Addr} {xs : List V} : Walk (IteT K a) xs.length (fun H => SqT K H a xs) (fun i H v H' => ∃ T x, v = .ref T ∧ H T = none ∧ H' = upd H T (.tup [.int (i : Nat), x]) ∧ xs[i]? = some x) :=
  ⟨fun i _ hi q => ⟨xs, xs[i], q, by simp [hi]⟩, fun _ q => ⟨xs, q, rfl⟩, fun _ _ _ _ _ q y => by
    obtain ⟨T, x, h1, h2, h3, h4⟩ := y
    exact ⟨T, x, h1, h2, h3, h4 xs q⟩⟩
section
variable {J : It} {n : Nat} {G : Hp → Prop} {Y : Nat → Hp → V → Hp → Prop}
/-- a dict comprehension over whatever walks: Pv by the turn and the heap (the new dict at D within) -/
theorem dc_it (w : Walk J n G Y) {g : TG} {tt : TT} {tk tv : TE} {vs : List Nat} {σ : L2.St} {H1 : Hp} {D : Addr} {Qd : Hp → Prop} (Pv : Nat → Hp → Prop) (h0 : Pv 0 (upd H1 D (.dK []))) (hG : ∀ i H, i ≤ n → Pv i H → G H)
    (hs : ∀ i x H H', i < n → Pv i H → Y i H x H' → g x (wipe σ vs) H' fun σ2 H2 => wipe σ2 vs = wipe σ vs ∧ tt σ2 H2 fun b H3 =>
      if b = true then tk σ2 H3 fun y H4 => tv σ2 H4 fun z H5 => ∃ kvs k, y = kV k ∧ H5 D = some (.dK kvs) ∧ kvs.length < sizeLine ∧ Pv (i + 1) (upd H5 D (.dK (putK kvs k z))) else Pv (i + 1) H3) (hd : ∀ H, Pv n H → Qd H) :
    ∃ W : Nat → Nat → Hp → Prop, (∃ m, W 0 m (upd H1 D (.dK []))) ∧ ∀ i m H, W i m H →
      (J.stop i H ∧ Qd H) ∨ (J.go i H ∧ ∃ Nx : Hp → Prop, (∀ H', Nx H' → ∃ m', m' < m ∧ W (i + 1) m' H') ∧ ∀ x H', J.yld i H x H' → g x (wipe σ vs) H' fun σ2 H2 => wipe σ2 vs = wipe σ vs ∧ tt σ2 H2 fun b H3 =>
        if b = true then tk σ2 H3 fun y H4 => tv σ2 H4 fun z H5 => ∃ kvs k, y = kV k ∧ H5 D = some (.dK kvs) ∧ kvs.length < sizeLine ∧ Nx (upd H5 D (.dK (putK kvs k z))) else Nx H3) := by
  refine ⟨fun i m H => m = n - i ∧ i ≤ n ∧ Pv i H, ⟨n, by simp, Nat.zero_le _, h0⟩, ?_⟩
  rintro i m H ⟨rfl, hi, p⟩
  have q := hG i H hi p
  by_cases hlt : i < n
  · refine .inr ⟨w.goes i H hlt q, Pv (i + 1), fun H' p' => ⟨n - (i + 1), by omega, rfl, hlt, p'⟩, fun x H' y => hs i x H H' hlt p (w.yields i H x H' hlt q y)⟩
  · have e : i = n := by omega
    subst e
    exact .inl ⟨w.stops H q, hd H p⟩
end
theorem inK_pe_fld {X : Cx} {K : PySem.W.Frag} {e : Expr} {ta : TE} {f : Str} {pos : Pos} (q : X.K = K) (he : PE X e ta) (hb : attributeBase e f X.env (eval e X.env) = eval e X.env) : PE X (.Attribute e f pos) (tFld K ta f) := q ▸ pe_fld he hb
end Kx
namespace Kx
open PySem PySem.Spec PyProof.Rows L2 SX LamX
/-- a method called by two names, the other way round -/
def selfSwapG {α : Type} (us ws : List α) : List α := match us, ws with | [s], [v, u] => [s, u, v] | _, _ => []
theorem kb_selfSwap {K : PySem.W.Frag} {x qual : Str} {st : Stmt} {f : Addr} {fd : FuncData} {a b c : Str} (F : Fun K x qual st f fd)
    (h : ∀ (kV doc pm : Value) (an : Option Addr) (cdv ct : Value) (s u v : Value), bindArgs (PySem.W.fnOf x qual (defArgs st) (defBody st) (defScope st) .none kV doc pm an cdv ct) ⟨[s], [(c, v), (b, u)]⟩ = pure [(a, s), (b, u), (c, v)]) :
    KBinds K fd [a, b, c] [c, b] selfSwapG selfSwapG := by
  obtain ⟨oc, od, kV, doc, pm, an, cdv, ct, osl, rfl, lk, hcd⟩ := F.ex
  refine ⟨fun s us ws X l => ?_, fun {vs us zs ws} r1 r2 => ?_⟩
  · match us, ws, l with
    | [s], [v, u], _ => exact .of_eq (h kV doc pm an cdv ct s u v)
    | [], _, l => cases l
    | [_], [], l => cases l
    | [_], [_], l => cases l
    | [_], _ :: _ :: _ :: _, l => cases l
    | _ :: _ :: _, _, l => cases l
  · cases r1 with
    | nil => exact .nil
    | cons h1 r1 =>
      cases r1 with
      | cons _ _ => exact .nil
      | nil =>
        cases r2 with
        | nil => exact .nil
        | cons h2 r2 =>
          cases r2 with
          | nil => exact .nil
          | cons h3 r2 =>
            cases r2 with
            | nil => exact .cons h1 (.cons h3 (.cons h2 .nil))
            | cons _ _ => exact .nil
theorem kbn_selfSwap {K : PySem.W.Frag} {x qual : Str} {st : Stmt} {f : Addr} {fd : FuncData} {a b c : Str} (F : Fun K x qual st f fd)
    (h : ∀ (kV doc pm : Value) (an : Option Addr) (cdv ct : Value) (s u v : Value), bindArgs (PySem.W.fnOf x qual (defArgs st) (defBody st) (defScope st) .none kV doc pm an cdv ct) ⟨[s], [(c, v), (b, u)]⟩ = pure [(a, s), (b, u), (c, v)]) :
    KBn K fd [a, b, c] 1 [c, b] selfSwapG selfSwapG := by
  have kb := kb_selfSwap F h
  refine ⟨fun s us ws X l1 l2 => kb.to s us ws X ?_, kb.rel⟩
  match us, ws, l1, l2 with
  | [_], [_, _], _, _ => rfl
end Kx
namespace Kx
open PySem PySem.Spec PyProof.Rows L2 SX LamX
/-! ### texts joined by blanks -/
theorem itemsA_app : ∀ (x acc r : List Nat), 32 ∉ x → itemsA acc (x ++ r) = itemsA (acc ++ x) r
  | [], acc, r, _ => by rw [List.append_nil, List.nil_append]
  | c :: x, acc, r, h => by
    have hc : c ≠ 32 := fun e => h (by rw [e]; exact List.mem_cons_self)
    show (if c = 32 then acc :: itemsA [] (x ++ r) else itemsA (acc ++ [c]) (x ++ r)) = _
    rw [if_neg hc, itemsA_app x (acc ++ [c]) r (fun m => h (List.mem_cons_of_mem _ m)), List.append_assoc]
    rfl
theorem itemsA_one {x acc : List Nat} (h : 32 ∉ x) : itemsA acc x = [acc ++ x] := by
  have := itemsA_app x acc [] h
  rw [List.append_nil] at this
  rw [this]
  rfl
theorem items_join : ∀ (its : List (List Nat)), its ≠ [] → (∀ it ∈ its, 32 ∉ it) → itemsA [] (TL.joinL [32] its) = its
  | [], h, _ => absurd rfl h
  | [x], _, h => by
    show itemsA [] x = [x]
    rw [itemsA_one (h x (List.mem_singleton.mpr rfl))]
    rfl
  | x :: y :: r, _, h => by
    show itemsA [] (x ++ (32 :: TL.joinL [32] (y :: r))) = _
    rw [itemsA_app x [] _ (h x List.mem_cons_self)]
    show (if (32 : Nat) = 32 then ([] ++ x) :: itemsA [] (TL.joinL [32] (y :: r)) else _) = _
    rw [if_pos rfl, items_join (y :: r) (List.cons_ne_nil _ _) (fun it m => h it (List.mem_cons_of_mem _ m))]
    rfl
theorem joinL_all {p : Nat → Bool} (h32 : p 32 = true) : ∀ (its : List (List Nat)), (∀ it ∈ its, it.all p = true) → (TL.joinL [32] its).all p = true
  | [], _ => rfl
  | [x], h => by
    show x.all p = true
    exact h x (List.mem_singleton.mpr rfl)
  | x :: y :: r, h => by
    show (x ++ (32 :: TL.joinL [32] (y :: r))).all p = true
    rw [List.all_append, List.all_cons, h32, joinL_all h32 (y :: r) (fun it m => h it (List.mem_cons_of_mem _ m)), h x List.mem_cons_self]
    rfl
theorem joinL_len {k : Nat} : ∀ (its : List (List Nat)), (∀ it ∈ its, it.length ≤ k) → (TL.joinL [32] its).length ≤ its.length * (k + 1)
  | [], _ => Nat.zero_le _
  | [x], h => by
    show x.length ≤ _
    have := h x (List.mem_singleton.mpr rfl)
    simp only [List.length_cons, List.length_nil]
    omega
  | x :: y :: r, h => by
    have h1 := joinL_len (y :: r) (fun it m => h it (List.mem_cons_of_mem _ m))
    have h2 := h x List.mem_cons_self
    show (x ++ (32 :: TL.joinL [32] (y :: r))).length ≤ _
    rw [List.length_append, List.length_cons]
    rw [List.length_cons (a := x), Nat.succ_mul]
    omega
/-- the length of a joined text -/
theorem joinL_sum : ∀ (its : List (List Nat)), its ≠ [] → (TL.joinL [32] its).length + 1 = (its.map fun it => it.length + 1).sum
  | [], h => absurd rfl h
  | [x], _ => by simp [TL.joinL]
  | x :: y :: r, _ => by
    have h1 := joinL_sum (y :: r) (List.cons_ne_nil _ _)
    show (x ++ (32 :: TL.joinL [32] (y :: r))).length + 1 = (x.length + 1) + ((y :: r).map fun it => it.length + 1).sum
    rw [List.length_append, List.length_cons, ← h1]
    omega
/-! ### slices of texts -/
theorem slice_S (l : List Nat) (lo hi : Option Int) : Txt.slice (S l) lo hi = S ((l.drop (HT.sIx l.length 0 lo)).take (HT.sIx l.length l.length hi - HT.sIx l.length 0 lo)) := by
  rw [← C8.cutS_slice]
  unfold cutS
  rw [S_len]
theorem slice_part {l : List Nat} {lo hi : Option Int} : ∃ m : List Nat, Txt.slice (S l) lo hi = S m ∧ m.length ≤ l.length ∧ ∀ c ∈ m, c ∈ l :=
  ⟨_, slice_S l lo hi, by rw [List.length_take, List.length_drop]; omega, fun c h => List.mem_of_mem_drop (List.mem_of_mem_take h)⟩
theorem slice_fromS (l : List Nat) (k : Nat) : Txt.slice (S l) (some (k : Int)) none = S (l.drop k) := by
  rw [slice_S, HT.sIx_none, HT.sIx_nat]
  by_cases h : k ≤ l.length
  · rw [Nat.min_eq_left h, List.take_of_length_le (by rw [List.length_drop]; omega)]
  · rw [Nat.min_eq_right (by omega), List.drop_of_length_le (Nat.le_refl _), List.drop_of_length_le (by omega), List.take_nil]
theorem slice_toS (l : List Nat) (k : Nat) : Txt.slice (S l) none (some (k : Int)) = S (l.take k) := by
  rw [slice_S, HT.sIx_none, HT.sIx_nat, List.drop_zero, Nat.sub_zero]
  by_cases h : k ≤ l.length
  · rw [Nat.min_eq_left h]
  · rw [Nat.min_eq_right (by omega), List.take_of_length_le (Nat.le_refl _), List.take_of_length_le (by omega)]
theorem sum_S_le {k : Nat} : ∀ its : List (List Nat), (∀ it ∈ its, it.length ≤ k) → ((its.map S).map (·.length)).sum ≤ its.length * k
  | [], _ => Nat.zero_le _
  | x :: r, h => by
    have h1 := sum_S_le r (fun it m => h it (List.mem_cons_of_mem _ m))
    have h2 := h x List.mem_cons_self
    have h3 : (S x).length = x.length := S_len x
    show (S x).length + ((r.map S).map (·.length)).sum ≤ (r.length + 1) * k
    rw [h3, Nat.succ_mul]
    omega
theorem inK_call_list_of {X : Cx} {K : PySem.W.Frag} (e : X.K = K) : CallR X (.type "list") (fun xs H Q => ∃ p ys, xs = [.ref p] ∧ (SqL K H p ys ∨ SqT K H p ys) ∧ ∀ l, H l = none → Q (.ref l) (upd H l (.lst ys))) := e ▸ call_list_of
end Kx
/-! ### replace of one written text, once -/
namespace Kx
open PySem PySem.Spec PyProof.Rows L2 SX LamX PySem.Builtin PySem.Builtin.Str
theorem gives_str_replace_n (x y z : Str) (t u v w : Tok) (n : Nat) (hn : n < 1000)
    (hf : ((occurrences x y 0 x.length n).isEmpty || (y.length == 0 && z.length == 0)) = false →
      (u == 0 || v == 0) = false ∧ (u == v) = false ∧ (y == z) = false ∧ tooLong (x.length + (occurrences x y 0 x.length n).length * z.length) = false) :
    Gives («str.replace» ⟨[.str x t, .str y u, .str z v, .int n w], []⟩) (if ((occurrences x y 0 x.length n).isEmpty || (y.length == 0 && z.length == 0)) = true then .val (.str x t) else .str (glued z (partsBetween x (occurrences x y 0 x.length n) y.length))) := by
  have key : «str.replace» ⟨[.str x t, .str y u, .str z v, .int n w], []⟩ = (do
      let limit ← countLimit "str.replace" (some (.int n w)) (x.length + 1)
      if ((occurrences x y 0 x.length limit).isEmpty || (y.length == 0 && z.length == 0)) = true then (do rule "str.replace.nothing"; ret (.str x t)) else
          (do let same ← isSame (.str y u) (.str z v)
              if same = true then (do rule "str.replace.old-is-new"; ret (.str x t)) else
              if tooLong (x.length + (occurrences x y 0 x.length limit).length * z.length) = true then unsupported "str.replace:memory" else
              retStr (glued z (partsBetween x (occurrences x y 0 x.length limit) y.length)))) := rfl
  have cl : countLimit "str.replace" (some (.int n w)) (x.length + 1) = pure n := by
    rw [countLimit_int _ _ _ _ (by rw [decide_eq_false (show ¬ ((n : Int) < -(2 ^ 63 : Int)) by omega), decide_eq_false (show ¬ ((n : Int) ≥ 2 ^ 63) by omega)]; rfl), if_neg (by omega)]
    rfl
  rw [key, cl]
  show Gives (if ((occurrences x y 0 x.length n).isEmpty || (y.length == 0 && z.length == 0)) = true then (do rule "str.replace.nothing"; ret (.str x t)) else
          (do let same ← isSame (.str y u) (.str z v)
              if same = true then (do rule "str.replace.old-is-new"; ret (.str x t)) else
              if tooLong (x.length + (occurrences x y 0 x.length n).length * z.length) = true then unsupported "str.replace:memory" else
              retStr (glued z (partsBetween x (occurrences x y 0 x.length n) y.length)))) _
  cases hc : ((occurrences x y 0 x.length n).isEmpty || (y.length == 0 && z.length == 0))
  · obtain ⟨h0, huv, hyz, hl⟩ := hf hc
    rw [isSame_str_other y z u v h0 huv hyz, hl]
    exact .of_eq rfl
  · exact .rule (.of_eq rfl)
/-- what is left of x when the first y is gone, of one sign -/
def repOne (x y : Str) : Str := if (occurrences x y 0 x.length 1).isEmpty = true then x else glued ⟨#[]⟩ (partsBetween x (occurrences x y 0 x.length 1) y.length)
theorem repOne_eq (x y : Str) : repOne x y = x ∨ ∃ i, repOne x y = ⟨x.cps.extract 0 i ++ #[] ++ x.cps.extract (i + y.length) x.length⟩ := by
  unfold repOne
  cases hc : (occurrences x y 0 x.length 1) with
  | nil => exact .inl rfl
  | cons i r =>
    have h1 := StrLaws.occ_length_le x y 0 x.length 1
    rw [hc] at h1
    cases r with
    | nil => exact .inr ⟨i, rfl⟩
    | cons j t => simp at h1
theorem repOne_S (l : List Nat) (y : Str) : ∃ m : List Nat, repOne (S l) y = S m ∧ m.length ≤ l.length + l.length ∧ ∀ c ∈ m, c ∈ l := by
  rcases repOne_eq (S l) y with h | ⟨i, h⟩
  · exact ⟨l, h, by omega, fun c m => m⟩
  · refine ⟨((S l).cps.extract 0 i ++ #[] ++ (S l).cps.extract (i + y.length) (S l).length).toList, ?_, ?_, fun c m => ?_⟩
    · rw [h]
    · simp [S]
      omega
    · simp [S] at m
      rcases m with m | m
      · exact List.mem_of_mem_take m
      · exact List.mem_of_mem_drop (List.mem_of_mem_take m)
theorem SC_replace1 {prog : Program} {w : World} {A : Around} {E : Value → Shared → Prop} {s : Shared} {x y : Str} {t u v w1 : Tok} {Q : Value → Shared → Prop} (hu : u ≠ 0) (hv : v ≠ 0) (huv : u ≠ v) (hyz : (y == (⟨#[]⟩ : Str)) = false) (hy : (y.length == 0) = false) (hb : x.length ≤ 1000000)
    (hq : ∀ t' k, Q (.str (repOne x y) t') { s with toks := k }) : wpAny (model prog w) A (call (.builtin "str.replace") [.str x t, .str y u, .str ⟨#[]⟩ v, .int 1 w1]) Q E s := by
  have hl : tooLong (x.length + (occurrences x y 0 x.length 1).length * Str.length ⟨#[]⟩) = false := by
    show decide (x.length + (occurrences x y 0 x.length 1).length * 0 > sizeLine) = false
    rw [Nat.mul_zero]
    exact decide_eq_false (by show ¬ (sizeLine < x.length + 0); have : (1000000 : Nat) ≤ sizeLine := by decide
                              omega)
  refine call_gives F.slot_str_replace (typeIs_str _ _ _) F.entry_str_replace (F.args_str_replace_4 _ _ _ _)
    (gives_str_replace_n x y ⟨#[]⟩ t u v w1 1 (by decide) fun _ => ⟨by simp [hu, hv], by simp [huv], hyz, hl⟩) ?_
  have hq' := hq
  unfold repOne at hq'
  cases hc : (occurrences x y 0 x.length 1).isEmpty
  · rw [hc] at hq'
    rw [hy]
    simp only [Bool.false_eq_true, if_false, Bool.false_and, Bool.or_false] at hq' ⊢
    have hr : (glued ⟨#[]⟩ (partsBetween x (occurrences x y 0 x.length 1) y.length)).length ≤ x.length + x.length := by
      have h1 := repOne_eq x y
      unfold repOne at h1
      rw [hc] at h1
      simp only [Bool.false_eq_true, if_false] at h1
      rcases h1 with h1 | ⟨i, h1⟩
      · rw [h1]
        omega
      · rw [h1]
        show (x.cps.extract 0 i ++ #[] ++ x.cps.extract (i + y.length) x.length).size ≤ _
        have hx : x.length = x.cps.size := rfl
        simp [hx]
        omega
    exact ⟨Nat.le_trans hr (by have : (2000000 : Nat) ≤ sizeLine := by decide
                               omega), hq' _ _⟩
  · rw [hc] at hq'
    simp only [if_true, Bool.true_or] at hq' ⊢
    exact hq' t s.toks
end Kx
namespace Kx
open PySem PySem.Spec PyProof.Rows L2 CwR
def tRep1 (to : TE) (y : Str) : TE := fun σ H Q => to σ H fun v H1 => ∃ x, v = .str x ∧ x.length ≤ 1000000 ∧ Q (.str (repOne x y)) H1
section
variable {X : Cx} {o : Expr} {to : TE} {y z : Str} {j k l : Nat} {c0 c1 c2 apos pos : Pos}
theorem pet_repl1 (ho : PE X o to) (hz : z = ⟨#[]⟩) (hyz : (y == (⟨#[]⟩ : Str)) = false) (hy : (y.length == 0) = false)
    (hst : starEach [.Constant (.str y) j c0, .Constant (.str z) k c1, .Constant (.int 1) l c2] X.env = [(false, eval (.Constant (.str y) j c0) X.env), (false, eval (.Constant (.str z) k c1) X.env), (false, eval (.Constant (.int 1) l c2) X.env)])
    (hbase : attributeBase o "replace" X.env (eval o X.env) = eval o X.env) (hline : (apos.endLine == pos.line) = true) :
    PET X (.Call (.Attribute o "replace" apos) [.Constant (.str y) j c0, .Constant (.str z) k c1, .Constant (.int 1) l c2] [] pos) (tRep1 to y) := by
  intro pins s σ H Q h0 I h
  refine PySem.wpAny_Call_method_lateS hbase (by rw [hst]; rfl) hline ?_
  rw [hst]
  refine (wpAny_mono (PySem.wpAny_toks (ho.run pins s σ H _ I h)) (fun v s1 q => ?_) fun _ _ z => z.2)
  obtain ⟨hk, v', H1, I1, r1, x, e1, hb, q⟩ := q
  subst e1
  obtain ⟨tx, e2⟩ := r1
  subst e2
  refine ⟨"str", _, PySem.F.plainAttrs_str, PySem.F.slot_str_replace, PySem.F.type_str_replace, typeIs_str _ _ _, (fun _ e => nomatch e), Calls.callWith_builtin rfl (Calls.evalArgs_plain (Calls.spliced_cons ?_))⟩
  refine Calls.Constant_str (k := j) (pos := c0) (Calls.spliced_cons (Calls.Constant_str (k := k) (pos := c1) (Calls.spliced_cons (PySem.wpAny_Constant_int (i := 1) (k := l) (pos := c2) (Calls.spliced_nil ?_)))))
  subst hz
  exact SC_replace1 (by show s1.toks ≠ 0; omega) (by show s1.toks + 1 ≠ 0; omega) (by show s1.toks ≠ s1.toks + 1; omega) hyz hy hb fun t' k => ⟨.str (repOne x y), H1, I1.tok k, ⟨t', rfl⟩, q⟩
end
theorem inK_ix_seq {X : Cx} {K : PySem.W.Frag} (e : X.K = K) : IxR X (rIx K) := e ▸ ix_seq
end Kx
namespace Kx
open PySem PySem.Spec PyProof.Rows L2 SX LamX
section
variable {X : Cx}
/-- repr of a text -/
def rReprS : List V → Hp → VK → Prop := fun xs H Q => ∃ (x : Str), xs = [.str x] ∧ (PyData.str x).shown.length ≤ sizeLine ∧ Q (.str (PyData.str x).shown) H
theorem call_reprS : CallR X (.builtin "repr") rReprS := by
  intro pins s σ H xs us Q I r h
  obtain ⟨x, rfl, hl, q⟩ := h
  obtain ⟨u, rfl, t, rfl⟩ := vals1 r
  exact PySem.P.repr_of_str (x := x) ⟨.str (PyData.str x).shown, H, I.tok _, ⟨_, rfl⟩, q⟩ hl
end
/-- repr(x) != repr(y), of one and the same text -/
theorem nerepr_s {σ : L2.St} {H : Hp} {ta tb : TE} (l : List Nat) (hl : cdC l) (hm : l.length ≤ 1048576) {Q : Bool → Hp → Prop}
    (ha : ∀ Q : VK, (∀ H', Same H H' → Q (.str (S l)) H') → ta σ H Q)
    (hb : ∀ H0, Same H H0 → ∀ Q : VK, (∀ H', Same H0 H' → Q (.str (S l)) H') → tb σ H0 Q)
    (h : ∀ H', Same H H' → Q false H') : tTest (tOp rNe (tCB rReprS (tCons ta tNil)) (tCB rReprS (tCons tb tNil))) σ H Q := by
  have sz := (sh_str (x := S l) rfl hl).len hm
  refine go_test (go_op (go_cb (go_cons (ha _ fun H1 e1 => go_nil ⟨S l, rfl, sz, go_cb (go_cons (hb H1 e1 _ fun H2 e2 => go_nil ⟨S l, rfl, sz, rfl, false, ?_, h H2 (e1.trans e2)⟩))⟩))))
  rw [ne_self]
def rev3G {α : Type} (us ws : List α) : List α := match us, ws with | [], [c, b, a] => [a, b, c] | _, _ => []
theorem kb_rev3 {K : PySem.W.Frag} {x qual : Str} {st : Stmt} {f : Addr} {fd : FuncData} {a b c : Str} (F : Fun K x qual st f fd)
    (h : ∀ (kV doc pm : Value) (an : Option Addr) (cdv ct : Value) (u v w : Value), bindArgs (PySem.W.fnOf x qual (defArgs st) (defBody st) (defScope st) .none kV doc pm an cdv ct) ⟨[], [(c, w), (b, v), (a, u)]⟩ = pure [(a, u), (b, v), (c, w)]) :
    KBinds K fd [a, b, c] [c, b, a] rev3G rev3G := by
  obtain ⟨oc, od, kV, doc, pm, an, cdv, ct, osl, rfl, lk, hcd⟩ := F.ex
  refine ⟨fun s us ws X l => ?_, fun {vs us zs ws} r1 r2 => ?_⟩
  · match us, ws, l with
    | [], [w, v, u], _ => exact .of_eq (h kV doc pm an cdv ct u v w)
    | [], [], l => cases l
    | [], [_], l => cases l
    | [], [_, _], l => cases l
    | [], _ :: _ :: _ :: _ :: _, l => cases l
    | _ :: _, _, l => cases l
  · cases r1 with
    | cons _ _ => exact .nil
    | nil =>
      cases r2 with
      | nil => exact .nil
      | cons h1 r2 =>
        cases r2 with
        | nil => exact .nil
        | cons h2 r2 =>
          cases r2 with
          | nil => exact .nil
          | cons h3 r2 =>
            cases r2 with
            | nil => exact .cons h3 (.cons h2 (.cons h1 .nil))
            | cons _ _ => exact .nil
end Kx
namespace Kx
open PySem PySem.Spec PyProof.Rows L2 SX LamX
/-! zip of a list with a tuple -/
def ItzM (K : PySem.W.Frag) (a b : Addr) : It where
  go i H := ∃ (xs ys : List V) (x y : V), SqL K H a xs ∧ SqT K H b ys ∧ xs[i]? = some x ∧ ys[i]? = some y
  yld i H v H' := ∃ T x y, v = .ref T ∧ H T = none ∧ H' = upd H T (.tup [x, y]) ∧ (∀ xs, SqL K H a xs → xs[i]? = some x) ∧ ∀ ys, SqT K H b ys → ys[i]? = some y
  stop i H := ∃ xs ys : List V, SqL K H a xs ∧ SqT K H b ys ∧ i = min xs.length ys.length
structure Aps (z TI TO i1 i2 a b : Addr) : Prop where
  s : ZipSep2 z TI TO i1 i2 [i1, a] [i2, b]
  a1 : a ≠ i1
  b2 : b ≠ i2
theorem aps_new {n a b : Nat} (ha : a < n) (hb : b < n) : Aps (n + 4) (n + 2) (n + 3) n (n + 1) a b := by
  have ne : ∀ {x y : Nat}, (x < y ∨ y < x) → (show Addr from x) ≠ y := fun {x y} h e => by
    have e : x = y := e
    omega
  have no : ∀ {x p q : Nat}, (x < p ∨ p < x) → (x < q ∨ q < x) → (show Addr from x) ∉ ([p, q] : List Addr) := fun h1 h2 m => by
    simp only [List.mem_cons, List.not_mem_nil, or_false] at m
    rcases m with e | e
    · exact ne h1 e
    · exact ne h2 e
  exact ⟨⟨ne (by omega), ne (by omega), ne (by omega), ne (by omega), List.mem_cons_self, no (by omega) (by omega), no (by omega) (by omega), ne (by omega), List.mem_cons_self, no (by omega) (by omega), no (by omega) (by omega), no (by omega) (by omega), no (by omega) (by omega)⟩, ne (by omega), ne (by omega)⟩
theorem turn_zipM {P : Program} {w : World} {K : PySem.W.Frag} {elts : List Expr} {kk : Nat} {tpos : Pos} {a b z TI TO i1 i2 : Addr} (D : Aps z TI TO i1 i2 a b) :
    Turn P w K (.Tuple elts kk tpos) (ItzM K a b) [z, TI, TO, i1, i2] z (fun i h => IsZip h z TI TO .none ∧ IsTupOf2 h TI (.ref i1) (.ref i2) ∧ (∃ x y, IsTupOf2 h TO x y) ∧ h.IsListIter i1 a i ∧ h.IsTupleIter i2 b i) where
  mem := List.mem_cons_self
  obj := fun i h ⟨hz, hI, ⟨x, y, hO⟩, ⟨o1, e1, _, d1⟩, ⟨o2, e2, _, d2⟩⟩ c hc => by
    simp only [List.mem_cons, List.not_mem_nil, or_false] at hc
    rcases hc with rfl | rfl | rfl | rfl | rfl
    · exact ⟨_, hz, fun v q => by cases q⟩
    · exact ⟨_, hI, fun v q => by cases q⟩
    · exact ⟨_, hO, fun v q => by cases q⟩
    · exact ⟨o1, e1, fun v q => by rw [d1] at q; cases q⟩
    · exact ⟨o2, e2, fun v q => by rw [d2] at q; cases q⟩
  keep := fun i h h' ⟨hz, hI, ⟨x, y, hO⟩, h1, h2⟩ k =>
    ⟨k z (by simp) _ hz, k TI (by simp) _ hI, ⟨x, y, k TO (by simp) _ hO⟩, h1.at fun o => k i1 (by simp) o, h2.at fun o => k i2 (by simp) o⟩
  item := by
    intro X hP hw hK hc i pins s σ H E I hf st hg
    subst hP hw hK
    obtain ⟨hz, hI, ⟨x0, y0, hO⟩, h1, h2⟩ := st
    obtain ⟨xs, ys, x, y, hqx, hqy, hx, hy⟩ := hg
    obtain ⟨us, rv, pl, _⟩ := I.list hqx
    obtain ⟨vs, rw_, pt, _⟩ := I.tuple hqy
    obtain ⟨u, hu, ru⟩ := rv.get hx
    obtain ⟨v, hv, rv'⟩ := rw_.get hy
    have lz : z < s.heap.objs.size := Heap.lt_size hz
    have hd : X.A.in1.handled = none := I.ok.hd hc
    have iu := (List.getElem?_eq_some_iff.mp hu).1
    have iv := (List.getElem?_eq_some_iff.mp hv).1
    refine wpAny_pyNext_zipD2_item D.s (Draws.list hd i1 a D.a1 us.toArray) (Draws.tuple hd i2 b D.b2 vs.toArray) hz hI hO ⟨h1, pl.isList⟩ ⟨h2, pt⟩ (by simpa using iu) (by simpa using iv) fun x1 x2 g tk e1 e2 g1 g2 g3 g4 g5 g6 gk => ?_
    have hu' : us.toArray[i]? = some u := by simpa using hu
    have hv' : vs.toArray[i]? = some v := by simpa using hv
    rw [hu'] at e1
    rw [hv'] at e2
    cases e1
    cases e2
    refine ⟨_, rfl, wpAny_letOwnedTupleGo_zip (s := { s with heap := g, toks := tk }) g1 fun k k1 sb => ?_⟩
    have kT : k.get? s.heap.objs.size = some { cls := .type "tuple", data := .seq #[u, v] } := (sb.2 _ (Nat.ne_of_gt lz)).trans g5
    have lt : ∀ c ∈ [z, TI, TO, i1, i2], c < s.heap.objs.size := fun c hc => by
      simp only [List.mem_cons, List.not_mem_nil, or_false] at hc
      rcases hc with rfl | rfl | rfl | rfl | rfl
      · exact lz
      · exact Heap.lt_size hI
      · exact Heap.lt_size hO
      · obtain ⟨_, e, _⟩ := h1
        exact Heap.lt_size e
      · obtain ⟨_, e, _⟩ := h2
        exact Heap.lt_size e
    have J : Inv X pins σ (upd H s.heap.objs.size (.tup [x, y])) { s with heap := k, toks := tk } :=
      I.turnedNew (t' := tk) (ch := [z, TI, TO, i1, i2]) (fun c o hb q => by
        simp only [List.mem_cons, List.not_mem_nil, or_false, not_or] at hb
        exact (sb.2 c hb.1).trans (gk c o hb.1 hb.2.2.1 hb.2.2.2.1 hb.2.2.2.2 q)) hf (Nat.le_refl _) ⟨by show 2 ≤ sizeLine; decide, [u, v], .cons ru (.cons rv' .nil), ⟨_, kT, rfl, _, rfl⟩⟩
    refine ⟨.ref s.heap.objs.size, _, J, rfl, ⟨_, x, y, rfl, I.hok.fresh (Nat.le_refl _), rfl, fun l hl => by rw [I.list_inj hl hqx]; exact hx, fun l hl => by rw [I.tuple_inj hl hqy]; exact hy⟩,
      ⟨k1, (sb.2 _ D.s.TIz).trans (gk _ _ D.s.TIz D.s.TITO D.s.TIi1 D.s.TIi2 hI), ⟨u, v, (sb.2 _ D.s.TOz).trans g2⟩, g3.1.at fun o q => (sb.2 _ D.s.zi1.symm).trans q, g4.1.at fun o q => (sb.2 _ D.s.zi2.symm).trans q⟩, fun c hc => ?_⟩
    rw [upd_ne (Nat.ne_of_lt (lt c hc))]
    exact (hf c hc).1
  done := by
    intro X hP hw hK hc i pins s σ H E I hf st hg
    subst hP hw hK
    obtain ⟨hz, hI, ⟨x0, y0, hO⟩, h1, h2⟩ := st
    obtain ⟨xs, ys, hqx, hqy, hend⟩ := hg
    obtain ⟨us, rv, pl, _⟩ := I.list hqx
    obtain ⟨vs, rw_, pt, _⟩ := I.tuple hqy
    have l1 := rv.length
    have l2 := rw_.length
    have hd : X.A.in1.handled = none := I.ok.hd hc
    exact wpAny_pyNext_zipD2_end D.s (Draws.list hd i1 a D.a1 us.toArray) (Draws.tuple hd i2 b D.b2 vs.toArray) hz hI hO ⟨h1, pl.isList⟩ ⟨h2, pt⟩ (by simp; omega) (by simp; omega) (by simp; omega) fun g tk gk =>
      ⟨rfl, I.turnedL (t' := tk) (ch := [z, TI, TO, i1, i2]) (fun c o hb q => by
        simp only [List.mem_cons, List.not_mem_nil, or_false, not_or] at hb
        exact gk c o hb.1 hb.2.2.1 hb.2.2.2.1 hb.2.2.2.2 q) hf⟩
  self := fun A i s Q E st h => wpAny_pyIter_zip st.1 h
/-- zip(LIST, LIST OR TUPLE) -/
def iZipM (K : PySem.W.Frag) (ta : TA) : TI := fun σ H R => ta σ H fun vs H1 => ∃ a b xs ys, vs = [.ref a, .ref b] ∧ SqL K H1 a xs ∧ ((SqL K H1 b ys ∧ R (Itz K a b) H1) ∨ (SqT K H1 b ys ∧ R (ItzM K a b) H1))
theorem pi_zipM {X : Cx} {e e2 : Expr} {ta : TA} {p pos tpos : Pos} {elts : List Expr} {kk : Nat} (hg : Gl X "zip") (hm : X.mg "zip" = none) (ha : PA X [e, e2] ta)
    (st : starEach [e, e2] X.env = (false, eval e X.env) :: starEach [e2] X.env := by rfl) (pl : (backTo pos (starEach [e2] X.env)).any (·.1) = false := by rfl) :
    PI X (.Tuple elts kk tpos) (.Call (.Name "zip" p) [e, e2] [] pos) (iZipM X.K ta) := by
  constructor
  intro pins s σ H R I h
  refine Call_ (ld_blt I hg hm PyProof.Rows.boot_zip (PyProof.Rows.callWith_type1 (thn (ha.run pos pins s σ H _ I h) fun us s1 hq => ?_) st pl))
  obtain ⟨vs, H1, I1, r1, a, b, xs, ys, rfl, hx, q⟩ := hq
  obtain ⟨ua, ub, rfl, ra, rb⟩ : ∃ x y, us = [x, y] ∧ RelV (.ref a) x ∧ RelV (.ref b) y := by
    match us, r1 with
    | [x, y], .cons h1 (.cons h2 .nil) => exact ⟨x, y, rfl, h1, h2⟩
  cases ra
  cases rb
  have up : ∀ c, s1.heap.objs.size ≤ c → FpOk X pins H1 c := fun c l => I1.fpOk l (I1.hok.fresh l)
  have ups : ∀ c ∈ [s1.heap.objs.size + 4, s1.heap.objs.size + 2, s1.heap.objs.size + 3, s1.heap.objs.size, s1.heap.objs.size + 1], FpOk X pins H1 c := fun c m => up c (by
    simp only [List.mem_cons, List.not_mem_nil, or_false] at m
    rcases m with e | e | e | e | e <;> rw [e] <;> first | exact Nat.le_refl _ | exact Nat.le_add_right _ _)
  obtain ⟨us, rv, pa, _⟩ := I1.list hx
  rcases q with ⟨hy, q⟩ | ⟨hy, q⟩
  · obtain ⟨vs, rw_, pb, _⟩ := I1.list hy
    refine call_zip_2 pa.isList pb.isList fun g g1 g2 g3 g4 g5 _ gk => wpAny_pyIter_zip g1 ?_
    exact ⟨_, [s1.heap.objs.size + 4, s1.heap.objs.size + 2, s1.heap.objs.size + 3, s1.heap.objs.size, s1.heap.objs.size + 1], _, _, H1, rfl, I1.kept (t' := s1.toks) gk, turn_zip (PySem.W.ktu_apart _ a b pa.lt pb.lt), ⟨g1, g2, ⟨_, _, g3⟩, g4, g5⟩, ups, q⟩
  · obtain ⟨vs, rw_, pb, _⟩ := I1.tuple hy
    have lb : b < s1.heap.objs.size := by
      obtain ⟨_, e, _⟩ := id pb
      exact Heap.lt_size e
    refine zip_begins2 (begins_list a us.toArray) (begins_tuple b vs.toArray) pa.isList pb fun g g1 g2 g3 g4 g5 _ gk => wpAny_pyIter_zip g1 ?_
    exact ⟨_, [s1.heap.objs.size + 4, s1.heap.objs.size + 2, s1.heap.objs.size + 3, s1.heap.objs.size, s1.heap.objs.size + 1], _, _, H1, rfl, I1.kept (t' := s1.toks) gk, turn_zipM (aps_new pa.lt lb), ⟨g1, g2, ⟨_, _, g3⟩, ⟨_, g4, rfl, rfl⟩, ⟨_, g5, rfl, rfl⟩⟩, ups, q⟩
theorem walk_zipM {K : PySem.W.Frag} {a b : Addr} {xs ys : List V} {n : Nat} (hn : n = min xs.length ys.length) : Walk (ItzM K a b) n (fun H => SqL K H a xs ∧ SqT K H b ys) (YPair (fun i => xs[i]?) (fun i => ys[i]?)) where
  goes i H hi q := ⟨xs, ys, xs[i]'(by omega), ys[i]'(by omega), q.1, q.2, List.getElem?_eq_getElem (by omega), List.getElem?_eq_getElem (by omega)⟩
  stops H q := ⟨xs, ys, q.1, q.2, hn⟩
  yields i H v H' _ q y := by
    obtain ⟨T, x, z, h1, h2, h3, h4, h5⟩ := y
    exact ⟨T, x, z, h1, h2, h3, h4 xs q.1, h5 ys q.2⟩
section
variable {K : PySem.W.Frag} {a b : Addr} {xs ys : List V} {g : TG} {tt : TT} {te : TE} {vs : List Nat} {σ : L2.St} {H : Hp} {k l : Nat} {Q : VK}
/-- [e for x, y in zip(LIST NAME, SEQUENCE NAME)]: by the turn and the heap -/
theorem lc_zipM (hi : σ[k]? = some (some (.ref a))) (hj : σ[l]? = some (some (.ref b))) (hq : SqL K H a xs) (hp : SqQ K H b ys)
    (Pv : Addr → Nat → Hp → Prop) (h0 : ∀ D, H D = none → Pv D 0 (upd H D (.lst []))) (hG : ∀ D i H', Pv D i H' → Same H H')
    (hs : ∀ D i x y t H', H D = none → xs[i]? = some x → ys[i]? = some y → Pv D i H' → H' t = none → g (.ref t) (wipe σ vs) (upd H' t (.tup [x, y])) fun σ2 H2 => wipe σ2 vs = wipe σ vs ∧ tt σ2 H2 fun b H3 => if b = true then te σ2 H3 fun y H4 => ∃ acc, H4 D = some (.lst acc) ∧ acc.length < sizeLine ∧ Pv D (i + 1) (upd H4 D (.lst (acc ++ [y]))) else Pv D (i + 1) H3)
    (hd : ∀ D H', H D = none → Pv D (min xs.length ys.length) H' → Q (.ref D) H') : tLc (iZipM K (tCons (tVar k) (tCons (tVar l) tNil))) g tt te vs σ H Q := by
  rcases hp with hp | hp
  · exact ⟨_, hi, _, hj, a, b, xs, ys, rfl, hq, .inl ⟨hp, fun D nD => lc_it (walk_zip rfl) (Pv D) (h0 D nD) (fun i H' _ p => ⟨(hG D i H' p).seq hq, (hG D i H' p).seq hp⟩) (fun i x Hc Hx hi p y => by
      obtain ⟨t, x', y', rfl, nt, rfl, e1, e2⟩ := y
      exact hs D i x' y' t _ nD e1 e2 p nt) (fun H' p => hd D H' nD p)⟩⟩
  · exact ⟨_, hi, _, hj, a, b, xs, ys, rfl, hq, .inr ⟨hp, fun D nD => lc_it (walk_zipM rfl) (Pv D) (h0 D nD) (fun i H' _ p => ⟨(hG D i H' p).seq hq, Same.t (hG D i H' p) hp⟩) (fun i x Hc Hx hi p y => by
      obtain ⟨t, x', y', rfl, nt, rfl, e1, e2⟩ := y
      exact hs D i x' y' t _ nD e1 e2 p nt) (fun H' p => hd D H' nD p)⟩⟩
end
end Kx
namespace Kx
open PySem PySem.Spec PyProof.Rows L2 SX LamX
/-! ### a call of a name that holds one of some functions -/
/-- f, called with what sp wishes, gives what is promised -/
def RunF (X : Cx) (f : Addr) (sp : Sp) (E : XK) : Prop := PySem.W.keepIn X.K (.ref f) = true ∧ ∀ (pins : List (Addr × Obj)) (σ : L2.St) (H : Hp) (s : Shared) (Q : VK) (us : List Value) (vs : List V),
  Inv X pins σ H s → Vals vs us → sp vs H Q E → wpAny (model X.prog X.w) X.A (call (.ref f) us) (EP X pins σ Q) X.xe s
section
variable {X : Cx} {CX : CXT} {k i : Nat} {f : Addr} {fd : FuncData} {ps : List Str} {sp sp2 : Sp} {E : XK} {x : Str} {p pos : Pos} {e : Expr} {es : List Expr} {t : TA}
theorem RunF.of (F : FnOk X.prog X.w X.K X.mg X.base CX k f fd ps sp) (hr : Room k X.A) (hk : PySem.W.keepIn X.K (.ref f) = true) (hb : Binds X.K fd ps []) (hx : Passes CX X E) : RunF X f sp E :=
  ⟨hk, fun pins σ H s Q us vs I r h => run_fn F hr hb .nil hx I r (by rw [List.append_nil]; exact h)⟩
theorem RunF.mono (R : RunF X f sp E) (h : ∀ vs H Q, sp2 vs H Q E → sp vs H Q E) : RunF X f sp2 E := ⟨R.1, fun pins σ H s Q us vs I r q => R.2 pins σ H s Q us vs I r (h vs H Q q)⟩
theorem pe_callV {fs : List Addr} (hN : X.N[i]? = some x) (hv : Vis X.env.scope x) (hF : ∀ f ∈ fs, RunF X f sp E) (ha : PA X (e :: es) t) (hd : (x == ("__debug__" : Str)) = false := by decide) (hcd : (x == ("__classdict__" : Str)) = false := by decide)
    (he : starEach (e :: es) X.env = (false, eval e X.env) :: starEach es X.env := by rfl) (hpl : (backTo pos (starEach es X.env)).any (·.1) = false := by rfl) :
    PE X (.Call (.Name x p) (e :: es) [] pos) (fun σ H Q => ∃ f, f ∈ fs ∧ σ[i]? = some (some (.ref f)) ∧ t σ H fun vs H1 => sp vs H1 Q E) := by
  refine ⟨fun pins s σ H Q I h => ?_⟩
  obtain ⟨f, hf, hs, hq⟩ := h
  refine wpAny_Call_Name_kw (thn ((pe_var (pos := p) (i := i) hN hv hd hcd).run pins s σ H (fun v H1 => v = .ref f ∧ H1 = H) I ⟨.ref f, hs, rfl, rfl⟩) fun u s1 hh => ?_)
  obtain ⟨v, H1, I1, r1, rfl, rfl⟩ := hh
  obtain rfl : u = Value.ref f := r1
  refine PySem.W.callWith_K (h₀ := X.base) I1.ok.mod.kin (hF f hf).1 (thn (ha.run pos pins s1 σ H1 _ I1 hq) fun us s2 ⟨vs, H2, I2, r, q⟩ => ⟨I2.kIn, ?_⟩) he hpl
  exact (hF f hf).2 pins σ H2 s2 Q us vs I2 r q
end
end Kx
namespace Kx
open PySem PySem.Spec PyProof.Rows L2 SX LamX
/-! ### x[::2], a tuple -/
def evens {α : Type} : List α → List α
  | [] => []
  | [a] => [a]
  | a :: _ :: r => a :: evens r
theorem evens_len {α : Type} : ∀ xs : List α, (evens xs).length = (xs.length + 1) / 2
  | [] => by simp [evens]
  | [a] => by simp [evens]
  | a :: b :: r => by
    show (evens r).length + 1 = (r.length + 1 + 1 + 1) / 2
    rw [evens_len r]
    omega
theorem evens_pick {α : Type} : ∀ xs : List α, (List.range ((xs.length + 1) / 2)).filterMap (fun m => xs[2 * m]?) = evens xs
  | [] => by simp [evens]
  | [a] => by simp [evens, List.range_succ]
  | a :: b :: r => by
    have ih := evens_pick r
    have e : ((a :: b :: r).length + 1) / 2 = (r.length + 1) / 2 + 1 := by
      simp only [List.length_cons]
      omega
    rw [e, List.range_succ_eq_map, List.filterMap_cons, List.filterMap_map]
    show a :: List.filterMap ((fun m => (a :: b :: r)[2 * m]?) ∘ Nat.succ) (List.range ((r.length + 1) / 2)) = a :: evens r
    rw [← ih]
    congr 1
theorem adjust_two (n : Nat) : Builtin.Slice.sliceAdjust none none 2 (n : Int) = (0, (n : Int)) := rfl
theorem places_two (n : Nat) : Builtin.Slice.slicePlaces (0 : Int) (n : Int) 2 = (n + 1) / 2 := by
  unfold Builtin.Slice.slicePlaces
  have h1 : (2 : Int) > 0 := by omega
  simp only [h1, if_true]
  split <;> omega
section
variable {prog : Program} {w : World} {A : Around} {E : Value → Shared → Prop} {s : Shared}
theorem sliceApplied_two {sl : Addr} {vl vu vs : Value} {n : Nat} {Q : Int × Int × Nat → Shared → Prop} (hs : s.heap.IsSliceOf sl vl vu vs) (pl : IsPart vl none) (pu : IsPart vu none) (ps : IsPart vs (some 2))
    (h : Q (0, 2, (n + 1) / 2) s) : wpAny (model prog w) A (Builtin.Slice.sliceApplied (.ref sl) (pure (n : Int))) Q E s := by
  obtain ⟨os, hos, hcs, hds⟩ := id hs
  unfold Builtin.Slice.sliceApplied Builtin.Slice.sliceFields
  refine wpAny_bind (wpAny_bind (wpAny_field hos hds (x := vl) rfl (wpAny_bind (wpAny_field hos hds (x := vu) rfl (wpAny_bind (wpAny_field hos hds (x := vs) rfl (wpAny_pure ?_)))))))
  refine wpAny_bind (HT.slicePart_ ps ?_)
  show wpAny _ _ (if ((2 : Int) == 0) = true then _ else _) _ _ s
  rw [if_neg (by decide)]
  refine wpAny_bind (HT.slicePart_ pl (wpAny_bind (HT.slicePart_ pu (wpAny_bind (wpAny_pure ?_)))))
  show wpAny _ _ (match Builtin.Slice.sliceAdjust none none 2 (n : Int) with | (lo, hi) => pure (lo, (2 : Int), Builtin.Slice.slicePlaces lo hi 2)) _ _ s
  rw [adjust_two n]
  show wpAny _ _ (pure ((0 : Int), (2 : Int), Builtin.Slice.slicePlaces (0 : Int) (n : Int) 2)) _ _ s
  rw [places_two]
  exact wpAny_pure h
theorem pick_two (xs : Array Value) : ((List.range ((xs.size + 1) / 2)).filterMap fun (m : Nat) => xs[((0 : Int) + (m : Int) * 2).toNat]?).toArray = (evens xs.toList).toArray := by
  have e : (fun (m : Nat) => xs[((0 : Int) + (m : Int) * 2).toNat]?) = fun m => xs.toList[2 * m]? := by
    funext m
    have : ((0 : Int) + (m : Int) * 2).toNat = 2 * m := by omega
    rw [this, Array.getElem?_toList]
  rw [e, ← evens_pick, Array.length_toList]
theorem getItem_tuple_two {t sl : Addr} {items : Array Value} {vl vu vs : Value} {Q : Value → Shared → Prop} (ht : IsTup s.heap t items) (hs : s.heap.IsSliceOf sl vl vu vs) (pl : IsPart vl none) (pu : IsPart vu none) (ps : IsPart vs (some 2))
    (h : Q (.ref s.heap.objs.size) { s with heap := s.heap.push { cls := .type "tuple", data := .seq (evens items.toList).toArray } })
    (hsz : items.size ≤ sizeLine) : wpAny (model prog w) A (getItem (.ref t) (.ref sl)) Q E s := by
  have htake : sizeOk (.seq (evens items.toList).toArray) := by
    show (evens items.toList).toArray.size ≤ sizeLine
    rw [List.size_toArray, evens_len, Array.length_toList]
    omega
  obtain ⟨os, hos, hcs, hds⟩ := id hs
  have hTs : s.TypeIs (.ref sl) "slice" := ⟨os, hos, hcs⟩
  unfold getItem
  try with_reducible refine wpAny_holding ?_
  first | refine wpAny_bind (wpAny_pure ?_) | skip
  refine wpAny_bind (wpAny_sequenceKey ht.typeIs (by decide) ?_)
  refine wpAny_bind (wpAny_callSpecial?_slot (name := Str.ofString "__getitem__") ht.typeIs PyProof.Rows.slot_tuple_getitem
    (wpAny_call_entry PyProof.Rows.slot_tuple_getitem ht.typeIs entry_tuple_getitem ?_ (args_tuple_getitem _ _)))
  show wpAny _ _ (Builtin.Tuple.tupleItemsOf (.ref t) >>= _) _ _ s
  refine wpAny_bind (tupleItemsOf_ ht ?_)
  refine wpAny_bind (wpAny_typeOf hTs ?_)
  rw [if_pos (by decide)]
  refine wpAny_bind (sliceApplied_two hs pl pu ps ?_)
  show wpAny _ _ (if (((0 : Int)) == 0 && (2 : Int) == 1 && ((items.size + 1) / 2) == items.size) = true then _ else _) _ _ s
  rw [if_neg (by simp), pick_two]
  first
    | exact wpAny_bind (m := Builtin.Tuple.tupleExact _) (wpAny_newObj_type (wpAny_pure ⟨_, rfl, wpAny_pure h⟩) htake)
    | exact wpAny_bind (m := Builtin.Tuple.tupleExact _) (wpAny_newObj_type (wpAny_bind (wpAny_pure (wpAny_pure ⟨_, rfl, wpAny_pure h⟩))) htake)
    | exact wpAny_bind (wpAny_bind (m := Builtin.Tuple.tupleExact _) (wpAny_newObj_type (wpAny_pure (wpAny_pure ⟨_, rfl, wpAny_pure h⟩)) htake))
    | exact wpAny_bind (wpAny_bind (m := Builtin.Tuple.tupleExact _) (wpAny_newObj_type (wpAny_pure ⟨_, rfl, wpAny_pure h⟩) htake))
end
section
variable {X : Cx}
theorem evens_vals : ∀ {xs : List V} {us : List Value}, Vals xs us → Vals (evens xs) (evens us)
  | [], [], _ => .nil
  | [a], [u], h => h
  | a :: b :: r, u :: v :: s, .cons h1 (.cons h2 h3) => .cons h1 (evens_vals h3)
def tTwoT (K : PySem.W.Frag) (te : TE) : TE := fun σ H Q => te σ H fun x H1 => ∃ a xs, x = .ref a ∧ SqT K H1 a xs ∧ ∀ p, H1 p = none → Q (.ref p) (upd H1 p (.tup (evens xs)))
theorem pe_two {e : Expr} {te : TE} {k : Nat} {p1 p3 pos : Pos} (he : PE X e te) : PE X (.Subscript e (.Slice none none (some (.Constant (.int 2) k p1)) p3) pos) (tTwoT X.K te) := by
  refine ⟨fun pins s σ H Q I h => ?_⟩
  refine Subscript_ (thn (he.run pins s σ H _ I h) fun v s1 ⟨x, H1, I1, r1, q1⟩ => ?_)
  obtain ⟨a, xs, ex, hx, q⟩ := q1
  subst ex
  cases r1
  have hst : PO X (some (.Constant (.int 2) k p1)) (tPart (tC (.int 2))) := po_some pe_int
  refine wpAny_Slice (thn (po_none.run pins s1 σ H1 (fun o H2 => o = none ∧ H2 = H1) I1 ⟨rfl, rfl⟩) fun vl s2 ⟨l, H2, I2, pl, el, e2⟩ => ?_)
  subst el e2
  refine thn (po_none.run pins s2 σ H2 (fun o H3 => o = none ∧ H3 = H2) I2 ⟨rfl, rfl⟩) fun vu s3 ⟨u, H3, I3, pu, eu, e3⟩ => ?_
  subst eu e3
  refine thn (hst.run pins s3 σ H3 (fun o H4 => o = some 2 ∧ H4 = H3) I3 ⟨2, rfl, rfl, rfl⟩) fun vs s4 ⟨o, H4, I4, ps, eo, e4⟩ => ?_
  subst eo e4
  have I5 : Inv X pins σ H4 { s4 with heap := s4.heap.push { cls := .type "slice", data := .fields #[vl, vu, vs] } } := I4.kept (t' := s4.toks) fun b ob q => Heap.get?_push_of_some _ q
  obtain ⟨its, r, ht, hz⟩ := I5.tuple hx
  have hlen : its.toArray.size = xs.length := by rw [List.size_toArray]; exact r.length.symm
  show wpAny (model X.prog X.w) X.A (subscriptTail e (.Slice none none (some (.Constant (.int 2) k p1)) p3) (.ref a) (.ref s4.heap.objs.size)) (EP X pins σ Q) X.xe { s4 with heap := s4.heap.push { cls := .type "slice", data := .fields #[vl, vu, vs] } }
  refine tail_any (ops := [.ref a, .ref s4.heap.objs.size]) ht.typeIs (PyProof.Rows.slot_tuple_getitem.lookup) ?_ (by with_unfolding_all rfl)
  refine getItem_tuple_two ht (Heap.IsSliceOf.new _ vl vu vs) pl pu ps ?_ (by rw [hlen]; exact hz)
  refine ⟨.ref _, _, I5.laid (t' := s4.toks) (o := .tup (evens xs)) (fun b ob q => Heap.get?_push_of_some _ q) (Nat.le_refl _) ?_, rfl, q _ (I5.hok.fresh (Nat.le_refl _))⟩
  exact ⟨by rw [evens_len]; omega, _, evens_vals r, IsTup.new _ _⟩
end
end Kx
namespace Kx
open PySem PySem.Spec PyProof.Rows L2 SX LamX
open PySem.W (EachIs)
/-! ### sorted texts, however many -/
def leT (a b : Str) : Bool := decide (a.cps.toList ≤ b.cps.toList)
theorem leT_enc : PySem.W.dataLe false (fun x : Str => PyData.str x) = leT := PySem.W.dataLe_str fun x : Str => x
def IsT (v : Value) (x : Str) : Prop := ∃ t, v = Value.str x t
theorem eachT : ∀ {vs : List Value} {xs : List Str}, StrsAre vs xs → EachIs IsT vs xs
  | _, _, .nil => .nil
  | _, _, .cons y t h => .cons ⟨t, rfl⟩ (eachT h)
theorem eachT_strs : ∀ {vs : List Value} {xs : List Str}, EachIs IsT vs xs → StrsAre vs xs
  | _, _, .nil => .nil
  | _, _, .cons ⟨t, e⟩ h => by subst e; exact .cons _ t (eachT_strs h)
theorem eachT_reads {h : Heap} : ∀ {vs : List Value} {xs : List Str}, EachIs IsT vs xs → EachIs (fun v x => ∃ as, Reads h v (PyData.str x) as) vs xs
  | _, _, .nil => .nil
  | _, _, .cons ⟨t, e⟩ r => by subst e; exact .cons ⟨[], .str _ _⟩ (eachT_reads r)
theorem eachT_readsN {h : Heap} {p : Addr} : ∀ {vs : List Value} {xs : List Str}, EachIs IsT vs xs → EachIs (fun v x => ∃ as, Reads h v (PyData.str x) as ∧ p ∉ as) vs xs
  | _, _, .nil => .nil
  | _, _, .cons ⟨t, e⟩ r => by subst e; exact .cons ⟨[], .str _ _, List.not_mem_nil⟩ (eachT_readsN r)
theorem alikeT (xs : List Str) : PySem.W.AllAlike (xs.map fun x : Str => PyData.str x) := PySem.W.AllAlike.of fun b b' => by simp only [PySem.W.alike]
theorem sortableT (xs : List Str) : PySem.W.Sortable (xs.map fun x : Str => PyData.str x) := PySem.W.Sortable.others fun b => ⟨(fun e => by cases e), fun xs e => by cases e⟩
section
variable {X : Cx}
theorem depthT (hu : X.A.units + 64 < cLine) (x : Str) : X.A.units + 2 + (PyData.str x).depth < cLine := by
  have : (PyData.str x).depth = 0 := by simp [PyData.depth]
  omega
theorem call_sortedT (hu : X.A.units + 64 < cLine) : CallR X (.builtin "sorted") (fun vs H Q => ∃ (a : Addr) (xs : List Str), vs = [V.ref a] ∧ SqL X.K H a (xs.map V.str) ∧ ∀ p, H p = none → Q (.ref p) (upd H p (.lst ((xs.mergeSort leT).map V.str)))) := by
  intro pins s σ H x us Q I r h
  obtain ⟨a, xs, rfl, hs, q⟩ := h
  obtain ⟨its, rv, hl, hz⟩ := I.list hs
  rw [Vals.ref1 r]
  have hlen0 := rv.length
  rw [List.length_map] at hlen0
  have eT := eachT rv.strs
  refine PySem.W.sorted_data (enc := fun x : Str => PyData.str x) (R := IsT) hl.isList eT (eachT_reads eT) (alikeT _) (sortableT _) (by rw [List.length_map] at hz; exact hz) (fun b _ => depthT hu b) fun out ho eo => ?_
  rw [leT_enc] at eo
  obtain ⟨ep, he'⟩ := PyProof.Rows.sortedAll_at s.heap its out.toArray
  have hlen : ((xs.mergeSort leT).map V.str).length ≤ sizeLine := by rw [List.length_map, List.length_mergeSort]; rw [List.length_map] at hz; exact hz
  exact ⟨.ref _, upd H (s.heap.objs.size + 1) (.lst ((xs.mergeSort leT).map V.str)), I.laid (t' := s.toks) (fun _ _ => PyProof.Rows.sortedAll_old) (Nat.le_succ _) ⟨hlen, out.toArray.toList, ep, vals_of_strs (by simpa using eachT_strs eo), he'⟩, rfl, q _ (I.hok.fresh (Nat.le_succ _))⟩
theorem call_sortedDT (hcalm : X.calm = true) (hu : X.A.units + 64 < cLine) : CallR X (.builtin "sorted") (fun xs H Q => ∃ (a : Addr) (kvs : List (Key × V)) (ks : List Str), xs = [.ref a] ∧ Rd H a (.dK kvs) ∧ kvs.map (·.1) = ks.map Sum.inr ∧
    ∀ p, H p = none → Q (.ref p) (upd H p (.lst ((ks.mergeSort leT).map V.str)))) := by
  intro pins s σ H xs us Q I r q
  obtain ⟨a, kvs, ks, ex, hd, hks, q⟩ := q
  subst ex
  obtain ⟨u, eu, rx⟩ := vals1 r
  subst eu
  cases rx
  obtain ⟨z, lo, vs, rel, dd⟩ := dk_rd I.hok hd
  obtain ⟨ep, hat⟩ := dd.dictAt
  have hkeys : vs.map (·.1) = ks.map Sum.inr := rel.keys.symm.trans hks
  have hl : vs.length = ks.length := by
    have e := congrArg List.length hkeys
    rw [List.length_map, List.length_map] at e
    exact e
  have h16 : vs.length ≤ sizeLine := by rw [← rel.length]; exact z
  refine Calls.call_function_entry PyProof.Rows.kind_sorted PyProof.Rows.plain_sorted PyProof.Rows.entry_sorted (PyProof.Rows.args_sorted1 _) ?_
  unfold Builtin.«sorted»
  refine wpAny_bind (m := checkCount "sorted" 1 1 _) (wpAny_pure ?_)
  refine wpAny_bind (PySem.W.kdu_collect (A := X.A.in1) (PySem.W.kdl_dict (knd := mixKind X.prog X.w) (kvs := vs) (ep := ep) lo) (I.ok.hd hcalm) hat h16 fun h' tk acc hk hacc => ?_)
  have hal : acc.toList.length = ks.length := by rw [Array.length_toList, hacc.1, hl]
  have hS : StrsAre acc.toList ks := strs_at hal fun j v e => by
    obtain ⟨k, x, e1, e2⟩ := hacc.2 j v (by rw [← Array.getElem?_toList]; exact e)
    have e3 : (vs.map (·.1))[j]? = some k := by rw [List.getElem?_map, e1]; all_goals rfl
    rw [hkeys, List.getElem?_map] at e3
    cases e4 : ks[j]? with
    | none => rw [e4] at e3; cases e3
    | some y =>
      rw [e4] at e3
      have e5 : Sum.inr y = k := Option.some.inj e3
      subst e5
      obtain ⟨t, ev⟩ := Value.isStrOf_shape (x := y) (v := v) e2
      exact ⟨y, t, rfl, ev⟩
  have hkl : ks.length ≤ sizeLine := by omega
  have I1 : Inv X pins σ H { s with heap := h', toks := tk } := I.kept hk
  refine wpAny_bind (wpAny_newList ?_ (by rw [hal]; exact hkl))
  have hoL : (h'.push (seqObj "list" acc.toList.toArray 0)).get? h'.objs.size = some (seqObj "list" acc.toList.toArray 0) := Heap.get?_push_size _ rfl
  show wpAny _ _ _ _ _ { s with heap := h'.push (seqObj "list" acc.toList.toArray 0), toks := tk }
  have eT := eachT hS
  refine wpAny_bind (wpAny_holding (PySem.W.list_sort_data (s := { s with heap := h'.push (seqObj "list" acc.toList.toArray 0), toks := tk }) (enc := fun x : Str => PyData.str x) (R := IsT) hoL eT ?er (alikeT _) (sortableT _) hkl (fun b _ => ?du) fun out ho eo => ?fin))
  case er => exact eachT_readsN eT
  case du =>
    have h1 : X.A.in1.units = X.A.units + 1 := rfl
    have : (PyData.str b).depth = 0 := by simp [PyData.depth]
    omega
  case fin =>
    rw [leT_enc] at eo
    obtain ⟨e', he'⟩ := PyProof.Rows.sortedHeap_at (vs := acc.toList) (out := out.toArray) hoL
    have hlen : ((ks.mergeSort leT).map V.str).length ≤ sizeLine := by rw [List.length_map, List.length_mergeSort]; exact hkl
    refine wpAny_pure ⟨_, rfl, .ref h'.objs.size, upd H h'.objs.size (.lst ((ks.mergeSort leT).map V.str)), I1.laid (t' := tk) (fun b u e => ?_) (Nat.le_refl _)
      (show ObjOk X.prog X.w _ _ _ (.lst ((ks.mergeSort leT).map V.str)) from ⟨hlen, out.toArray.toList, e', vals_of_strs (by simpa using eachT_strs eo), by rw [Array.toArray_toList]; exact he'⟩), rfl, q _ (I1.hok.fresh (Nat.le_refl _))⟩
    have hb : b < h'.objs.size := Heap.lt_size e
    show (sortedHeap (h'.push (seqObj "list" acc.toList.toArray 0)) h'.objs.size acc.toList out.toArray).get? b = some u
    rw [PyProof.Rows.sortedHeap_old (Nat.ne_of_lt hb) (by rw [size_push']; exact Nat.lt_succ_of_lt hb)]
    exact Heap.get?_push_of_some _ e
end
end Kx
namespace Kx
open PySem PySem.Spec PyProof.Rows L2 SX LamX
/-! ### len(set(text)) -/
def signsT (l : List Nat) : List Str := l.map fun c => S [c]
theorem signsT_at {l : List Nat} {t : Tok} {i : Nat} {v : Value} (h : PySem.SignAt (S l) i v) : ∃ x u, (signsT l)[i]? = some x ∧ v = .str x u := by
  obtain ⟨c, u, h1, h2⟩ := h
  have h5 : (S l).cps[i]? = l[i]? := by simp [S]
  rw [h5] at h1
  exact ⟨S [c], u, by unfold signsT; rw [List.getElem?_map, h1]; rfl, h2⟩
section
variable {prog : Program} {w : World} {A : Around} {E : Value → Shared → Prop} {s : Shared}
theorem call_set_text {l : List Nat} {t : Tok} {Q : Value → Shared → Prop} (hh : A.handled = none) (hb : l.length + 1 < scanBound)
    (h : ∀ (h' : Heap) (tk : Nat), MadeTx prog w s (signsT l) h' → Q (.ref s.heap.objs.size) { s with heap := h', toks := tk }) : wpAny (model prog w) A (call (.type "set") [.str (S l) t]) Q E s := by
  refine set_made (xs := signsT l) (fun led A' E' Q' hA q => ?_) h
  have isz : (S l).cps.size = (signsT l).length := by unfold signsT; simp [S]
  have isz2 : (S l).cps.size = l.length := by simp [S]
  have hS : (s.heap.push (freshSet led)).get? s.heap.objs.size = some (freshSet led) := Heap.get?_push_size _ rfl
  have hSf : s.heap.objs.size ∉ [(s.heap.push (freshSet led)).objs.size] := by
    rw [Heap.size_push]
    simp only [List.mem_cons, List.not_mem_nil, or_false]
    exact Nat.ne_of_lt (Nat.lt_succ_self _)
  have hh3 : A'.in1.handled = none := by simp [hA, hh]
  have done : ∀ (it : Obj) (s' : Shared), Moved (s.heap.objs.size :: [(s.heap.push (freshSet led)).objs.size]) (fun a b => b = a) { s with heap := (s.heap.push (freshSet led)).push it } s' → txSet prog w s'.heap s.heap.objs.size (onceS (signsT l)) →
      wpAny (model prog w) A' (ret Value.none) Q' E' s' := fun it s' hm hS' => by
    obtain ⟨h', g', d', tk', os'⟩ := s'
    have eg : g' = s.gens := hm.gens
    have ed : d' = s.drawn := hm.drawn
    have eo : os' = s.os := hm.os
    subst eg
    subst ed
    subst eo
    refine wpAny_pure (q h' tk' ⟨hS', fun b o e => ?_⟩)
    have hb0 : b < s.heap.objs.size := Heap.lt_size e
    have hb1 : b ≠ s.heap.objs.size := Nat.ne_of_lt hb0
    have hb2 : b ≠ (s.heap.push (freshSet led)).objs.size := by
      rw [Heap.size_push]
      exact Nat.ne_of_lt (Nat.lt_succ_of_lt hb0)
    exact hm.heap b o (by simp only [List.mem_cons, List.not_mem_nil, or_false, not_or]; exact ⟨hb1, hb2⟩) (Heap.get?_push_of_some _ (Heap.get?_push_of_some _ e))
  unfold Builtin.«set.__init__» noKeywords Builtin.Frozenset.updateFrom
  have hsls := PySem.F.sub_str_set
  have hslf := PySem.F.sub_str_frozenset
  have hne : (Value.type "str" == Value.type "dict") = false := by decide
  generalize hPI : pyIter = PI
  wp_walk
  subst hPI
  refine PySem.wpAny_pyIter_str fun o St W st0 => ?_
  refine wpAny_bind (wpAny_runValue ?_)
  refine upd_texts ((W _ hh3).toS) s.heap.objs.size hSf (signsT l) isz (fun i v hv => signsT_at (t := t) hv) (by omega) ((S l).cps.size - 0) 0 _ (by omega) (Nat.zero_le _) st0 ?_ (fun s' hm hS' => ?_)
  · have hget : ((s.heap.push (freshSet led)).push o).get? s.heap.objs.size = some (freshSet led) := Heap.get?_push_of_some _ hS
    exact PyProof.Rows.SetOf_congr ((PyProof.Rows.setObjOf_fresh (knd := PySem.strKind prog w) led).setOf hget (by unfold scanBound; omega)) (fun _ => rfl) rfl
  · exact wpAny_pure (done _ s' hm hS')
end
section
variable {X : Cx}
/-- len(set(e)), e a text -/
def tLenSetT (ta : TE) : TE := fun σ H Q => ta σ H fun x H1 => ∃ l : List Nat, x = .str (S l) ∧ l.length ≤ 4000 ∧ Q (.int ((onceS (signsT l)).length : Nat)) H1
theorem pe_lenSetT {a : Expr} {ta : TE} {p p2 q pos : Pos} (hg : Gl X "len") (hm : X.mg "len" = none) (hg2 : Gl X "set") (hm2 : X.mg "set" = none) (ha : PE X a ta) (hc : X.calm = true := by rfl)
    (na : starEach [a] X.env = (false, eval a X.env) :: starEach [] X.env := by rfl) : PE X (.Call (.Name "len" p) [.Call (.Name "set" p2) [a] [] q] [] pos) (tLenSetT ta) := by
  refine ⟨fun pins s σ H Q I h => ?_⟩
  refine Call_ (ld_blt I hg hm boot_len ?_)
  refine PyProof.Rows.callWith_builtin1 (PyProof.Rows.args_cons ?_ rfl) rfl rfl
  refine Call_ (ld_blt I hg2 hm2 boot_set ?_)
  refine PyProof.Rows.callWith_type1 (PyProof.Rows.args_cons (thn (ha.run pins s σ H _ I h) fun v s1 ⟨x, H1, I1, r1, q1⟩ => PyProof.Rows.args_nil ?_) na) na rfl
  obtain ⟨l, rfl, h1, q1⟩ := q1
  obtain ⟨t, rfl⟩ := r1
  refine call_set_text (I1.ok.hd hc) (by unfold scanBound; omega) fun h' tk m => ?_
  refine PyProof.Rows.args_nil ?_
  obtain ⟨⟨o, es, ep, t, ho, hex, hd, _, _, _, hf, hn⟩, hk⟩ := m
  have I2 : Inv X pins σ H1 { s1 with heap := h', toks := tk } := I1.kept fun b o e => hk b o e
  have h2 := onceS_le (signsT l)
  have h3 : (signsT l).length = l.length := by unfold signsT; rw [List.length_map]
  exact call_len_set ho hex hd hf (by rw [hn] <;> omega) ⟨.int ((onceS (signsT l)).length : Nat), H1, I2.tok _, ⟨_, by rw [hn]⟩, q1⟩
end
end Kx
namespace Kx
open PySem PySem.Spec PyProof.Rows L2 SX LamX
/-! ### an error class of the program: two fields -/
structure Er2 (K : PySem.W.Frag) (mg : Str → Option Value) (x qual : Str) (st : Stmt) (base f1 f2 : Str) where
  C : Addr
  L : Addr
  fI : Addr
  fd : FuncData
  gC : mg x = some (.ref C)
  gL : mg base = some (.ref L)
  oex : OexC K C
  iC : PySem.W.findIn K (.ref C) "__init__" = some (some (.ref fI))
  tI : PySem.W.typeIn K (.ref fI) = some (.type "function")
  F : Fun K "__init__" qual st fI fd
  b : Binds K fd ["self", f1, f2] []
  np : PySem.W.findIn K (.ref C) f1 = some none
  np2 : PySem.W.findIn K (.ref C) f2 = some none
  exc : ExcC K C
  xf : XfC K C
  em : PySem.W.exmOne K (.ref C) (.ref L) = some true
/-- its making, out of what the top left -/
def er2_mk {K : PySem.W.Frag} {h : Heap} {mg : Str → Option Value} (X : K.In h) (G : h.Ns mainGlobals mg) {x qual : Str} {st : Stmt} {base f1 f2 : Str} {C L fI N : Addr} {nm q : Str} {bs bm : List Value} {sn : List Str} {sub : List Value} {ab : Bool} {col : Option Bool} {dd : Option Addr} {m0 m1 m2 m3 m5 : Option Value}
    {od an : Option Addr} {sl : Array (Option Value)} {oc kV dc pm cd ct : Value} (aC : PySem.W.nsIn K mainGlobals x = some (some (.ref C))) (aL : PySem.W.nsIn K mainGlobals base = some (some (.ref L)))
    (xL : K.lookup C = some (excClassObj nm q C N bs bm true sn sub ab col dd m0 m1 m2 m3 m5 "ValueError.__new__")) (hbm : PySem.HandSPX.refsVE bm = true)
    (sa : PySem.W.findIn K (.ref C) "__setattr__" = some (some (.builtin "object.__setattr__"))) (eC : PySem.W.subIn K (.ref C) (.type "BaseException") = some true) (tC : PySem.W.typeIn K (.ref C) = some (.type "type")) (kC : PySem.W.keepIn K (.ref C) = true)
    (a1 : PySem.W.findIn K (.ref C) "__init__" = some (some (.ref fI))) (t1 : PySem.W.typeIn K (.ref fI) = some (.type "function"))
    (l1 : K.lookup fI = some ⟨oc, od, .func (PySem.W.fnOf "__init__" qual (defArgs st) (defBody st) (defScope st) .none kV dc pm an cd ct), sl⟩) (c1 : PySem.W.codeIn K cd qual = true) (k1 : PySem.W.keepIn K (.ref fI) = true)
    (b1 : ∀ (kV doc pm : Value) (an : Option Addr) (cdv ct : Value) (us : List Value), us.length = (["self", f1, f2] : List Str).length → bindArgs (PySem.W.fnOf "__init__" qual (defArgs st) (defBody st) (defScope st) .none kV doc pm an cdv ct) ⟨us, []⟩ = pure ((["self", f1, f2] : List Str).zip us))
    (nb : PySem.W.findIn K (.ref C) f1 = some none) (nb2 : PySem.W.findIn K (.ref C) f2 = some none) (ga : PySem.W.findIn K (.ref C) "__getattribute__" = some (some (.builtin "BaseException.__getattribute__"))) (gg : PySem.W.findIn K (.ref C) "__getattr__" = some none) (hd : PySem.W.hasDictIn K C = true)
    (hc : PySem.W.findIn K (.ref C) "__class__" = some (some (.builtin "object.__class__"))) (hn : PySem.W.specialIn K (.builtin "object.__class__") "__get__" = some (some (.builtin "getset_descriptor.__get__"))) (ht : PySem.W.takesIn K (.builtin "object.__class__") = some true)
    (hm : PySem.W.mroIn K C (.type "object") = some true) (eL : PySem.W.subIn K (.ref L) (.type "BaseException") = some true) (dL : PySem.W.hasDictIn K L = true) (tL : PySem.W.typeIn K (.ref L) = some (.type "type")) (sCL : PySem.W.subIn K (.ref C) (.ref L) = some true) : Er2 K mg x qual st base f1 f2 where
  C := C
  L := L
  fI := fI
  fd := _
  gC := PySem.W.mg_of X G aC
  gL := PySem.W.mg_of X G aL
  oex := ⟨⟨nm, q, N, bs, bm, sn, sub, ab, col, dd, m0, m1, m2, m3, m5, xL, hbm⟩, sa, eC, tC, kC⟩
  iC := a1
  tI := t1
  F := fun_mk (st := st) l1 c1 k1
  b := (fun_mk (st := st) l1 c1 k1).binds (ps := ["self", f1, f2]) b1
  np := nb
  np2 := nb2
  exc := ⟨ga, gg, eC, hd, hc, hn, ht, hm⟩
  xf := ⟨ga, gg, eC, hd⟩
  em := PySem.W.exm_ref eL dL tL sCL
/-- the promise of such an __init__ -/
def sp_init2 (K : PySem.W.Frag) (f1 f2 : Str) : Sp := fun vs H Q _ => ∃ (a C : Addr) (y z : V), vs = [.ref a, y, z] ∧ OexC K C ∧ PySem.W.findIn K (.ref C) f1 = some none ∧ PySem.W.findIn K (.ref C) f2 = some none ∧ H a = some (exo a C none) ∧
  ∀ dx, H dx = none → dx ≠ a → Q .non (upd (upd (upd H dx (exd dx [(f1, y)])) a (exo a C (some dx))) dx (exd dx [(f2, z), (f1, y)]))
section
variable {P : Program} {w : World} {K : PySem.W.Frag} {mg : Str → Option Value} {base : Heap}
/-- the body of such an __init__ -/
def IsInit2 (st : Stmt) (f1 f2 : Str) : Prop := ∃ p1 p2 p3 p4 p5 p6 p7 p8, defBody st = [.Assign [.Attribute (.Name "self" p1) f1 p2] (.Name f1 p3) p4, .Assign [.Attribute (.Name "self" p5) f2 p6] (.Name f2 p7) p8] ∧
  FnScope ["self", f1, f2] ["self", f1, f2] (defScope st) ∧ (defScope st).names.lookup ("self" : Str) = some .local ∧ (defScope st).names.lookup f1 = some .local ∧ (defScope st).names.lookup f2 = some .local ∧
  (f1 == ("__debug__" : Str)) = false ∧ (f1 == ("__classdict__" : Str)) = false ∧ (f2 == ("__debug__" : Str)) = false ∧ (f2 == ("__classdict__" : Str)) = false
theorem ok_init2 {x qual : Str} {st : Stmt} {bs f1 f2 : Str} (e : Er2 K mg x qual st bs f1 f2) (h : IsInit2 st f1 f2) : FnOk P w K mg base CX0 1 e.fI e.fd ["self", f1, f2] (sp_init2 K f1 f2) := by
  obtain ⟨p1, p2, p3, p4, p5, p6, p7, p8, hb, sc, v1, v2, v3, d1, d2, d3, d4⟩ := h
  refine e.F.ok sc (fun vs H Q E h => ?_) (fun cdv A outer s H vs Q E hr h => ?_)
  · obtain ⟨a, C, y, z, rfl, _⟩ := h
    rfl
  · obtain ⟨a, C, y, z, rfl, o, n1, n2, ha, q⟩ := h
    rw [hb]
    refine ⟨_, pss_cons (ps_ost (pv 0 rfl (.inl v1)) (pv 1 rfl (.inl v2) (hd := d1) (hcd := d2))) (pss_one (ps_ost (pv 0 rfl (.inl v1)) (pv 2 rfl (.inl v3) (hd := d3) (hcd := d4)))), ?_⟩
    refine ⟨y, rfl, .ref a, rfl, a, C, rfl, o, n1, .inl ⟨ha, fun dx hdx ne => ?_⟩⟩
    exact ⟨z, rfl, .ref a, rfl, a, C, rfl, o, n2, .inr ⟨dx, [(f1, y)], upd_same, by rw [upd_ne ne, upd_same], (show 1 ≤ 900 by decide), q dx hdx ne⟩⟩
end
theorem mk_part2 {K : PySem.W.Frag} {C : Addr} {f1 f2 : Str} {σ : L2.St} {H : Hp} {Q : XK} {v z : V} (o : OexC K C) (n : PySem.W.findIn K (.ref C) f1 = some none) (n2 : PySem.W.findIn K (.ref C) f2 = some none)
    (q : ∀ d H', Same H H' → H' d = some (.xd [(f2, z), (f1, v)]) → Q (.ref C) (some d) H') : tMkO C (sp_init2 K f1 f2) [] (tCons (tC v) (tCons (tC z) tNil)) σ H Q := by
  refine ⟨by show 2 ≤ 1000; decide, fun a na => ⟨a, C, v, z, rfl, o, n, n2, upd_same, fun dx nd hne => ⟨rfl, dx, [(f2, z), (f1, v)], ?_, upd_same, ?_, q dx _ ?_ upd_same⟩⟩⟩
  · rw [upd_ne (Ne.symm hne), upd_same]
  · rw [upd_ne hne] at nd
    exact nd
  · rw [upd_ne hne] at nd
    intro b u h
    rw [upd_ne (ne_of_none h nd)]
    show (if b = a then none else _) = some u
    rw [if_neg (ne_of_none h na), upd_ne (ne_of_none h nd), upd_ne (ne_of_none h na), upd_ne (ne_of_none h nd), upd_ne (ne_of_none h na)]
    exact h
/-- an error of two fields, told on -/
def RaisedTwo (E : XK) (C : Addr) (f1 f2 : Str) (H : Hp) (v z : V) : Prop := ∀ d H', Same H H' → H' d = some (.xd [(f2, z), (f1, v)]) → E (.ref C) (some d) H'
end Kx
namespace Kx
open PySem PySem.Spec PyProof.Rows L2 SX LamX
/-! ### d.update(e) -/
theorem putK_len {κ : Type} [DecidableEq κ] (kvs : List (κ × V)) (k : κ) (v : V) : (putK kvs k v).length ≤ kvs.length + 1 := by
  unfold putK
  split
  · rw [List.length_map]; omega
  · rw [List.length_append]; exact Nat.le_refl _
theorem mergeK_len : ∀ (more kvs : List (Key × V)), (mergeK kvs more).length ≤ kvs.length + more.length
  | [], kvs => Nat.le_refl _
  | p :: r, kvs => by
    have h1 := mergeK_len r (putK kvs p.1 p.2)
    have h2 := putK_len kvs p.1 p.2
    show (mergeK (putK kvs p.1 p.2) r).length ≤ _
    rw [List.length_cons]
    omega
def rDUpd : V → List V → Hp → VK → Prop := fun x vs H Q => ∃ (a b : Addr) (kvs more : List (Key × V)), x = .ref a ∧ vs = [.ref b] ∧ a ≠ b ∧ H a = some (.dK kvs) ∧ H b = some (.dK more) ∧ kvs.length + more.length ≤ sizeLine ∧ Q .non (upd H a (.dK (mergeK kvs more)))
theorem mtd_update {X : Cx} : MtR X "dict.update" rDUpd := by
  intro pins s σ H x vs v us Q I rx rv h
  obtain ⟨a, b, kvs, more, ex, ev, ne, e1, e2, hl, q⟩ := h
  subst ex
  subst ev
  obtain rfl : v = Value.ref a := rx
  obtain ⟨u, rfl, ru⟩ := vals1 rv
  obtain rfl : u = Value.ref b := ru
  obtain ⟨z1, hd1, vs1, rel1, dd1⟩ := dk_of I.hok e1
  obtain ⟨z2, hd2, vs2, rel2, dd2⟩ := dk_of I.hok e2
  refine call_meetsIn PySem.F.slot_dict_update dd1.typeIs PySem.F.entry_dict_update (PySem.F.args_dict_update_2 _ _) (meets_dict_update (mixKind X.prog X.w) a b ne hd2)
    ⟨vs1, vs2, dd1, dd2, by rw [← rel1.length, ← rel2.length]; exact hl, fun h' dd' _ hs => ?_⟩
  have he : ∃ q, h'.get? a = some q := let ⟨q, _, _, hq, _⟩ := dd'; ⟨q, hq⟩
  exact ⟨.non, _, d_write (t' := s.toks) I (by rw [e1]; exact True.intro) hs he (dk_new (Nat.le_trans (mergeK_len more kvs) hl) hd1 (rel2.merge rel1) dd'), rfl, q⟩
/-! ### a dict of the top with int keys -/
def keyI (e : DictEntry) : Option Int := match e.key with
  | .int i _ => if e.hash = hashInt i then some i else none
  | _ => none
def keysI (es : List DictEntry) : Bool := es.all fun e => (keyI e).isSome
def DctI (K : PySem.W.Frag) (a : Addr) (kvs : List (Int × V)) : Prop :=
  ∃ (es : Array DictEntry) (n : Nat), K.lookup a = some ⟨.type "dict", none, .dict es n, #[]⟩ ∧ keysI es.toList = true ∧ ∃ us : List Value, es.toList.map (fun e => (keyI e, e.val)) = (kvs.zip us).map (fun p => (some p.1.1, p.2)) ∧ Vals (kvs.map (·.2)) us
theorem keyI_some {e : DictEntry} {i : Int} (h : keyI e = some i) : (∃ t, e.key = .int i t) ∧ e.hash = hashInt i := by
  unfold keyI at h
  split at h
  · rename_i j t hk
    split at h
    · cases h
      exact ⟨⟨t, hk⟩, by assumption⟩
    · cases h
  · cases h
theorem dctI_find : ∀ (es : List DictEntry) (kvs : List (Int × V)) (us : List Value) (i : Int) (v : V), es.map (fun e => (keyI e, e.val)) = (kvs.zip us).map (fun p => (some p.1.1, p.2)) → Vals (kvs.map (·.2)) us → valV kvs i = some v →
    ∃ e, es.find? (fun e => e.key.isInt i) = some e ∧ RelV v e.val
  | es, [], us, i, v, _, _, h => by cases h
  | es, p :: r, [], i, v, _, hv, _ => by cases hv
  | [], p :: r, u :: us, i, v, h, _, _ => by cases h
  | e :: es, p :: r, u :: us, i, v, h, hv, hi => by
    simp only [List.map_cons, List.zip_cons_cons] at h
    injection h with h1 h2
    injection h1 with h3 h4
    obtain ⟨⟨t, hk⟩, _⟩ := keyI_some h3
    cases hv with
    | cons r1 r2 =>
      by_cases e1 : p.1 = i
      · refine ⟨e, ?_, ?_⟩
        · rw [List.find?_cons_of_pos]
          rw [hk]
          show (Value.int p.1 t).isInt i = true
          simp [Value.isInt, e1]
        · rw [valV_pos e1] at hi
          cases hi
          rw [h4]
          exact r1
      · rw [valV_neg e1] at hi
        obtain ⟨e', g1, g2⟩ := dctI_find es r us i v h2 r2 hi
        refine ⟨e', ?_, g2⟩
        rw [List.find?_cons_of_neg]
        · exact g1
        rw [hk]
        show ¬ (Value.int p.1 t).isInt i = true
        simp [Value.isInt, e1]
def rIxI (K : PySem.W.Frag) : R2 := fun x y H Q => ∃ (p : Addr) (kvs : List (Int × V)) (i : Int) (v : V), x = .ref p ∧ y = .int i ∧ DctI K p kvs ∧ valV kvs i = some v ∧ Q v H
section
variable {X : Cx}
theorem ix_dctI : IxR X (rIxI X.K) := by
  intro value slice pins s σ H x y v u Q I rx ry h hs
  obtain ⟨p, kvs, i, r, rfl, rfl, ⟨es, n, hl, hk, us, hm, hv⟩, e, q⟩ := h
  obtain rfl : v = Value.ref p := rx
  obtain ⟨t, rfl⟩ := ry
  obtain ⟨en, he, ru⟩ := dctI_find _ _ _ _ _ hm hv e
  have hmap : s.heap.MapOf (intKind X.prog X.w) p (fun k => findBy (intKind X.prog X.w).is es k) := ⟨_, es, n, I.kIn _ _ hl, ⟨rfl, rfl, rfl⟩, rfl, fun en hen => by
    have := List.all_eq_true.mp hk en (Array.mem_toList_iff.mpr hen)
    obtain ⟨j, hj⟩ := Option.isSome_iff_exists.mp this
    obtain ⟨⟨t, e1⟩, e2⟩ := keyI_some hj
    exact ⟨j, by rw [e1]; exact intKind_is X.prog X.w j t, e2⟩, fun _ => rfl⟩
  have hf : findBy (intKind X.prog X.w).is es i = some en.val := by
    unfold findBy
    have : es.find? (fun e => (intKind X.prog X.w).is i e.key) = some en := by
      rw [← Array.find?_toList]
      exact he
    rw [this]
    rfl
  exact tail_any hmap.typeIs slot_dict_getitem.lookup (wpAny_getItem_of (intKind_is X.prog X.w i t) hmap hf ⟨r, H, I.tok _, ru, q⟩) hs
end
/-! ### o.f within a target -/
def gFld (K : PySem.W.Frag) (ta : TE) (f : Str) : TG := fun v σ H Q => ta σ H fun x H1 => ∃ a C dx fs, x = .ref a ∧ H1 a = some (.ins C dx fs) ∧ Cls K C ∧ NoAttr K C f ∧ fs.length < 1000 ∧ Q σ (upd H1 a (.ins C dx (putF f v fs)))
section
variable {X : Cx} {o : Expr} {f : Str} {pos : Pos} {ta : TE}
theorem pg_fld (ha : PE X o ta) : PG X (.Attribute o f pos) (gFld X.K ta f) := by
  refine ⟨fun pins s σ H v u Q I r h => ?_⟩
  rw [assign_Attribute]
  refine wpAny_bind (wpAny_holding (thn (ha.run pins s σ H _ I h) fun ov s1 ⟨x, H1, I1, r1, a, C, dx, fs, ex, ea, c, n, l, q2⟩ => ?_))
  subst ex
  obtain rfl : ov = Value.ref a := r1
  refine wpAny_bind (wpAny_standAt (wpAny_bind (wpAny_holding (setattr_ok I1 ea c n l r fun s3 I3 => ?_))))
  exact wpAny_release ⟨σ, _, I3, q2⟩
end
/-! ### a call of a name that holds one of the functions of a table -/
section
variable {X : Cx} {i : Nat} {E : XK} {x : Str} {p pos : Pos} {e : Expr} {es : List Expr} {t : TA}
theorem pe_callF {D : Nat → Prop} {fa : Nat → Addr} {sps : Nat → Sp} (hN : X.N[i]? = some x) (hv : Vis X.env.scope x) (hF : ∀ n, D n → RunF X (fa n) (sps n) E) (ha : PA X (e :: es) t) (hd : (x == ("__debug__" : Str)) = false := by decide) (hcd : (x == ("__classdict__" : Str)) = false := by decide)
    (he : starEach (e :: es) X.env = (false, eval e X.env) :: starEach es X.env := by rfl) (hpl : (backTo pos (starEach es X.env)).any (·.1) = false := by rfl) :
    PE X (.Call (.Name x p) (e :: es) [] pos) (fun σ H Q => ∃ n, D n ∧ σ[i]? = some (some (.ref (fa n))) ∧ t σ H fun vs H1 => sps n vs H1 Q E) := by
  refine ⟨fun pins s σ H Q I h => ?_⟩
  obtain ⟨n, hf, hs, hq⟩ := h
  exact (pe_callV (fs := [fa n]) (sp := sps n) hN hv (fun f hm => by rw [List.mem_singleton.mp hm]; exact hF n hf) ha hd hcd he hpl).run pins s σ H Q I ⟨fa n, List.mem_singleton.mpr rfl, hs, hq⟩
end
end Kx
namespace Ms
structure Mst where
  block : Int
  room : Int
  tick : Bool
  flag : Bool
  test : Bool
  mode : Int
  first : Int
  second : Int
  cells : Int → Int
  heard : Nat
  said : List Int
  isd : Bool
def putC (f : Int → Int) (k v : Int) : Int → Int := fun c => if c = k then v else f c
/-- a word that wants the flag, which was up and is down now -/
def flagW (s : Mst) (n : Nat) (ns : List Int) : Mst :=
  if n = 4 then { s with first := s.first + s.second }
  else if n = 5 then { s with first := s.first - s.second }
  else if n = 6 then { s with first := s.first * s.second }
  else if n = 7 then { s with first := if s.second = 0 then 0 else s.first.fdiv s.second }
  else if n = 8 then { s with first := s.second, second := s.first }
  else if n = 9 then { s with first := if s.heard < ns.length then ns.getD s.heard 0 else 0, heard := if s.heard < ns.length then s.heard + 1 else s.heard }
  else if n = 10 then { s with said := s.said ++ [s.first] }
  else if n = 11 then { s with first := s.cells s.first }
  else { s with first := 8 * s.first + (n : Int) - 12 }
/-- a word that wants none -/
def bareW (s : Mst) (n : Nat) : Mst :=
  if n = 20 then { s with first := 0 }
  else if n = 21 then { s with second := s.first }
  else if n = 22 then { s with cells := putC s.cells s.second s.first }
  else if n = 23 then { s with test := decide (s.first = 0) }
  else if n = 24 then { s with test := decide (s.first < 0) }
  else if n < 28 then { s with mode := (n : Int) - 25 }
  else if n = 29 then { s with isd := true }
  else { s with room := if s.mode = 2 ∨ s.test = decide (s.mode = 0) then s.first else s.room }
def doW (ns : List Int) (s : Mst) (n : Nat) : Mst :=
  if s.isd = true then s
  else if n = 0 then { s with block := -1 }
  else if n = 1 then { s with tick := true }
  else if n = 2 then { s with block := if s.tick = true then s.block + 1 else s.block, tick := false }
  else if s.block ≠ s.room then s
  else if n = 3 then { s with flag := true }
  else if n < 20 then (if s.flag = true then flagW { s with flag := false } n ns else s)
  else bareW s n
theorem doW_twice (ns : List Int) (s : Mst) (n : Nat) (h : n < 30) : doW ns (doW ns s n) n = doW ns s n := by
  by_cases hd : s.isd = true
  · have e : doW ns s n = s := by unfold doW; rw [if_pos hd]
    rw [e, e]
  by_cases h0 : n = 0
  · subst h0; simp [doW, hd]
  by_cases h1 : n = 1
  · subst h1; simp [doW, hd]
  by_cases h2 : n = 2
  · subst h2; simp [doW, hd]
  by_cases hb : s.block ≠ s.room
  · have e : doW ns s n = s := by unfold doW; rw [if_neg hd, if_neg h0, if_neg h1, if_neg h2, if_pos hb]
    rw [e, e]
  by_cases h3 : n = 3
  · subst h3
    have hb : s.block = s.room := Decidable.not_not.mp hb
    simp [doW, hd, hb]
  by_cases h4 : n < 20
  · by_cases hf : s.flag = true
    · have e : doW ns s n = flagW { s with flag := false } n ns := by unfold doW; rw [if_neg hd, if_neg h0, if_neg h1, if_neg h2, if_neg hb, if_neg h3, if_pos h4, if_pos hf]
      have f : (flagW { s with flag := false } n ns).flag = false := by unfold flagW; (repeat' split) <;> rfl
      rw [e]
      unfold doW
      rw [f]
      simp only [h0, h1, h2, h3, h4, if_true, if_false, Bool.false_eq_true, ite_self]
    · have e : doW ns s n = s := by unfold doW; rw [if_neg hd, if_neg h0, if_neg h1, if_neg h2, if_neg hb, if_neg h3, if_pos h4, if_neg hf]
      rw [e, e]
  have hb : s.block = s.room := Decidable.not_not.mp hb
  have : n = 20 ∨ n = 21 ∨ n = 22 ∨ n = 23 ∨ n = 24 ∨ n = 25 ∨ n = 26 ∨ n = 27 ∨ n = 28 ∨ n = 29 := by omega
  rcases this with rfl | rfl | rfl | rfl | rfl | rfl | rfl | rfl | rfl | rfl
  · simp [doW, bareW, hd, hb]
  · simp [doW, bareW, hd, hb]
  · simp [doW, bareW, hd, hb]
    funext c
    simp only [putC]
    split <;> rfl
  · simp [doW, bareW, hd, hb]
  · simp [doW, bareW, hd, hb]
  · simp [doW, bareW, hd, hb]
  · simp [doW, bareW, hd, hb]
  · simp [doW, bareW, hd, hb]
  · by_cases hm : s.mode = 2 ∨ s.test = decide (s.mode = 0)
    · by_cases hr : s.room = s.first
      · simp [doW, bareW, hd, hb, hm, hr]
      · simp [doW, bareW, hd, hb, hm, hr]
    · simp [doW, bareW, hd, hb, hm]
  · simp [doW, bareW, hd, hb]
def doR (ns : List Int) (s : Mst) (row : List Nat) : Mst := row.foldl (doW ns) s
theorem doR_app (ns : List Int) (s : Mst) (a b : List Nat) : doR ns s (a ++ b) = doR ns (doR ns s a) b := List.foldl_append ..
theorem doR_rep (ns : List Int) (n : Nat) (h : n < 30) : ∀ (k : Nat) (s : Mst), doR ns s (List.replicate (k + 1) n) = doW ns s n
  | 0, s => rfl
  | k + 1, s => by
    show doR ns (doW ns s n) (List.replicate (k + 1) n) = _
    rw [doR_rep ns n h k, doW_twice ns s n h]
end Ms
namespace Ms
/-! ### the deed alone, and whether it is done -/
def rawW (ns : List Int) (s : Mst) (n : Nat) : Mst :=
  if n = 0 then { s with block := -1 }
  else if n = 1 then { s with tick := true }
  else if n = 2 then { s with block := if s.tick = true then s.block + 1 else s.block, tick := false }
  else if n = 3 then { s with flag := true }
  else if n < 20 then flagW s n ns
  else bareW s n
def mayB (s : Mst) (n : Nat) : Bool := !s.isd && (decide (n < 3) || decide (s.block = s.room)) && (!(decide (4 ≤ n) && decide (n ≤ 19)) || s.flag)
def mayS (s : Mst) (n : Nat) : Mst := if (!s.isd && decide (s.block = s.room) && (decide (4 ≤ n) && decide (n ≤ 19))) = true then { s with flag := false } else s
theorem doW_may (ns : List Int) (s : Mst) (n : Nat) : doW ns s n = if mayB s n = true then rawW ns (mayS s n) n else mayS s n := by
  have eta : s.flag = false → { s with flag := false } = s := fun h => by
    cases s
    cases h
    rfl
  unfold doW mayB mayS
  by_cases hd : s.isd = true
  · simp [hd]
  have hd : s.isd = false := by simpa using hd
  by_cases h0 : n = 0
  · subst h0; simp [hd, rawW]
  by_cases h1 : n = 1
  · subst h1; simp [hd, rawW]
  by_cases h2 : n = 2
  · subst h2; simp [hd, rawW]
  by_cases hb : s.block = s.room
  · by_cases h3 : n = 3
    · subst h3; simp [hd, hb, rawW]
    · by_cases h4 : n < 20
      · have h4' : 4 ≤ n := by omega
        have h5' : n ≤ 19 := by omega
        cases hf : s.flag with
        | true => simp [hd, h0, h1, h2, hb, h3, h4, h4', h5', rawW, hf]
        | false =>
          have e := eta hf
          have e2 : s = { block := s.room, room := s.room, tick := s.tick, flag := false, test := s.test, mode := s.mode, first := s.first, second := s.second, cells := s.cells, heard := s.heard, said := s.said, isd := false } := by
            cases s
            cases hb
            cases hd
            cases hf
            rfl
          simp only [hd, h0, h1, h2, hb, h3, h4, h4', h5', hf, Bool.false_eq_true, if_false, ne_eq, not_true_eq_false, if_true, Bool.not_false, decide_true, Bool.true_and, Bool.and_self, Bool.not_true, Bool.or_false, Bool.or_true, Bool.and_false, Bool.or_self]
          exact e2
      · have h5' : ¬ n ≤ 19 := by omega
        simp [hd, h0, h1, h2, hb, h3, h4, h5', rawW]
  · have h3 : ¬ n < 3 := by omega
    simp [hd, h0, h1, h2, hb, h3]
/-! ### how great numbers come to be -/
def Bi (b : Nat) (i : Int) : Prop := i.natAbs < 2 ^ b
theorem Bi.mono {a b : Nat} {i : Int} (h : Bi a i) (l : a ≤ b) : Bi b i := Nat.lt_of_lt_of_le h (Nat.pow_le_pow_right (by decide) l)
theorem Bi.add {a : Nat} {i j : Int} (h : Bi a i) (k : Bi a j) : Bi (a + 1) (i + j) := by
  unfold Bi at *
  rw [Nat.pow_succ]
  omega
theorem Bi.sub {a : Nat} {i j : Int} (h : Bi a i) (k : Bi a j) : Bi (a + 1) (i - j) := by
  unfold Bi at *
  rw [Nat.pow_succ]
  omega
theorem Bi.mul {a b : Nat} {i j : Int} (h : Bi a i) (k : Bi b j) : Bi (a + b) (i * j) := by
  unfold Bi at *
  rw [Int.natAbs_mul, Nat.pow_add]
  exact Nat.mul_lt_mul'' h k
theorem Bi.div {a : Nat} {i j : Int} (h : Bi a i) (hj : j ≠ 0) : Bi (a + 1) (i.fdiv j) := by
  unfold Bi at *
  rw [Nat.pow_succ]
  have : (i.fdiv j).natAbs ≤ i.natAbs + 1 := by
    have h1 := Int.natAbs_fdiv_le_natAbs i j
    omega
  have : 0 < 2 ^ a := Nat.pow_pos (by decide)
  omega
theorem Bi.eight {a : Nat} {i : Int} {d : Nat} (h : Bi a i) (hd : d < 8) : Bi (a + 3) (8 * i + d) := by
  unfold Bi at *
  rw [Nat.pow_add]
  show _ < 2 ^ a * 8
  omega
structure Bd (b : Nat) (s : Mst) : Prop where
  block : Bi b s.block
  room : Bi b s.room
  first : Bi b s.first
  second : Bi b s.second
  cells : ∀ c, Bi b (s.cells c)
  keys : ∀ c, s.cells c ≠ 0 → Bi b c
  said : ∀ i ∈ s.said, Bi b i
  mode : 0 ≤ s.mode ∧ s.mode ≤ 2
  heard : s.heard ≤ 100000
  low : -1 ≤ s.block
theorem Bd.mono {a b : Nat} {s : Mst} (h : Bd a s) (l : a ≤ b) : Bd b s :=
  ⟨h.block.mono l, h.room.mono l, h.first.mono l, h.second.mono l, fun c => (h.cells c).mono l, fun c z => (h.keys c z).mono l, fun i m => (h.said i m).mono l, h.mode, h.heard, h.low⟩
def grow (n b : Nat) : Nat := if n = 6 then 2 * b else b + 3
theorem bi_getD {b : Nat} {ns : List Int} (hn : ∀ i ∈ ns, Bi b i) (k : Nat) : Bi b (ns.getD k 0) := by
  rw [List.getD_eq_getElem?_getD]
  cases h : ns[k]? with
  | none => exact Nat.pow_pos (by decide)
  | some i => exact hn i (List.mem_of_getElem? h)
theorem bd_flag {b : Nat} {s : Mst} {n : Nat} {ns : List Int} (h : Bd b s) (hb : 3 ≤ b) (hn : ∀ i ∈ ns, Bi b i) (hl : ns.length ≤ 100000) (h4 : 4 ≤ n) (h20 : n < 20) : Bd (grow n b) (flagW s n ns) := by
  have z : Bi b 0 := Nat.pow_pos (by decide)
  have g : b ≤ grow n b := by unfold grow; split <;> omega
  have hg := h.mono g
  unfold flagW
  split
  · exact { hg with first := (h.first.add h.second).mono (by unfold grow; split <;> omega) }
  split
  · exact { hg with first := (h.first.sub h.second).mono (by unfold grow; split <;> omega) }
  split
  · rename_i e
    exact { hg with first := (h.first.mul h.second).mono (by unfold grow; rw [if_pos e]; omega) }
  split
  · refine { hg with first := ?_ }
    show Bi _ (if s.second = 0 then 0 else s.first.fdiv s.second)
    split
    · exact z.mono g
    · rename_i e
      exact (h.first.div e).mono (by unfold grow; split <;> omega)
  split
  · exact { hg with first := hg.second, second := hg.first }
  split
  · refine { hg with first := ?_, heard := ?_ }
    · show Bi _ (if s.heard < ns.length then ns.getD s.heard 0 else 0)
      split
      · exact (bi_getD hn _).mono g
      · exact z.mono g
    · show (if s.heard < ns.length then s.heard + 1 else s.heard) ≤ 100000
      split
      · omega
      · exact h.heard
  split
  · refine { hg with said := fun i m => ?_ }
    rcases List.mem_append.mp m with m | m
    · exact hg.said i m
    · rw [List.mem_singleton.mp m]
      exact hg.first
  split
  · exact { hg with first := hg.cells _ }
  · refine { hg with first := ?_ }
    obtain ⟨d, rfl⟩ : ∃ d, n = 12 + d := ⟨n - 12, by omega⟩
    have e : 8 * s.first + ((12 + d : Nat) : Int) - 12 = 8 * s.first + (d : Int) := by omega
    show Bi _ (8 * s.first + ((12 + d : Nat) : Int) - 12)
    rw [e]
    exact (h.first.eight (by omega)).mono (by unfold grow; split <;> omega)
theorem bd_bare {b : Nat} {s : Mst} {n : Nat} (h : Bd b s) (h20 : 20 ≤ n) : Bd b (bareW s n) := by
  have z : Bi b 0 := Nat.pow_pos (by decide)
  unfold bareW
  split
  · exact { h with first := z }
  split
  · exact { h with second := h.first }
  split
  · refine { h with cells := fun c => ?_, keys := fun c => ?_ }
    · show Bi b (putC s.cells s.second s.first c)
      unfold putC
      split
      · exact h.first
      · exact h.cells c
    · show putC s.cells s.second s.first c ≠ 0 → Bi b c
      unfold putC
      split
      · rename_i e
        exact fun _ => e ▸ h.second
      · exact h.keys c
  split
  · exact { h with }
  split
  · exact { h with }
  split
  · exact { h with mode := by show 0 ≤ (n : Int) - 25 ∧ (n : Int) - 25 ≤ 2; omega }
  split
  · exact { h with }
  · refine { h with room := ?_ }
    show Bi b (if _ then s.first else s.room)
    split
    · exact h.first
    · exact h.room
end Ms
namespace Ms
theorem bd_do {b : Nat} {s : Mst} {n : Nat} {ns : List Int} (h : Bd b s) (hb : 3 ≤ b) (hn : ∀ i ∈ ns, Bi b i) (hl : ns.length ≤ 100000) : Bd (grow n b) (doW ns s n) := by
  have g : b ≤ grow n b := by unfold grow; split <;> omega
  have hg := h.mono g
  have one : Bi (grow n b) (-1) := by
    unfold Bi
    exact Nat.lt_of_lt_of_le (show (-1 : Int).natAbs < 2 ^ 3 by decide) (Nat.pow_le_pow_right (by decide) (by omega))
  unfold doW
  split
  · exact hg
  split
  · exact { hg with block := one, low := Int.le_refl _ }
  split
  · exact { hg with }
  split
  · refine { hg with block := ?_, low := ?_ }
    · show Bi _ (if s.tick = true then s.block + 1 else s.block)
      split
      · exact (h.block.add (j := 1) (Nat.lt_of_lt_of_le (show (1 : Int).natAbs < 2 ^ 3 by decide) (Nat.pow_le_pow_right (by decide) hb))).mono (by unfold grow; split <;> omega)
      · exact hg.block
    · show -1 ≤ (if s.tick = true then s.block + 1 else s.block)
      have := h.low
      split <;> omega
  split
  · exact hg
  split
  · exact { hg with }
  split
  · split
    · exact bd_flag (s := { s with flag := false }) { h with } hb hn hl (by omega) (by assumption)
    · exact hg
  · exact (bd_bare h (by omega)).mono g
/-- a row without multiply, and one with one at most -/
def lastB : List Nat → Nat → Nat
  | [], b => b
  | n :: r, b => lastB r (grow n b)
theorem lastB_mono : ∀ (r : List Nat) (b : Nat), b ≤ lastB r b
  | [], b => Nat.le_refl _
  | n :: r, b => Nat.le_trans (by unfold grow; split <;> omega) (lastB_mono r (grow n b))
theorem bd_row {ns : List Int} (hl : ns.length ≤ 100000) : ∀ (r : List Nat) (b : Nat) (s : Mst), Bd b s → 3 ≤ b → (∀ i ∈ ns, Bi b i) → ∀ k, Bd (lastB r b) (doR ns s (r.take k))
  | [], b, s, h, hb, hn, k => by rw [List.take_nil]; exact h
  | n :: r, b, s, h, hb, hn, 0 => h.mono (lastB_mono (n :: r) b)
  | n :: r, b, s, h, hb, hn, k + 1 => by
    have g : b ≤ grow n b := by unfold grow; split <;> omega
    exact bd_row hl r (grow n b) (doW ns s n) (bd_do h hb hn hl) (by omega) (fun i m => (hn i m).mono g) k
theorem lastB_none : ∀ (r : List Nat) (b : Nat), 6 ∉ r → lastB r b = b + 3 * r.length
  | [], b, _ => by simp [lastB]
  | n :: r, b, h => by
    have h1 : n ≠ 6 := fun e => h (by rw [e]; exact List.mem_cons_self)
    show lastB r (grow n b) = _
    rw [lastB_none r _ fun m => h (List.mem_cons_of_mem _ m)]
    unfold grow
    rw [if_neg h1, List.length_cons]
    omega
theorem lastB_one : ∀ (r : List Nat) (b : Nat), r.count 6 ≤ 1 → lastB r b ≤ 2 * (b + 3 * r.length)
  | [], b, _ => by simp [lastB]; omega
  | n :: r, b, h => by
    show lastB r (grow n b) ≤ _
    by_cases h1 : n = 6
    · subst h1
      have h6 : 6 ∉ r := by
        rw [List.count_cons_self] at h
        exact List.count_eq_zero.mp (by omega)
      rw [lastB_none r _ h6]
      unfold grow
      rw [if_pos rfl, List.length_cons]
      omega
    · rw [List.count_cons_of_ne h1] at h
      have := lastB_one r (grow n b) h
      unfold grow at this ⊢
      rw [if_neg h1] at this ⊢
      rw [List.length_cons]
      omega
/-! ### cells -/
def lkp : List (Int × Int) → Int → Option Int
  | [], _ => none
  | p :: r, c => if p.1 = c then some p.2 else lkp r c
theorem lkp_none : ∀ {es : List (Int × Int)} {c : Int}, lkp es c = none ↔ c ∉ es.map (·.1)
  | [], c => by simp [lkp]
  | p :: r, c => by
    unfold lkp
    by_cases e : p.1 = c
    · simp [e]
    · rw [if_neg e, lkp_none]
      simp only [List.map_cons, List.mem_cons, not_or]
      exact ⟨fun h => ⟨fun z => e z.symm, h⟩, fun h => h.2⟩
theorem lkp_mem : ∀ {es : List (Int × Int)} {c v : Int}, (es.map (·.1)).Nodup → (lkp es c = some v ↔ (c, v) ∈ es)
  | [], c, v, _ => by simp [lkp]
  | p :: r, c, v, nd => by
    have nd' := List.nodup_cons.mp nd
    unfold lkp
    by_cases e : p.1 = c
    · rw [if_pos e]
      constructor
      · intro h
        cases h
        subst e
        exact List.mem_cons_self
      · intro h
        rcases List.mem_cons.mp h with h | h
        · rw [← h]
        · exact absurd (List.mem_map.mpr ⟨_, h, rfl⟩) (by rw [← e]; exact nd'.1)
    · rw [if_neg e, lkp_mem nd'.2]
      constructor
      · exact fun h => List.mem_cons_of_mem _ h
      · intro h
        rcases List.mem_cons.mp h with h | h
        · exact absurd (by rw [← h]) e
        · exact h
def putI (es : List (Int × Int)) (c v : Int) : List (Int × Int) := if (lkp es c).isSome = true then es.map (fun p => if p.1 = c then (p.1, v) else p) else es ++ [(c, v)]
theorem map_keys (es : List (Int × Int)) (c v : Int) : (es.map (fun p => if p.1 = c then (p.1, v) else p)).map (·.1) = es.map (·.1) := by
  rw [List.map_map]
  refine List.map_congr_left fun p _ => ?_
  show (if p.1 = c then (p.1, v) else p).1 = p.1
  split <;> rfl
theorem putI_nodup {es : List (Int × Int)} {c v : Int} (nd : (es.map (·.1)).Nodup) : ((putI es c v).map (·.1)).Nodup := by
  unfold putI
  split
  · rw [map_keys]; exact nd
  · rename_i h
    have hn : lkp es c = none := by cases hh : lkp es c with
      | none => rfl
      | some _ => rw [hh] at h; exact absurd rfl h
    rw [List.map_append]
    refine List.nodup_append.mpr ⟨nd, by simp, fun a ha b hb => ?_⟩
    rw [List.mem_singleton.mp hb]
    intro e
    rw [e] at ha
    exact lkp_none.mp hn ha
theorem lkp_map (c v d : Int) : ∀ es : List (Int × Int), lkp (es.map (fun p => if p.1 = c then (p.1, v) else p)) d = if d = c then (lkp es d).map (fun _ => v) else lkp es d
  | [] => by simp [lkp]
  | p :: r => by
    have ih := lkp_map c v d r
    rw [List.map_cons]
    unfold lkp
    by_cases e : p.1 = c
    · rw [if_pos e]
      show (if p.1 = d then some v else lkp _ d) = _
      by_cases e2 : p.1 = d
      · rw [if_pos e2, if_pos e2, if_pos (e2.symm.trans e)]
        rfl
      · rw [if_neg e2, if_neg e2]
        exact ih
    · rw [if_neg e]
      by_cases e2 : p.1 = d
      · rw [if_pos e2, if_pos e2, if_neg (fun z => e (e2.trans z))]
      · rw [if_neg e2, if_neg e2]
        exact ih
theorem lkp_app (c v d : Int) : ∀ es : List (Int × Int), lkp es c = none → lkp (es ++ [(c, v)]) d = if d = c then some v else lkp es d
  | [], _ => by
    show (if c = d then some v else none) = _
    by_cases e : c = d
    · rw [if_pos e, if_pos e.symm]
    · rw [if_neg e, if_neg (fun z => e z.symm)]
      rfl
  | p :: r, h => by
    unfold lkp at h
    by_cases e : p.1 = c
    · rw [if_pos e] at h
      cases h
    · rw [if_neg e] at h
      have ih := lkp_app c v d r h
      show (if p.1 = d then some p.2 else lkp (r ++ [(c, v)]) d) = if d = c then some v else (if p.1 = d then some p.2 else lkp r d)
      rw [ih]
      by_cases e2 : p.1 = d
      · rw [if_pos e2, if_pos e2, if_neg (fun z => e (e2.trans z))]
      · rw [if_neg e2, if_neg e2]
theorem lkp_put (es : List (Int × Int)) (c v d : Int) : lkp (putI es c v) d = if d = c then some v else lkp es d := by
  unfold putI
  split
  · rename_i h
    rw [lkp_map]
    by_cases e : d = c
    · rw [if_pos e, if_pos e, e]
      cases hh : lkp es c with
      | none => rw [hh] at h; cases h
      | some _ => rfl
    · rw [if_neg e, if_neg e]
  · rename_i h
    refine lkp_app c v d es ?_
    cases hh : lkp es c with
    | none => rfl
    | some _ => rw [hh] at h; exact absurd rfl h
theorem putI_len (es : List (Int × Int)) (c v : Int) : (putI es c v).length ≤ es.length + 1 := by
  unfold putI
  split
  · rw [List.length_map]; omega
  · rw [List.length_append]; exact Nat.le_refl _
def dropI (es : List (Int × Int)) (c : Int) : List (Int × Int) := es.filter fun p => decide (p.1 ≠ c)
theorem lkp_drop (c d : Int) : ∀ es : List (Int × Int), lkp (dropI es c) d = if d = c then none else lkp es d
  | [] => by simp [lkp, dropI]
  | p :: r => by
    have ih := lkp_drop c d r
    unfold dropI at ih ⊢
    by_cases e : p.1 = c
    · rw [List.filter_cons_of_neg (by simp [e]), ih]
      by_cases e2 : d = c
      · rw [if_pos e2, if_pos e2]
      · rw [if_neg e2, if_neg e2]
        unfold lkp
        rw [if_neg (fun z => e2 (z.symm.trans e))]
        cases r <;> rfl
    · rw [List.filter_cons_of_pos (by simp [e])]
      show (if p.1 = d then some p.2 else lkp (r.filter fun p => decide (p.1 ≠ c)) d) = if d = c then none else (if p.1 = d then some p.2 else lkp r d)
      rw [ih]
      by_cases e2 : p.1 = d
      · rw [if_pos e2, if_pos e2, if_neg (fun z => e (e2.trans z))]
      · rw [if_neg e2, if_neg e2]
theorem dropI_nodup {es : List (Int × Int)} {c : Int} (nd : (es.map (·.1)).Nodup) : ((dropI es c).map (·.1)).Nodup :=
  List.Sublist.nodup (List.Sublist.map _ (List.filter_sublist ..)) nd
/-- cells as the law keeps them, and as a work keeps them -/
structure CellsL (es : List (Int × Int)) (f : Int → Int) : Prop where
  nd : (es.map (·.1)).Nodup
  at_ : ∀ c, (lkp es c).getD 0 = f c
structure CellsW (es : List (Int × Int)) (f : Int → Int) : Prop where
  nd : (es.map (·.1)).Nodup
  no : ∀ p ∈ es, p.2 ≠ 0
  at_ : ∀ c, (lkp es c).getD 0 = f c
theorem CellsL.put {es : List (Int × Int)} {f : Int → Int} (h : CellsL es f) (c v : Int) : CellsL (putI es c v) (putC f c v) := by
  refine ⟨putI_nodup h.nd, fun d => ?_⟩
  rw [lkp_put]
  unfold putC
  split
  · rfl
  · exact h.at_ d
theorem CellsW.put {es : List (Int × Int)} {f : Int → Int} (h : CellsW es f) (c : Int) {v : Int} (hv : v ≠ 0) : CellsW (putI es c v) (putC f c v) := by
  have h2 := (CellsL.put ⟨h.nd, h.at_⟩ c v)
  refine ⟨h2.nd, fun p hp => ?_, h2.at_⟩
  obtain ⟨a, b⟩ := p
  have := (lkp_mem h2.nd).mpr hp
  rw [lkp_put] at this
  split at this
  · cases this
    exact hv
  · exact h.no _ ((lkp_mem h.nd).mp this)
theorem CellsW.drop {es : List (Int × Int)} {f : Int → Int} (h : CellsW es f) (c : Int) : CellsW (dropI es c) (putC f c 0) := by
  refine ⟨dropI_nodup h.nd, fun p hp => h.no p (List.mem_filter.mp hp).1, fun d => ?_⟩
  rw [lkp_drop]
  unfold putC
  split
  · rfl
  · exact h.at_ d
theorem CellsW.skip {es : List (Int × Int)} {f : Int → Int} (h : CellsW es f) {c : Int} (hc : lkp es c = none) : CellsW es (putC f c 0) := by
  refine ⟨h.nd, h.no, fun d => ?_⟩
  unfold putC
  split
  · rename_i e
    rw [e, hc]
    rfl
  · exact h.at_ d
/-- cells, ascending -/
structure IsC (l : List (Int × Int)) (f : Int → Int) : Prop where
  up : l.Pairwise fun p q => p.1 < q.1
  mem : ∀ c v, (c, v) ∈ l ↔ f c = v ∧ v ≠ 0
theorem isC_uniq {f : Int → Int} : ∀ {l m : List (Int × Int)}, l.Pairwise (fun p q => p.1 < q.1) → m.Pairwise (fun p q => p.1 < q.1) → (∀ p, p ∈ l ↔ p ∈ m) → l = m
  | [], [], _, _, _ => rfl
  | [], q :: m, _, _, h => absurd ((h q).mpr List.mem_cons_self) (by simp)
  | p :: l, [], _, _, h => absurd ((h p).mp List.mem_cons_self) (by simp)
  | p :: l, q :: m, hl, hm, h => by
    have hl' := List.pairwise_cons.mp hl
    have hm' := List.pairwise_cons.mp hm
    have e : p = q := by
      rcases List.mem_cons.mp ((h p).mp List.mem_cons_self) with e | h1
      · exact e
      · rcases List.mem_cons.mp ((h q).mpr List.mem_cons_self) with e | h2
        · exact e.symm
        · have a := hm'.1 _ h1
          have b := hl'.1 _ h2
          omega
    subst e
    rw [isC_uniq (f := f) hl'.2 hm'.2 fun x => ?_]
    constructor
    · intro hx
      rcases List.mem_cons.mp ((h x).mp (List.mem_cons_of_mem _ hx)) with e | h1
      · have := hl'.1 _ hx
        rw [e] at this
        omega
      · exact h1
    · intro hx
      rcases List.mem_cons.mp ((h x).mpr (List.mem_cons_of_mem _ hx)) with e | h1
      · have := hm'.1 _ hx
        rw [e] at this
        omega
      · exact h1
theorem IsC.uniq {l m : List (Int × Int)} {f : Int → Int} (h : IsC l f) (k : IsC m f) : l = m := isC_uniq (f := f) h.up k.up fun p => (h.mem p.1 p.2).trans (k.mem p.1 p.2).symm
theorem CellsL.mem {es : List (Int × Int)} {f : Int → Int} (h : CellsL es f) (c v : Int) : (c, v) ∈ es.filter (fun p => decide (p.2 ≠ 0)) ↔ f c = v ∧ v ≠ 0 := by
  rw [List.mem_filter, ← lkp_mem h.nd, ← h.at_]
  simp only [decide_eq_true_eq]
  constructor
  · rintro ⟨h1, h2⟩
    rw [h1]
    exact ⟨rfl, h2⟩
  · rintro ⟨h1, h2⟩
    refine ⟨?_, h2⟩
    cases hh : lkp es c with
    | none => rw [hh] at h1; exact absurd h1.symm h2
    | some w =>
      rw [hh] at h1
      exact congrArg some h1
theorem CellsW.mem {es : List (Int × Int)} {f : Int → Int} (h : CellsW es f) (c v : Int) : (c, v) ∈ es ↔ f c = v ∧ v ≠ 0 := by
  have h1 := CellsL.mem ⟨h.nd, h.at_⟩ c v
  rw [← h1, List.mem_filter]
  simp only [decide_eq_true_eq]
  exact ⟨fun m => ⟨m, h.no _ m⟩, fun m => m.1⟩
/-- what is sorted of unlike keys ascends -/
theorem isC_of {l es : List (Int × Int)} {f : Int → Int} (hp : l.Perm es) (nd : (es.map (·.1)).Nodup) (hm : ∀ c v, (c, v) ∈ es ↔ f c = v ∧ v ≠ 0) (hs : l.Pairwise fun p q => p.1 ≤ q.1) : IsC l f := by
  refine ⟨?_, fun c v => (hp.mem_iff).trans (hm c v)⟩
  have nd2 : (l.map (·.1)).Nodup := (hp.map _).nodup_iff.mpr nd
  have nd3 := List.pairwise_map.mp nd2
  exact (hs.and nd3).imp fun h => by omega
end Ms
namespace Kx
open PySem PySem.Spec PyProof.Rows L2 SX LamX Ms
/-! ### // of great ints, any sign -/
def CDivA (_ j : Int) : Prop := j ≠ 0 ∧ j.natAbs.log2 < 9000
theorem op_fdivA {X : Cx} : OpR X (binaryOp .FloorDiv) (rI CDivA fun i j => .int (i.fdiv j)) := opI fun i j _ _ _ _ _ hc q => by
  exact floordiv_int hc.1 q (.inl (PyProof.noPylong_of_log2 hc.2))
theorem log_lt {b k : Nat} {i : Int} (h : Bi b i) (hb : b ≤ k) (hk : 0 < k) : i.natAbs.log2 < k := by
  by_cases z : i.natAbs = 0
  · rw [z]
    exact Nat.lt_of_le_of_lt (show Nat.log2 0 ≤ 0 by decide) hk
  · exact (Nat.log2_lt z).mpr (h.mono hb)
theorem cdivA {b : Nat} {i j : Int} (h : Bi b j) (hj : j ≠ 0) (hb : b ≤ 8000) : CDivA i j := ⟨hj, log_lt h (by omega : b ≤ 9000) (by decide)⟩
theorem cmulW {b : Nat} {i j : Int} (h : Bi b i) (k : Bi b j) (hb : b ≤ 8000) : CMulW i j := by
  have x := log_lt h (by omega : b ≤ 9000) (by decide)
  have y := log_lt k (by omega : b ≤ 9000) (by decide)
  unfold CMulW
  omega
/-! ### cells as dicts -/
def kvI (es : List (Int × Int)) : List (Key × V) := es.map fun p => (Sum.inl p.1, V.int p.2)
theorem valV_kvI (c : Int) : ∀ es : List (Int × Int), valV (kvI es) (Sum.inl c) = (lkp es c).map V.int
  | [] => rfl
  | p :: r => by
    have ih := valV_kvI c r
    by_cases e : p.1 = c
    · have e1 : valV (kvI (p :: r)) (Sum.inl c) = some (V.int p.2) := valV_pos (p := ((Sum.inl p.1 : Key), V.int p.2)) (by rw [e])
      rw [e1]
      show _ = (if p.1 = c then some p.2 else lkp r c).map V.int
      rw [if_pos e]
      rfl
    · have e1 : valV (kvI (p :: r)) (Sum.inl c) = valV (kvI r) (Sum.inl c) := valV_neg (p := ((Sum.inl p.1 : Key), V.int p.2)) (fun z => e (Sum.inl.inj z))
      rw [e1, ih]
      show _ = (if p.1 = c then some p.2 else lkp r c).map V.int
      rw [if_neg e]
theorem putK_kvI (es : List (Int × Int)) (c v : Int) : putK (kvI es) (Sum.inl c) (V.int v) = kvI (putI es c v) := by
  unfold putK putI
  rw [valV_any, valV_kvI]
  cases h : lkp es c with
  | none =>
    show (kvI es ++ [(Sum.inl c, V.int v)]) = kvI (es ++ [(c, v)])
    unfold kvI
    rw [List.map_append]
    rfl
  | some w =>
    show (kvI es).map _ = kvI (es.map _)
    unfold kvI
    rw [List.map_map, List.map_map]
    refine List.map_congr_left fun p _ => ?_
    show (if (Sum.inl p.1 : Key) = Sum.inl c then ((Sum.inl p.1 : Key), V.int v) else (Sum.inl p.1, V.int p.2)) = _
    by_cases e : p.1 = c
    · rw [if_pos (by rw [e])]
      show _ = (Sum.inl (if p.1 = c then (p.1, v) else p).1, V.int (if p.1 = c then (p.1, v) else p).2)
      rw [if_pos e]
    · rw [if_neg (fun z => e (Sum.inl.inj z))]
      show _ = (Sum.inl (if p.1 = c then (p.1, v) else p).1, V.int (if p.1 = c then (p.1, v) else p).2)
      rw [if_neg e]
theorem dropK_kvI (es : List (Int × Int)) (c : Int) : dropK (kvI es) (Sum.inl c) = kvI (dropI es c) := by
  unfold dropK dropI kvI
  rw [List.filter_map]
  congr 1
  refine List.filter_congr fun p _ => ?_
  show decide ((Sum.inl p.1 : Key) ≠ Sum.inl c) = decide (p.1 ≠ c)
  simp
theorem kvI_len (es : List (Int × Int)) : (kvI es).length = es.length := List.length_map ..
/-! ### the law's stand, a dict -/
def liveK (s : Mst) (pc ps : Addr) : List (Key × V) := [(.inr "block", .int s.block), (.inr "room", .int s.room), (.inr "tick", .bl s.tick), (.inr "flag", .bl s.flag), (.inr "test", .bl s.test), (.inr "mode", .int s.mode),
  (.inr "first", .int s.first), (.inr "second", .int s.second), (.inr "cells", .ref pc), (.inr "heard", .int (s.heard : Nat)), (.inr "said", .ref ps), (.inr "done", .bl s.isd)]
theorem lv_block {s : Mst} {pc ps : Addr} : valV (liveK s pc ps) (.inr "block") = some (.int s.block) := rfl
theorem lv_room {s : Mst} {pc ps : Addr} : valV (liveK s pc ps) (.inr "room") = some (.int s.room) := rfl
theorem lv_tick {s : Mst} {pc ps : Addr} : valV (liveK s pc ps) (.inr "tick") = some (.bl s.tick) := rfl
theorem lv_flag {s : Mst} {pc ps : Addr} : valV (liveK s pc ps) (.inr "flag") = some (.bl s.flag) := rfl
theorem lv_test {s : Mst} {pc ps : Addr} : valV (liveK s pc ps) (.inr "test") = some (.bl s.test) := rfl
theorem lv_mode {s : Mst} {pc ps : Addr} : valV (liveK s pc ps) (.inr "mode") = some (.int s.mode) := rfl
theorem lv_first {s : Mst} {pc ps : Addr} : valV (liveK s pc ps) (.inr "first") = some (.int s.first) := rfl
theorem lv_second {s : Mst} {pc ps : Addr} : valV (liveK s pc ps) (.inr "second") = some (.int s.second) := rfl
theorem lv_cells {s : Mst} {pc ps : Addr} : valV (liveK s pc ps) (.inr "cells") = some (.ref pc) := rfl
theorem lv_heard {s : Mst} {pc ps : Addr} : valV (liveK s pc ps) (.inr "heard") = some (.int (s.heard : Nat)) := rfl
theorem lv_said {s : Mst} {pc ps : Addr} : valV (liveK s pc ps) (.inr "said") = some (.ref ps) := rfl
theorem lv_done {s : Mst} {pc ps : Addr} : valV (liveK s pc ps) (.inr "done") = some (.bl s.isd) := rfl
theorem lp_block {s : Mst} {pc ps : Addr} (i : Int) : putK (liveK s pc ps) (.inr "block") (.int i) = liveK { s with block := i } pc ps := rfl
theorem lp_room {s : Mst} {pc ps : Addr} (i : Int) : putK (liveK s pc ps) (.inr "room") (.int i) = liveK { s with room := i } pc ps := rfl
theorem lp_tick {s : Mst} {pc ps : Addr} (i : Bool) : putK (liveK s pc ps) (.inr "tick") (.bl i) = liveK { s with tick := i } pc ps := rfl
theorem lp_flag {s : Mst} {pc ps : Addr} (i : Bool) : putK (liveK s pc ps) (.inr "flag") (.bl i) = liveK { s with flag := i } pc ps := rfl
theorem lp_test {s : Mst} {pc ps : Addr} (i : Bool) : putK (liveK s pc ps) (.inr "test") (.bl i) = liveK { s with test := i } pc ps := rfl
theorem lp_mode {s : Mst} {pc ps : Addr} (i : Int) : putK (liveK s pc ps) (.inr "mode") (.int i) = liveK { s with mode := i } pc ps := rfl
theorem lp_first {s : Mst} {pc ps : Addr} (i : Int) : putK (liveK s pc ps) (.inr "first") (.int i) = liveK { s with first := i } pc ps := rfl
theorem lp_second {s : Mst} {pc ps : Addr} (i : Int) : putK (liveK s pc ps) (.inr "second") (.int i) = liveK { s with second := i } pc ps := rfl
theorem lp_heard {s : Mst} {pc ps : Addr} (i : Nat) : putK (liveK s pc ps) (.inr "heard") (.int (i : Nat)) = liveK { s with heard := i } pc ps := rfl
theorem lp_said {s : Mst} {pc ps : Addr} (q : Addr) (l : List Int) : putK (liveK s pc ps) (.inr "said") (.ref q) = liveK { s with said := l } pc q := rfl
theorem lp_cells {s : Mst} {pc ps : Addr} (q : Addr) : putK (liveK s pc ps) (.inr "cells") (.ref q) = liveK s q ps := rfl
theorem lp_done {s : Mst} {pc ps : Addr} (i : Bool) : putK (liveK s pc ps) (.inr "done") (.bl i) = liveK { s with isd := i } pc ps := rfl
structure LiveAt (H : Hp) (L pc : Addr) (s : Mst) (m : Nat) (ps : Addr) (es : List (Int × Int)) : Prop where
  at_ : H L = some (.dK (liveK s pc ps))
  cat : H pc = some (.dK (kvI es))
  cl : CellsL es s.cells
  sat : H ps = some (.lst (s.said.map V.int))
  cn : es.length ≤ m
  sn : s.said.length ≤ m
  ne : L ≠ pc
/-- all but the dicts at L and pc stays -/
def Mv2 (L pc : Addr) (H H' : Hp) : Prop := ∀ b o, b ≠ L → b ≠ pc → H b = some o → H' b = some o
theorem Mv2.refl (L pc : Addr) (H : Hp) : Mv2 L pc H H := fun _ _ _ _ h => h
theorem Mv2.trans {L pc : Addr} {H H1 H2 : Hp} (x : Mv2 L pc H H1) (y : Mv2 L pc H1 H2) : Mv2 L pc H H2 := fun b o n k h => y b o n k (x b o n k h)
theorem Mv2.of {L pc : Addr} {H H1 : Hp} (x : Same H H1) : Mv2 L pc H H1 := fun b o _ _ h => x b o h
theorem Mv2.l {L pc : Addr} {H : Hp} {o : HO} : Mv2 L pc H (upd H L o) := fun b u n _ h => by rw [upd_ne n]; exact h
theorem Mv2.c {L pc : Addr} {H : Hp} {o : HO} : Mv2 L pc H (upd H pc o) := fun b u _ n h => by rw [upd_ne n]; exact h
theorem LiveAt.same {H H' : Hp} {L pc ps : Addr} {s : Mst} {m : Nat} {es : List (Int × Int)} (h : LiveAt H L pc s m ps es) (e : Same H H') : LiveAt H' L pc s m ps es :=
  { h with at_ := e _ _ h.at_, cat := e _ _ h.cat, sat := e _ _ h.sat }
theorem LiveAt.mono {H : Hp} {L pc ps : Addr} {s : Mst} {m n : Nat} {es : List (Int × Int)} (h : LiveAt H L pc s m ps es) (l : m ≤ n) : LiveAt H L pc s n ps es := { h with cn := Nat.le_trans h.cn l, sn := Nat.le_trans h.sn l }
/-- a field of the law's stand is set -/
theorem LiveAt.put {H : Hp} {L pc ps : Addr} {s t : Mst} {m : Nat} {es : List (Int × Int)} {k : Key} {v : V} (h : LiveAt H L pc s m ps es) (e : putK (liveK s pc ps) k v = liveK t pc ps) (hc : t.cells = s.cells) (hs : t.said = s.said) : LiveAt (upd H L (.dK (putK (liveK s pc ps) k v))) L pc t m ps es := by
  refine ⟨by rw [upd_same, e], ?_, by rw [hc]; exact h.cl, ?_, h.cn, by rw [hs]; exact h.sn, h.ne⟩
  · rw [upd_ne h.ne.symm]
    exact h.cat
  · rw [upd_ne (ne_of_two h.sat h.at_ (fun z => by cases z)), hs]
    exact h.sat
theorem live_len {s : Mst} {pc ps : Addr} : (liveK s pc ps).length < sizeLine := by
  show 12 < sizeLine
  decide
theorem LiveAt.get {H : Hp} {L pc ps : Addr} {s : Mst} {m : Nat} {es : List (Int × Int)} {k : Str} {v : V} (h : LiveAt H L pc s m ps es) (e : valV (liveK s pc ps) (.inr k) = some v) : DGet H L (.str k) (some v) := e ▸ DGet.k (k := .inr k) h.at_
/-! ### what a work has -/
def workF (s : Mst) (nl pc ps : Addr) : List (Str × V) := [("numbers", .ref nl), ("block", .int s.block), ("room", .int s.room), ("tick", .bl s.tick), ("flag", .bl s.flag), ("test", .bl s.test), ("mode", .int s.mode),
  ("first", .int s.first), ("second", .int s.second), ("cells", .ref pc), ("heard", .int (s.heard : Nat)), ("said", .ref ps), ("is_done", .bl s.isd)]
/-- a work at w, made behind H0 -/
structure WorkAt (K : PySem.W.Frag) (C : Addr) (H0 H : Hp) (w nl : Addr) (ns : List Int) (s : Mst) (m : Nat) (dx pc ps : Addr) (es : List (Int × Int)) : Prop where
  at_ : H w = some (.ins C dx (workF s nl pc ps))
  cat : H pc = some (.dK (kvI es))
  cl : CellsW es s.cells
  sat : H ps = some (.lst (s.said.map V.int))
  num : SqQ K H0 nl (ns.map V.int)
  cn : es.length ≤ m
  sn : s.said.length ≤ m
  old : Same H0 H
  nw : H0 w = none
  nc : H0 pc = none
  np : H0 ps = none
section
variable {K : PySem.W.Frag} {C w nl dx pc ps : Addr} {H0 H H' : Hp} {ns : List Int} {s t : Mst} {m n : Nat} {es : List (Int × Int)}
theorem WorkAt.nums (h : WorkAt K C H0 H w nl ns s m dx pc ps es) : SqQ K H nl (ns.map V.int) := Same.q h.old h.num
theorem WorkAt.mono (h : WorkAt K C H0 H w nl ns s m dx pc ps es) (l : m ≤ n) : WorkAt K C H0 H w nl ns s n dx pc ps es := { h with cn := Nat.le_trans h.cn l, sn := Nat.le_trans h.sn l }
theorem WorkAt.same (h : WorkAt K C H0 H w nl ns s m dx pc ps es) (e : Same H H') : WorkAt K C H0 H' w nl ns s m dx pc ps es :=
  { h with at_ := e _ _ h.at_, cat := e _ _ h.cat, sat := e _ _ h.sat, old := h.old.trans e }
theorem WorkAt.wp (h : WorkAt K C H0 H w nl ns s m dx pc ps es) : ps ≠ w := ne_of_two h.sat h.at_ (fun z => by cases z)
theorem WorkAt.wc (h : WorkAt K C H0 H w nl ns s m dx pc ps es) : pc ≠ w := ne_of_two h.cat h.at_ (fun z => by cases z)
theorem WorkAt.ppc (h : WorkAt K C H0 H w nl ns s m dx pc ps es) : ps ≠ pc := ne_of_two h.sat h.cat (fun z => by cases z)
/-- a field is set -/
theorem WorkAt.put {fs : List (Str × V)} (h : WorkAt K C H0 H w nl ns s m dx pc ps es) (e : fs = workF t nl pc ps) (hc : t.cells = s.cells) (hs : t.said = s.said) : WorkAt K C H0 (upd H w (.ins C dx fs)) w nl ns t m dx pc ps es := by
  refine ⟨by rw [upd_same, e], ?_, by rw [hc]; exact h.cl, ?_, h.num, h.cn, by rw [hs]; exact h.sn, same_set h.old h.nw, h.nw, h.nc, h.np⟩
  · rw [upd_ne h.wc]
    exact h.cat
  · rw [upd_ne h.wp, hs]
    exact h.sat
/-- the cells are set -/
theorem WorkAt.cell {es' : List (Int × Int)} (h : WorkAt K C H0 H w nl ns s m dx pc ps es) (e : workF t nl pc ps = workF s nl pc ps) (hs : t.said = s.said) (hc : CellsW es' t.cells) (hl : es'.length ≤ m + 1) : WorkAt K C H0 (upd H pc (.dK (kvI es'))) w nl ns t (m + 1) dx pc ps es' := by
  refine ⟨?_, upd_same, hc, ?_, h.num, hl, by rw [hs]; exact Nat.le_succ_of_le h.sn, same_set h.old h.nc, h.nw, h.nc, h.np⟩
  · rw [upd_ne h.wc.symm, e]
    exact h.at_
  · rw [upd_ne h.ppc, hs]
    exact h.sat
/-- one more is said -/
theorem WorkAt.say {i : Int} (h : WorkAt K C H0 H w nl ns s m dx pc ps es) (e : workF t nl pc ps = workF s nl pc ps) (hc : t.cells = s.cells) (hs : t.said = s.said ++ [i]) : WorkAt K C H0 (upd H ps (.lst (s.said.map V.int ++ [V.int i]))) w nl ns t (m + 1) dx pc ps es := by
  refine ⟨?_, ?_, by rw [hc]; exact h.cl, ?_, h.num, Nat.le_succ_of_le h.cn, ?_, same_set h.old h.np, h.nw, h.nc, h.np⟩
  · rw [upd_ne h.wp.symm, e]
    exact h.at_
  · rw [upd_ne h.ppc.symm]
    exact h.cat
  · rw [upd_same, hs, List.map_append]
    rfl
  · rw [hs, List.length_append]
    have := h.sn
    show _ + 1 ≤ _
    omega
end
theorem work_len {s : Mst} {nl pc ps : Addr} : (workF s nl pc ps).length < 1000 := by
  show 13 < 1000
  decide
/-! ### a stand -/
def standF (s : Mst) (t u : Addr) : List (Str × V) := [("block", .int s.block), ("room", .int s.room), ("tick", .bl s.tick), ("flag", .bl s.flag), ("test", .bl s.test), ("mode", .int s.mode),
  ("first", .int s.first), ("second", .int s.second), ("cells", .ref t), ("heard", .int (s.heard : Nat)), ("said", .ref u), ("is_done", .bl s.isd)]
/-- pairs of ints in a tuple -/
def PairsT (K : PySem.W.Frag) (H : Hp) (t : Addr) (l : List (Int × Int)) : Prop := ∃ ps : List Addr, SqT K H t (ps.map V.ref) ∧ Paired (fun (q : Addr) (p : Int × Int) => SqT K H q [.int p.1, .int p.2]) ps l
/-- pairs of ints, lists or tuples -/
def PairsQ (K : PySem.W.Frag) (H : Hp) (t : Addr) (l : List (Int × Int)) : Prop := ∃ ps : List Addr, SqQ K H t (ps.map V.ref) ∧ Paired (fun (q : Addr) (p : Int × Int) => SqQ K H q [.int p.1, .int p.2]) ps l
theorem PairsT.same {K : PySem.W.Frag} {H H' : Hp} {t : Addr} {l : List (Int × Int)} (h : PairsT K H t l) (e : Same H H') : PairsT K H' t l := by
  obtain ⟨ps, h1, h2⟩ := h
  exact ⟨ps, Same.t e h1, Paired.mapP h2 fun _ _ z => Same.t e z⟩
theorem PairsQ.same {K : PySem.W.Frag} {H H' : Hp} {t : Addr} {l : List (Int × Int)} (h : PairsQ K H t l) (e : Same H H') : PairsQ K H' t l := by
  obtain ⟨ps, h1, h2⟩ := h
  exact ⟨ps, Same.q e h1, Paired.mapP h2 fun _ _ z => Same.q e z⟩
structure StandAt (K : PySem.W.Frag) (C : Addr) (H : Hp) (p : Addr) (s : Mst) (l : List (Int × Int)) (dx t u : Addr) : Prop where
  at_ : H p = some (.ins C dx (standF s t u))
  cat : PairsT K H t l
  sat : SqT K H u (s.said.map V.int)
  isC : IsC l s.cells
theorem StandAt.same {K : PySem.W.Frag} {C p dx t u : Addr} {H H' : Hp} {s : Mst} {l : List (Int × Int)} (h : StandAt K C H p s l dx t u) (e : Same H H') : StandAt K C H' p s l dx t u :=
  { h with at_ := e _ _ h.at_, cat := h.cat.same e, sat := Same.t e h.sat }
/-! ### as data -/
def pairD (p : Int × Int) : PyData := .tuple [.int p.1, .int p.2]
def standD (s : Mst) (l : List (Int × Int)) : List PyData := [.int s.block, .int s.room, .bool s.tick, .bool s.flag, .bool s.test, .int s.mode, .int s.first, .int s.second, .tuple (l.map pairD), .int (s.heard : Nat), .tuple (s.said.map PyData.int), .bool s.isd]
/-- data that repr shows, with great numbers -/
structure ShB (k m : Nat) (d : PyData) : Prop where
  sh : d.showable = true
  nd : d.hasDict = false
  dp : d.depth ≤ k
  lv : d.leavesShort 2000 = true
  bk : d.bulk ≤ m
structure ShBA (k m : Nat) (ds : List PyData) : Prop where
  sh : PyData.showableAll ds = true
  nd : PyData.hasDictAll ds = false
  dp : PyData.depthAll ds ≤ k
  lv : PyData.leavesShortAll 2000 ds = true
  bk : PyData.bulkAll ds ≤ m
theorem ShB.up {k l m n : Nat} {d : PyData} (h : ShB k m d) (hk : k ≤ l) (hm : m ≤ n) : ShB l n d := ⟨h.sh, h.nd, Nat.le_trans h.dp hk, h.lv, Nat.le_trans h.bk hm⟩
theorem shB_bool (b : Bool) : ShB 0 0 (.bool b) := ⟨rfl, rfl, Nat.le_refl _, rfl, Nat.le_refl _⟩
theorem shB_int {b : Nat} {i : Int} (h : Bi b i) (hb : b ≤ 1915) : ShB 0 0 (.int i) := by
  have hl := log_lt h (by omega : b ≤ 1920) (by decide)
  refine ⟨?_, rfl, Nat.le_refl _, ?_, Nat.le_refl _⟩
  · simp only [PyData.showable, decide_eq_true_eq]
    exact hl
  · simp only [PyData.leavesShort, decide_eq_true_eq]
    have e := PySem.int_text_length_le (k := 1920) (by decide) hl
    show (Str.ofString (toString i)).length ≤ 2000
    rw [PySem.ofString_length]
    omega
theorem ShBA.nil {k : Nat} : ShBA k 0 [] := ⟨rfl, rfl, Nat.zero_le _, rfl, Nat.le_refl _⟩
theorem ShBA.cons {k m n : Nat} {d : PyData} {ds : List PyData} (h : ShB k m d) (t : ShBA k n ds) : ShBA k (m + 1 + n) (d :: ds) := by
  refine ⟨?_, ?_, ?_, ?_, ?_⟩
  · simp only [PyData.showableAll, h.sh, t.sh, Bool.and_self]
  · simp only [PyData.hasDictAll, h.nd, t.nd, Bool.or_self]
  · simp only [PyData.depthAll]
    exact Nat.max_le.mpr ⟨h.dp, t.dp⟩
  · simp only [PyData.leavesShortAll, h.lv, t.lv, Bool.and_self]
  · simp only [PyData.bulkAll]
    have := h.bk
    have := t.bk
    omega
theorem ShBA.lst {k m : Nat} {ds : List PyData} (h : ShBA k m ds) : ShB (k + 1) m (.list ds) :=
  ⟨by simp only [PyData.showable, h.sh], by simp only [PyData.hasDict, h.nd], by simp only [PyData.depth]; have := h.dp; omega, by simp only [PyData.leavesShort, h.lv], by simp only [PyData.bulk]; exact h.bk⟩
theorem ShBA.tup {k m : Nat} {ds : List PyData} (h : ShBA k m ds) : ShB (k + 1) m (.tuple ds) :=
  ⟨by simp only [PyData.showable, h.sh], by simp only [PyData.hasDict, h.nd], by simp only [PyData.depth]; have := h.dp; omega, by simp only [PyData.leavesShort, h.lv], by simp only [PyData.bulk]; exact h.bk⟩
theorem shBA_all {k w : Nat} {α : Type} {f : α → PyData} : ∀ (l : List α), (∀ x ∈ l, ShB k w (f x)) → ShBA k (l.length * (w + 1)) (l.map f)
  | [], _ => by
    rw [List.length_nil, Nat.zero_mul]
    exact ShBA.nil
  | x :: r, h => by
    have := ShBA.cons (h x List.mem_cons_self) (shBA_all r fun y m => h y (List.mem_cons_of_mem _ m))
    rw [List.length_cons, Nat.succ_mul, Nat.add_comm (r.length * (w + 1))]
    exact this
theorem ShB.len {k m : Nat} {d : PyData} (h : ShB k m d) (hm : m ≤ 8200) : d.shown.length ≤ sizeLine := by
  have h1 := PyData.shown_le_bulk 2000 (by decide) d h.lv
  have h2 := h.bk
  rw [sizeLine_eq]
  have h3 : (2000 + 2) * d.bulk ≤ 2002 * 8200 := Nat.mul_le_mul (by decide) (by omega)
  omega
theorem shB_stand {b : Nat} {s : Mst} {l : List (Int × Int)} (h : Bd b s) (hb : b ≤ 1915) (hC : IsC l s.cells) (hl : l.length ≤ 2000) (hs : s.said.length ≤ 2000) (h20 : 20 ≤ b) : ShB 3 8200 (.list (standD s l)) := by
  have z : ∀ i : Int, Bi b i → ShB 2 0 (.int i) := fun i hi => (shB_int hi hb).up (by decide) (Nat.le_refl _)
  have bo : ∀ i : Bool, ShB 2 0 (.bool i) := fun i => (shB_bool i).up (by decide) (Nat.le_refl _)
  have hm : Bi b s.mode := by
    have := h.mode
    exact Nat.lt_of_lt_of_le (show s.mode.natAbs < 2 ^ 20 by omega) (Nat.pow_le_pow_right (by decide) h20)
  have hh : Bi b (s.heard : Int) := by
    have := h.heard
    exact Nat.lt_of_lt_of_le (show (s.heard : Int).natAbs < 2 ^ 20 by omega) (Nat.pow_le_pow_right (by decide) h20)
  have pc : ∀ p ∈ l, ShB 1 2 (pairD p) := fun p hp => by
    obtain ⟨e1, e2⟩ := (hC.mem p.1 p.2).mp hp
    have k1 : Bi b p.1 := h.keys _ (by rw [e1]; exact e2)
    have k2 : Bi b p.2 := e1 ▸ h.cells p.1
    exact (ShBA.cons (shB_int k1 hb) (ShBA.cons (shB_int k2 hb) ShBA.nil)).tup
  have hc := (shBA_all l pc).tup
  have hs' := (shBA_all (w := 0) (f := PyData.int) s.said fun i hi => shB_int (h.said i hi) hb).tup.up (show 0 + 1 ≤ 2 by decide) (Nat.le_refl _)
  have all := (ShBA.cons (z _ h.block) <| ShBA.cons (z _ h.room) <| ShBA.cons (bo s.tick) <| ShBA.cons (bo s.flag) <| ShBA.cons (bo s.test) <| ShBA.cons (z _ hm) <| ShBA.cons (z _ h.first) <| ShBA.cons (z _ h.second) <|
    ShBA.cons hc <| ShBA.cons (z _ hh) <| ShBA.cons hs' <| ShBA.cons (bo s.isd) ShBA.nil).lst
  refine all.up (Nat.le_refl _) ?_
  omega
end Kx
namespace Ms
def startM : Mst := ⟨-1, 0, false, false, false, 2, 0, 0, fun _ => 0, 0, [], false⟩
end Ms
namespace Kx
open PySem PySem.Spec PyProof.Rows L2 SX LamX Ms
theorem go_fld {K : PySem.W.Frag} {ta : TE} {f : Str} {σ : L2.St} {H : Hp} {Q : VK} (h : ta σ H fun x H1 => ∃ a C dx fs v, x = .ref a ∧ H1 a = some (.ins C dx fs) ∧ Cls K C ∧ NoAttr K C f ∧ fs.lookup f = some v ∧ Q v H1) : tFld K ta f σ H Q := h
theorem go_sfld {K : PySem.W.Frag} {ta tv : TE} {f : Str} {D : Ends} {σ : L2.St} {H : Hp} (h : tv σ H fun y H1 => ta σ H1 fun x H2 => ∃ a C dx fs, x = .ref a ∧ H2 a = some (.ins C dx fs) ∧ Cls K C ∧ NoAttr K C f ∧ fs.length < 1000 ∧ D.nx σ (upd H2 a (.ins C dx (putF f y fs)))) : sFld K ta tv f D σ H := h
/-- a field of an instance at p is set; all else stays since H0 -/
theorem set_end {K : PySem.W.Frag} {i : Nat} {v : V} {f : Str} {fs : List (Str × V)} {D : Ends} {σ : L2.St} {H0 H : Hp} {p C dx : Addr} (hi : σ[i]? = some (some (.ref p))) (hp : H p = some (.ins C dx fs)) (mv : Mv p H0 H) (c : Cls K C) (n : NoAttr K C f) (l : fs.length < 1000)
    (k : ∀ H', Mv p H0 H' → H' p = some (.ins C dx (putF f v fs)) → D.nx σ H') : (tVar i) σ H fun x H2 => ∃ a C dx fs, x = .ref a ∧ H2 a = some (.ins C dx fs) ∧ Cls K C ∧ NoAttr K C f ∧ fs.length < 1000 ∧ D.nx σ (upd H2 a (.ins C dx (putF f v fs))) :=
  ⟨_, hi, p, C, dx, fs, rfl, hp, c, n, l, k _ (mv.trans (Mv.upd _ _ _)) upd_same⟩
section
variable {K : PySem.W.Frag} {C w nl dx pc ps : Addr} {H0 H : Hp} {ns : List Int} {s t : Mst} {m i : Nat} {es : List (Int × Int)} {σ : L2.St} {f : Str} {v : V}
theorem rdW (hi : σ[i]? = some (some (.ref w))) (hw : WorkAt K C H0 H w nl ns s m dx pc ps es) (c : Cls K C) (na : NoAttr K C f) (l : (workF s nl pc ps).lookup f = some v) {Q : VK} (q : Q v H) : tFld K (tVar i) f σ H Q := ⟨_, hi, w, C, dx, _, v, rfl, hw.at_, c, na, l, q⟩
theorem stW {D : Ends} (hi : σ[i]? = some (some (.ref w))) (hw : WorkAt K C H0 H w nl ns s m dx pc ps es) (c : Cls K C) (na : NoAttr K C f) (e : putF f v (workF s nl pc ps) = workF t nl pc ps) (hc : t.cells = s.cells) (hs : t.said = s.said)
    (k : ∀ H', WorkAt K C H0 H' w nl ns t m dx pc ps es → D.nx σ H') : (tVar i) σ H fun x H2 => ∃ a C dx fs, x = .ref a ∧ H2 a = some (.ins C dx fs) ∧ Cls K C ∧ NoAttr K C f ∧ fs.length < 1000 ∧ D.nx σ (upd H2 a (.ins C dx (putF f v fs))) :=
  ⟨_, hi, w, C, dx, _, rfl, hw.at_, c, na, work_len, k _ (hw.put e hc hs)⟩
theorem cell_get {f : Int → Int} (h : CellsW es f) (c : Int) : (valV (kvI es) (Sum.inl c)).getD (.int 0) = .int (f c) := by
  rw [valV_kvI, ← h.at_]
  cases lkp es c <;> rfl
end
end Kx
namespace Kx
open PySem PySem.Spec PyProof.Rows L2 SX LamX Ms
theorem decI (a b : Int) : decide (V.int a = V.int b) = decide (a = b) := by
  by_cases z : a = b
  · rw [z]; simp
  · rw [decide_eq_false z, decide_eq_false (fun y => z (V.int.inj y))]
theorem decB (a b : Bool) : decide (V.bl a = V.bl b) = decide (a = b) := by
  cases a <;> cases b <;> decide
theorem go_ife {tt : TT} {ta tb : TE} {σ : L2.St} {H : Hp} {Q : VK} (h : tt σ H fun b H1 => if b = true then ta σ H1 Q else tb σ H1 Q) : tIf tt ta tb σ H Q := h
theorem go_tup {t : TA} {σ : L2.St} {H : Hp} {Q : VK} (h : t σ H fun xs H1 => xs.length ≤ sizeLine ∧ ∀ p, H1 p = none → Q (.ref p) (upd H1 p (.tup xs))) : tTup t σ H Q := h
theorem go_or1 {ta tb : TT} {σ : L2.St} {H : Hp} {Q : Bool → Hp → Prop} (h : ta σ H fun b H1 => if b = true then Q true H1 else tb σ H1 Q) : tOr ta tb σ H Q := h
section
variable {K : PySem.W.Frag} {C w nl dx pc ps : Addr} {H0 H : Hp} {ns : List Int} {s t : Mst} {m i : Nat} {es : List (Int × Int)} {σ : L2.St} {f : Str} {v : V}
theorem stG {Q : L2.St → Hp → Prop} (hi : σ[i]? = some (some (.ref w))) (hw : WorkAt K C H0 H w nl ns s m dx pc ps es) (c : Cls K C) (na : NoAttr K C f) (e : putF f v (workF s nl pc ps) = workF t nl pc ps) (hc : t.cells = s.cells) (hs : t.said = s.said)
    (k : ∀ H', WorkAt K C H0 H' w nl ns t m dx pc ps es → Q σ H') : gFld K (tVar i) f v σ H Q :=
  ⟨_, hi, w, C, dx, _, rfl, hw.at_, c, na, work_len, k _ (hw.put e hc hs)⟩
end
theorem num_at {ns : List Int} {k : Nat} (h : k < ns.length) : atI (ns.map V.int) (k : Int) = some (.int (ns.getD k 0)) := by
  rw [at_nat (by rw [List.length_map]; exact h)]
  rw [List.getD_eq_getElem?_getD, List.getElem?_eq_getElem h]
  simp
end Kx
namespace Kx
open PySem PySem.Spec PyProof.Rows L2 SX LamX Ms
theorem go_drop {te : TE} {D : Ends} {σ : L2.St} {H : Hp} (h : te σ H fun _ H1 => D.nx σ H1) : tDrop te D σ H := h
theorem go_bm {K : PySem.W.Frag} {ty : String} {r : V → List V → Hp → VK → Prop} {to : TE} {t : TA} {σ : L2.St} {H : Hp} {Q : VK} (h : to σ H fun x H1 => tyV K ty x H1 ∧ t σ H1 fun xs H2 => r x xs H2 Q) : tBM K ty r to t σ H Q := h
end Kx
namespace Kx
open PySem PySem.Spec PyProof.Rows L2 SX LamX Ms
theorem Mv.none {a b : Addr} {H H' : Hp} (m : Mv a H H') (n : b ≠ a) (h : H' b = none) : H b = none := by
  cases e : H b with
  | none => rfl
  | some o =>
    have := m b o n e
    rw [h] at this
    cases this
end Kx
namespace Ms
theorem bd_may {b n : Nat} {s : Mst} (h : Bd b s) : Bd b (mayS s n) := by
  unfold mayS
  split
  · exact { h with }
  · exact h
end Ms
namespace Kx
open PySem PySem.Spec PyProof.Rows L2 SX LamX Ms
def rowV (row : List Nat) : List V := row.map fun n : Nat => V.int (n : Int)
theorem rowV_len (row : List Nat) : (rowV row).length = row.length := List.length_map ..
theorem rowV_get {row : List Nat} {i : Nat} {v : V} (h : (rowV row)[i]? = some v) : ∃ n : Nat, row[i]? = some n ∧ v = .int n := map_at h
end Kx
namespace Kx
open PySem PySem.Spec PyProof.Rows L2 SX LamX Ms
theorem go_andT {ta tb : TT} {σ : L2.St} {H : Hp} {Q : Bool → Hp → Prop} (h : ta σ H fun b H1 => if b = true then tb σ H1 Q else Q false H1) : tAnd ta tb σ H Q := h
end Kx
namespace Kx
open PySem PySem.Spec PyProof.Rows L2 SX LamX Ms
theorem inK_call_tuple_of {X : Cx} {K : PySem.W.Frag} (e : X.K = K) : CallR X (.type "tuple") (fun xs H Q => ∃ p ys, xs = [.ref p] ∧ ((SqL K H p ys ∧ ∀ l, H l = none → Q (.ref l) (upd H l (.tup ys))) ∨ (SqT K H p ys ∧ Q (.ref p) H))) := e ▸ call_tuple_of
/-- a comprehension over a list or tuple that a name holds, with what is so far -/
theorem lc_seqit {K : PySem.W.Frag} {a : Addr} {xs : List V} {g : TG} {σ : L2.St} {H : Hp} {k : Nat} {tt : TT} {te : TE} {vs : List Nat} {Q : VK} (P : Addr → Nat → Hp → Prop) (hi : σ[k]? = some (some (.ref a))) (hq : SqQ K H a xs)
    (h0 : ∀ D, H D = none → P D 0 (upd H D (.lst []))) (hS : ∀ D i Hc, H D = none → P D i Hc → Same H Hc)
    (hs : ∀ D i x Hc, H D = none → xs[i]? = some x → P D i Hc → g x (wipe σ vs) Hc fun σ2 H2 => wipe σ2 vs = wipe σ vs ∧ tt σ2 H2 fun b H3 =>
      if b = true then te σ2 H3 fun y H4 => ∃ acc, H4 D = some (.lst acc) ∧ acc.length < sizeLine ∧ P D (i + 1) (upd H4 D (.lst (acc ++ [y]))) else P D (i + 1) H3)
    (hd : ∀ D Hc, H D = none → P D xs.length Hc → Q (.ref D) Hc) : tLc (fun σ H R => iList K (tVar k) σ H R ∨ iTup K (tVar k) σ H R) g tt te vs σ H Q := by
  rcases hq with h | h
  · exact .inl ⟨_, hi, a, rfl, ⟨_, h⟩, fun D nD => lc_list (P D) (h0 D nD) (fun i Hc _ p => (hS D i Hc nD p).seq h) (fun i x Hc hx p => hs D i x Hc nD hx p) (fun Hc p => hd D Hc nD p)⟩
  · exact .inr ⟨_, hi, a, rfl, ⟨_, h⟩, fun D nD => lc_tup (P D) (h0 D nD) (fun i Hc _ p => Same.t (hS D i Hc nD p) h) (fun i x Hc hx p => hs D i x Hc nD hx p) (fun Hc p => hd D Hc nD p)⟩
/-- a pair of ints, tracked -/
def Pn (H : Hp) (t : Addr) (p : Int × Int) : Prop := H t = some (.tup [.int p.1, .int p.2])
def keyOf (H : Hp) : V → Int × Int
  | .ref t => match H t with
    | some (.tup [.int i, .int j]) => (i, j)
    | _ => (0, 0)
  | _ => (0, 0)
theorem keyOf_at {H : Hp} {t : Addr} {p : Int × Int} (h : Pn H t p) : keyOf H (.ref t) = p := by
  unfold Pn at h
  show (match H t with | some (.tup [.int i, .int j]) => (i, j) | _ => (0, 0)) = p
  rw [h]
theorem refs_of : ∀ {ys : List V}, (∀ y ∈ ys, ∃ t, y = V.ref t) → ∃ us : List Addr, ys = us.map V.ref
  | [], _ => ⟨[], rfl⟩
  | y :: r, h => by
    obtain ⟨t, rfl⟩ := h y List.mem_cons_self
    obtain ⟨us, rfl⟩ := refs_of fun z m => h z (List.mem_cons_of_mem _ m)
    exact ⟨t :: us, rfl⟩
theorem pn_mem {H : Hp} : ∀ {ts : List Addr} {es : List (Int × Int)}, Paired (Pn H) ts es → ∀ t ∈ ts, ∃ p ∈ es, Pn H t p
  | _, _, .cons h r, t, m => by
    rcases List.mem_cons.mp m with rfl | m
    · exact ⟨_, List.mem_cons_self, h⟩
    · obtain ⟨p, a, b⟩ := pn_mem r t m
      exact ⟨p, List.mem_cons_of_mem _ a, b⟩
theorem pn_keys {H : Hp} : ∀ {ts : List Addr} {es : List (Int × Int)}, Paired (Pn H) ts es → (ts.map V.ref).map (keyOf H) = es
  | _, _, .nil => rfl
  | _, _, .cons h r => by
    rw [List.map_cons, List.map_cons, pn_keys r, keyOf_at h]
theorem pn_back {H : Hp} : ∀ {us : List Addr}, (∀ u ∈ us, ∃ p, Pn H u p) → Paired (Pn H) us ((us.map V.ref).map (keyOf H))
  | [], _ => .nil
  | u :: r, h => by
    obtain ⟨p, hp⟩ := h u List.mem_cons_self
    rw [List.map_cons, List.map_cons, keyOf_at hp]
    exact .cons hp (pn_back fun v m => h v (List.mem_cons_of_mem _ m))
theorem sorted_cells {K : PySem.W.Frag} {H : Hp} {a : Addr} {ts : List Addr} {es : List (Int × Int)} {f : Int → Int} {Q : VK} (hp : Paired (Pn H) ts es) (ha : H a = some (.lst (ts.map V.ref))) (nd : (es.map (·.1)).Nodup) (hm : ∀ c v, (c, v) ∈ es ↔ f c = v ∧ v ≠ 0)
    (q : ∀ (p : Addr) (l : List (Int × Int)) (us : List Addr), H p = none → IsC l f → l.length = es.length → Paired (Pn H) us l → Q (.ref p) (upd H p (.lst (us.map V.ref)))) : rSortedPO K [.ref a] H Q := by
  refine ⟨a, ts.map V.ref, keyOf H, rfl, .inl (.inl ha), fun x hx => ?_, fun ys p srt stb np => ?_⟩
  · obtain ⟨t, ht, rfl⟩ := List.mem_map.mp hx
    obtain ⟨p, _, h⟩ := pn_mem hp t ht
    rw [keyOf_at h]
    exact ⟨t, rfl, h⟩
  · have perm := stb.perm
    obtain ⟨us, rfl⟩ := refs_of fun y hy => by
      obtain ⟨t, _, rfl⟩ := List.mem_map.mp (perm.mem_iff.mp hy)
      exact ⟨t, rfl⟩
    have pk : ((us.map V.ref).map (keyOf H)).Perm es := by
      have := perm.map (keyOf H)
      rw [pn_keys hp] at this
      exact this
    refine q p _ us np (isC_of pk nd hm ?_) pk.length_eq (pn_back fun u hu => ?_)
    · refine List.pairwise_map.mpr (srt.imp fun {x y} h => ?_)
      have := SrtO.lexB_no.mp h
      omega
    · obtain ⟨t, ht, e⟩ := List.mem_map.mp (perm.mem_iff.mp (List.mem_map.mpr ⟨u, hu, rfl⟩))
      cases e
      obtain ⟨p, _, h⟩ := pn_mem hp u ht
      exact ⟨p, h⟩
theorem pairsQ_of {K : PySem.W.Frag} {H H' : Hp} {p : Addr} {us : List Addr} {l : List (Int × Int)} (h : Paired (Pn H) us l) (e : Same H H') (hp : H' p = some (.lst (us.map V.ref))) : PairsQ K H' p l :=
  ⟨us, .inl (.inl (.inl hp)), Paired.mapP h fun _ _ z => .inr (.inl (.inl (e _ _ z)))⟩
/-- the lock of a dict leaves all else -/
theorem lock_same {H : Hp} {d : Addr} {u o : HO} (hd : H d = some u) (H' : Hp) (e : Same (upd H d o) H') : Same H (upd H' d u) := fun b w h => by
  by_cases z : b = d
  · subst z
    rw [upd_same, ← hd]
    exact h
  · rw [upd_ne z]
    refine e b w ?_
    rw [upd_ne z]
    exact h
end Kx
namespace Kx
open PySem PySem.Spec PyProof.Rows L2 SX LamX Ms
section
variable {K : PySem.W.Frag} {H H' : Hp} {p a : Addr} {o : HO} {xs : List V}
theorem sqT_mv (hp : H p = some o) (n1 : ∀ xs, o ≠ .tup xs) (n2 : ∀ ob u, o ≠ .frz ob u) (m : Mv p H H') (h : SqT K H a xs) : SqT K H' a xs := by
  rcases h with (h | ⟨ob, h⟩) | h
  · exact .inl (.inl (m _ _ (ne_of_two h hp (fun z => n1 _ z.symm)) h))
  · exact .inl (.inr ⟨ob, m _ _ (ne_of_two h hp (fun z => n2 _ _ z.symm)) h⟩)
  · exact .inr h
theorem sqL_mv (hp : H p = some o) (n1 : ∀ xs, o ≠ .lst xs) (n2 : ∀ ob u, o ≠ .frz ob u) (m : Mv p H H') (h : SqL K H a xs) : SqL K H' a xs := by
  rcases h with (h | ⟨ob, h⟩) | h
  · exact .inl (.inl (m _ _ (ne_of_two h hp (fun z => n1 _ z.symm)) h))
  · exact .inl (.inr ⟨ob, m _ _ (ne_of_two h hp (fun z => n2 _ _ z.symm)) h⟩)
  · exact .inr h
theorem sqQ_mv (hp : H p = some o) (n0 : ∀ xs, o ≠ .lst xs) (n1 : ∀ xs, o ≠ .tup xs) (n2 : ∀ ob u, o ≠ .frz ob u) (m : Mv p H H') (h : SqQ K H a xs) : SqQ K H' a xs := h.imp (sqL_mv hp n0 n2 m) (sqT_mv hp n1 n2 m)
theorem PairsQ.mv {t : Addr} {l : List (Int × Int)} (hp : H p = some o) (n0 : ∀ xs, o ≠ .lst xs) (n1 : ∀ xs, o ≠ .tup xs) (n2 : ∀ ob u, o ≠ .frz ob u) (m : Mv p H H') (h : PairsQ K H t l) : PairsQ K H' t l := by
  obtain ⟨ps, h1, h2⟩ := h
  exact ⟨ps, sqQ_mv hp n0 n1 n2 m h1, Paired.mapP h2 fun _ _ z => sqQ_mv hp n0 n1 n2 m z⟩
theorem PairsT.mv {t : Addr} {l : List (Int × Int)} (hp : H p = some o) (n1 : ∀ xs, o ≠ .tup xs) (n2 : ∀ ob u, o ≠ .frz ob u) (m : Mv p H H') (h : PairsT K H t l) : PairsT K H' t l := by
  obtain ⟨ps, h1, h2⟩ := h
  exact ⟨ps, sqT_mv hp n1 n2 m h1, Paired.mapP h2 fun _ _ z => sqT_mv hp n1 n2 m z⟩
end
/-- tuples made of pairs, so far -/
def TupsP (K : PySem.W.Frag) (H0 : Hp) (l : List (Int × Int)) (D : Addr) (i : Nat) (Hc : Hp) : Prop := ∃ qs : List Addr, Hc D = some (.lst (qs.map V.ref)) ∧ Paired (fun (q : Addr) (p : Int × Int) => SqT K Hc q [.int p.1, .int p.2]) qs (l.take i) ∧ Same H0 Hc
theorem TupsP.new {K : PySem.W.Frag} {H0 : Hp} {l : List (Int × Int)} {D : Addr} (nD : H0 D = none) : TupsP K H0 l D 0 (upd H0 D (.lst [])) := ⟨[], upd_same, .nil, same_new nD⟩
theorem TupsP.app {K : PySem.W.Frag} {H0 Hc H4 : Hp} {l : List (Int × Int)} {D t : Addr} {i : Nat} {p : Int × Int} (h : TupsP K H0 l D i Hc) (nD : H0 D = none) (hp : l[i]? = some p) (e : Same Hc H4) (ht : SqT K H4 t [.int p.1, .int p.2]) (hl : l.length ≤ 100000) :
    ∃ acc, H4 D = some (.lst acc) ∧ acc.length < sizeLine ∧ TupsP K H0 l D (i + 1) (upd H4 D (.lst (acc ++ [V.ref t]))) := by
  obtain ⟨qs, h1, h2, h3⟩ := h
  have hD := e _ _ h1
  have hlen := h2.length
  refine ⟨_, hD, ?_, qs ++ [t], ?_, ?_, same_set (h3.trans e) nD⟩
  · rw [List.length_map, hlen, List.length_take]
    exact Nat.lt_of_le_of_lt (Nat.min_le_right _ _) (Nat.lt_of_le_of_lt hl (by decide))
  · rw [upd_same, List.map_append]
    rfl
  · rw [take_succ hp]
    have k : ∀ {q : Addr} {p : Int × Int}, SqT K H4 q [.int p.1, .int p.2] → SqT K (upd H4 D (.lst (qs.map V.ref ++ [V.ref t]))) q [.int p.1, .int p.2] := fun z => sqT_mv hD (fun _ z => by cases z) (fun _ _ z => by cases z) (Mv.upd _ _ _) z
    exact Paired.snoc (Paired.mapP h2 fun _ _ z => k (Same.t e z)) (k ht)
end Kx
namespace Kx
open PySem PySem.Spec PyProof.Rows L2 SX LamX Ms
theorem go_make {C : Addr} {sp : Sp} {dvs : List V} {E : XK} {t : TA} {σ : L2.St} {H : Hp} {Q : VK} (h : t σ H fun vs H1 => ∀ x dx, H1 x = none → H1 dx = none → dx ≠ x → sp (.ref x :: (vs ++ dvs)) (upd (upd H1 dx (.own x)) x (.ins C dx [])) (fun v H2 => v = .non ∧ Q (.ref x) H2) E) : tMake C sp dvs E t σ H Q := h
theorem kvI_get {es : List (Int × Int)} {i : Nat} {k : Key} {v : V} (h : (kvI es)[i]? = some (k, v)) : ∃ p, es[i]? = some p ∧ k = .inl p.1 ∧ v = .int p.2 := by
  obtain ⟨p, hp, e⟩ := map_at h
  cases e
  exact ⟨p, hp, rfl, rfl⟩
theorem kvI_val {es : List (Int × Int)} {i : Nat} {p : Int × Int} (nd : (es.map (·.1)).Nodup) (h : es[i]? = some p) : some (V.int p.2) = valV (kvI es) (Sum.inl p.1) := by
  rw [valV_kvI, (lkp_mem nd).mpr (show (p.1, p.2) ∈ es from List.mem_of_getElem? h)]
  rfl
/-- new pairs, so far -/
def PnsP (H0 : Hp) (es : List (Int × Int)) (D : Addr) (i : Nat) (Hc : Hp) : Prop := ∃ ts : List Addr, Hc D = some (.lst (ts.map V.ref)) ∧ Paired (Pn Hc) ts (es.take i) ∧ Same H0 Hc
theorem PnsP.new {H0 : Hp} {es : List (Int × Int)} {D : Addr} (nD : H0 D = none) : PnsP H0 es D 0 (upd H0 D (.lst [])) := ⟨[], upd_same, .nil, same_new nD⟩
theorem PnsP.app {H0 Hc H4 : Hp} {es : List (Int × Int)} {D t : Addr} {i : Nat} {p : Int × Int} (h : PnsP H0 es D i Hc) (nD : H0 D = none) (hp : es[i]? = some p) (e : Same Hc H4) (ht : Pn H4 t p) (hl : es.length ≤ 100000) :
    ∃ acc, H4 D = some (.lst acc) ∧ acc.length < sizeLine ∧ PnsP H0 es D (i + 1) (upd H4 D (.lst (acc ++ [V.ref t]))) := by
  obtain ⟨qs, h1, h2, h3⟩ := h
  have hD := e _ _ h1
  have hlen := h2.length
  have k : ∀ {q : Addr} {p : Int × Int}, Pn H4 q p → Pn (upd H4 D (.lst (qs.map V.ref ++ [V.ref t]))) q p := fun {q p} z => by
    unfold Pn at z ⊢
    rw [upd_ne (ne_of_two z hD (fun z => by cases z))]
    exact z
  refine ⟨_, hD, ?_, qs ++ [t], ?_, ?_, same_set (h3.trans e) nD⟩
  · rw [List.length_map, hlen, List.length_take]
    exact Nat.lt_of_le_of_lt (Nat.min_le_right _ _) (Nat.lt_of_le_of_lt hl (by decide))
  · rw [upd_same, List.map_append]
    rfl
  · rw [take_succ hp]
    exact Paired.snoc (Paired.mapP h2 fun _ _ z => k (e _ _ z)) (k ht)
end Kx
namespace Kx
open PySem PySem.Spec PyProof.Rows L2 SX LamX Ms
theorem upd_none {H : Hp} {p b : Addr} {o : HO} (h : upd H p o b = none) : H b = none := by
  by_cases e : b = p
  · rw [e, upd_same] at h
    cases h
  · rw [upd_ne e] at h
    exact h
theorem work_new {K : PySem.W.Frag} {E : XK} {CW x dx nl : Addr} {H : Hp} {ns : List Int} {P : VK} {sp : Sp} (hsp : ∀ vs H Q E, (∃ (p dx nl : Addr), vs = [.ref p, .ref nl] ∧ H p = some (.ins CW dx []) ∧
      ∀ (H' : Hp) (pc ps : Addr), H pc = none → H ps = none → Mv p H H' → H' p = some (.ins CW dx (workF startM nl pc ps)) → H' pc = some (.dK []) → H' ps = some (.lst []) → Q .non H') → sp vs H Q E) (nx : H x = none) (ndx : H dx = none) (hn : SqQ K H nl (ns.map V.int))
    (q : ∀ H' pc ps, WorkAt K CW H H' x nl ns startM 0 dx pc ps [] → P .non H') : sp [.ref x, .ref nl] (upd (upd H dx (.own x)) x (.ins CW dx [])) P E := by
  refine hsp _ _ _ _ ⟨x, dx, nl, rfl, upd_same, fun H' pc ps n1 n2 m h1 h2 h3 => q H' pc ps ?_⟩
  have s1 : Same H (upd (upd H dx (.own x)) x (.ins CW dx [])) := fun b u h => by
    rw [upd_ne (ne_of_none h nx), upd_ne (ne_of_none h ndx)]
    exact h
  exact ⟨h1, h2, ⟨List.nodup_nil, (fun _ m => nomatch m), fun _ => rfl⟩, h3, hn, Nat.le_refl _, Nat.le_refl _, fun b u h => m b u (ne_of_none h nx) (s1 b u h), nx, upd_none (upd_none n1), upd_none (upd_none n2)⟩
section
variable {K : PySem.W.Frag} {C w nl dx pc ps : Addr} {H0 H H' : Hp} {ns : List Int} {s t : Mst} {m n : Nat} {es : List (Int × Int)}
/-- the cells are another dict now -/
theorem WorkAt.recell {D : Addr} {fs : List (Str × V)} {es' : List (Int × Int)} (h : WorkAt K C H0 H w nl ns s m dx pc ps es) (hD : H D = some (.dK (kvI es'))) (nD : H0 D = none) (e : fs = workF t nl D ps) (hc : CellsW es' t.cells) (hs : t.said = s.said) (hl : es'.length ≤ n) (hm : m ≤ n) : WorkAt K C H0 (upd H w (.ins C dx fs)) w nl ns t n dx D ps es' := by
  refine ⟨by rw [upd_same, e], ?_, hc, ?_, h.num, hl, by rw [hs]; exact Nat.le_trans h.sn hm, same_set h.old h.nw, h.nw, nD, h.np⟩
  · rw [upd_ne (ne_of_two hD h.at_ (fun z => by cases z))]
    exact hD
  · rw [upd_ne h.wp, hs]
    exact h.sat
/-- what was said is another list now -/
theorem WorkAt.resay {D : Addr} {fs : List (Str × V)} (h : WorkAt K C H0 H w nl ns s m dx pc ps es) (hD : H D = some (.lst (t.said.map V.int))) (nD : H0 D = none) (e : fs = workF t nl pc D) (hc : t.cells = s.cells) (hl : t.said.length ≤ n) (hm : m ≤ n) : WorkAt K C H0 (upd H w (.ins C dx fs)) w nl ns t n dx pc D es := by
  refine ⟨by rw [upd_same, e], ?_, by rw [hc]; exact h.cl, ?_, h.num, Nat.le_trans h.cn hm, hl, same_set h.old h.nw, h.nw, h.nc, nD⟩
  · rw [upd_ne h.wc]
    exact h.cat
  · rw [upd_ne (ne_of_two hD h.at_ (fun z => by cases z))]
    exact hD
end
theorem isC_nd {l : List (Int × Int)} {f : Int → Int} (h : IsC l f) : (l.map (·.1)).Nodup := List.pairwise_map.mpr (h.up.imp fun z e => by omega)
theorem isC_toW {l : List (Int × Int)} {f : Int → Int} (h : IsC l f) : CellsW l f := by
  refine ⟨isC_nd h, fun p m => ((h.mem p.1 p.2).mp m).2, fun c => ?_⟩
  cases e : lkp l c with
  | some v =>
    have := (h.mem c v).mp ((lkp_mem (isC_nd h)).mp e)
    exact this.1.symm
  | none =>
    by_cases z : f c = 0
    · exact z.symm
    · have := (lkp_mem (isC_nd h)).mpr ((h.mem c (f c)).mpr ⟨rfl, z⟩)
      rw [e] at this
      cases this
theorem put_take {l : List (Int × Int)} {i : Nat} {p : Int × Int} (nd : (l.map (·.1)).Nodup) (h : l[i]? = some p) : putK (kvI (l.take i)) (Sum.inl p.1) (V.int p.2) = kvI (l.take (i + 1)) := by
  rw [putK_kvI, take_succ h]
  have hn : lkp (l.take i) p.1 = none := by
    refine lkp_none.mpr fun m => ?_
    have s1 : ((l.take (i + 1)).map (·.1)).Nodup := List.Sublist.nodup (List.Sublist.map _ (List.take_sublist ..)) nd
    rw [take_succ h, List.map_append] at s1
    exact (List.nodup_append.mp s1).2.2 _ m _ (List.mem_singleton.mpr rfl) rfl
  unfold putI
  rw [hn]
  rfl
/-- the dict of pairs, so far -/
def DctP (H0 : Hp) (l : List (Int × Int)) (D : Addr) (i : Nat) (Hc : Hp) : Prop := Hc D = some (.dK (kvI (l.take i))) ∧ Same H0 Hc
theorem DctP.app {H0 Hc : Hp} {l : List (Int × Int)} {D : Addr} {i : Nat} {p : Int × Int} (h : DctP H0 l D i Hc) (nD : H0 D = none) (nd : (l.map (·.1)).Nodup) (hp : l[i]? = some p) : DctP H0 l D (i + 1) (upd Hc D (.dK (putK (kvI (l.take i)) (Sum.inl p.1) (V.int p.2)))) :=
  ⟨by rw [upd_same, put_take nd hp], same_set h.2 nD⟩
end Kx
namespace Kx
open PySem PySem.Spec PyProof.Rows L2 SX LamX Ms
theorem go_dget {td ty : TE} {σ : L2.St} {H : Hp} {Q : VK} (h : td σ H fun x H1 => ty σ H1 fun y H2 => ∃ a v, x = .ref a ∧ DGet H2 a y (some v) ∧ Q v H2) : tDGet td ty σ H Q := h
theorem go_dput {td ty tv : TE} {D : Ends} {σ : L2.St} {H : Hp} (h : tv σ H fun v H1 => td σ H1 fun x H2 => ty σ H2 fun y H3 => ∃ a H4, x = .ref a ∧ DPut H3 a y v H4 ∧ D.nx σ H4) : sDPut td ty tv D σ H := h
theorem go_par2 {i j : Nat} {t : TA} {D : Ends} {σ : L2.St} {H : Hp} (h : t σ H fun vs H1 => ∃ v w, vs = [v, w] ∧ D.nx ((σ.set i (some v)).set j (some w)) H1) : tPar i j t D σ H := h
section
variable {L pc ps : Addr} {H : Hp} {s t : Mst} {m i : Nat} {es : List (Int × Int)} {σ : L2.St} {k : Str} {v : V}
theorem rdL {Q : VK} (hi : σ[i]? = some (some (.ref L))) (h : LiveAt H L pc s m ps es) (e : valV (liveK s pc ps) (.inr k) = some v) (q : Q v H) : tDGet (tVar i) (tC (.str k)) σ H Q := ⟨_, hi, L, v, rfl, h.get e, q⟩
theorem stL {D : Ends} (hi : σ[i]? = some (some (.ref L))) (h : LiveAt H L pc s m ps es) (e : putK (liveK s pc ps) (.inr k) v = liveK t pc ps) (hc : t.cells = s.cells) (hs : t.said = s.said) (kk : ∀ H', Mv2 L pc H H' → LiveAt H' L pc t m ps es → D.nx σ H') :
    (tVar i) σ H fun x H2 => (tC (.str k)) σ H2 fun y H3 => ∃ a H4, x = .ref a ∧ DPut H3 a y v H4 ∧ D.nx σ H4 := ⟨_, hi, L, _, rfl, DPut.k (k := .inr k) h.at_ live_len, kk _ Mv2.l (h.put e hc hs)⟩
theorem stGL {Q : L2.St → Hp → Prop} (hi : σ[i]? = some (some (.ref L))) (h : LiveAt H L pc s m ps es) (e : putK (liveK s pc ps) (.inr k) v = liveK t pc ps) (hc : t.cells = s.cells) (hs : t.said = s.said) (kk : ∀ H', Mv2 L pc H H' → LiveAt H' L pc t m ps es → Q σ H') :
    gSub (tVar i) (tC (.str k)) rSetD v σ H Q := ⟨_, hi, L, _, rfl, DPut.k (k := .inr k) h.at_ live_len, kk _ Mv2.l (h.put e hc hs)⟩
theorem cell_getL {f : Int → Int} (h : CellsL es f) (c : Int) : (valV (kvI es) (Sum.inl c)).getD (.int 0) = .int (f c) := by
  rw [valV_kvI, ← h.at_]
  cases lkp es c <;> rfl
/-- what was said is another list now -/
theorem LiveAt.resay {D : Addr} (h : LiveAt H L pc s m ps es) (hD : H D = some (.lst (t.said.map V.int))) (e : putK (liveK s pc ps) (.inr "said") (.ref D) = liveK t pc D) (hc : t.cells = s.cells) (hl : t.said.length ≤ m + 1) : LiveAt (upd H L (.dK (putK (liveK s pc ps) (.inr "said") (.ref D)))) L pc t (m + 1) D es := by
  refine ⟨by rw [upd_same, e], ?_, by rw [hc]; exact h.cl, ?_, Nat.le_succ_of_le h.cn, hl, h.ne⟩
  · rw [upd_ne h.ne.symm]
    exact h.cat
  · rw [upd_ne (ne_of_two hD h.at_ (fun z => by cases z))]
    exact hD
/-- a cell is set -/
theorem LiveAt.cell {c v : Int} (h : LiveAt H L pc s m ps es) (e : liveK t pc ps = liveK s pc ps) (hs : t.said = s.said) (hc : t.cells = putC s.cells c v) : LiveAt (upd H pc (.dK (kvI (putI es c v)))) L pc t (m + 1) ps (putI es c v) := by
  refine ⟨?_, upd_same, by rw [hc]; exact h.cl.put c v, ?_, Nat.le_trans (putI_len ..) (Nat.succ_le_succ h.cn), by rw [hs]; exact Nat.le_succ_of_le h.sn, h.ne⟩
  · rw [upd_ne h.ne, e]
    exact h.at_
  · rw [upd_ne (ne_of_two h.sat h.cat (fun z => by cases z)), hs]
    exact h.sat
end
section
variable {t u : TS} {D : Ends} {σ : L2.St} {H : Hp} {i : Nat} {n c : Int}
theorem ifEq (hi : σ[i]? = some (some (.int n))) (h1 : n = c → t D σ H) (h2 : n ≠ c → u D σ H) : tIfS (tTest (tOp rEq (tVar i) (tC (.int c)))) t u D σ H := by
  refine go_if (go_test (go_op (go_var hi ⟨rfl, _, rfl, ?_⟩)))
  rw [decI]
  by_cases e : n = c
  · rw [decide_eq_true e]
    exact iteT (B := _) (h1 e)
  · rw [decide_eq_false e]
    exact iteF (A := _) (h2 e)
theorem ifGt (hi : σ[i]? = some (some (.int n))) (h1 : c < n → t D σ H) (h2 : ¬ c < n → u D σ H) : tIfS (tTest (tOp (rI0 fun i j => V.bl (decide (j < i))) (tVar i) (tC (.int c)))) t u D σ H := by
  refine go_if (go_test (go_op (go_var hi (go_c ⟨_, _, rfl, rfl, _, rfl, ?_⟩))))
  by_cases e : c < n
  · rw [decide_eq_true e]
    exact iteT (B := _) (h1 e)
  · rw [decide_eq_false e]
    exact iteF (A := _) (h2 e)
theorem ifLt (hi : σ[i]? = some (some (.int n))) (h1 : n < c → t D σ H) (h2 : ¬ n < c → u D σ H) : tIfS (tTest (tOp (rI0 fun i j => V.bl (decide (i < j))) (tVar i) (tC (.int c)))) t u D σ H := by
  refine go_if (go_test (go_op (go_var hi (go_c ⟨_, _, rfl, rfl, _, rfl, ?_⟩))))
  by_cases e : n < c
  · rw [decide_eq_true e]
    exact iteT (B := _) (h1 e)
  · rw [decide_eq_false e]
    exact iteF (A := _) (h2 e)
end
end Kx
namespace Kx
open PySem PySem.Spec PyProof.Rows L2 SX LamX Ms
section
variable {K : PySem.W.Frag} {L pc ps a : Addr} {H H' : Hp} {s : Mst} {m : Nat} {es : List (Int × Int)} {xs : List V}
theorem sqL_mv2 (h : LiveAt H L pc s m ps es) (mv : Mv2 L pc H H') (q : SqL K H a xs) : SqL K H' a xs := by
  rcases q with (q | ⟨ob, q⟩) | q
  · exact .inl (.inl (mv _ _ (ne_of_two q h.at_ (fun z => by cases z)) (ne_of_two q h.cat (fun z => by cases z)) q))
  · exact .inl (.inr ⟨ob, mv _ _ (ne_of_two q h.at_ (fun z => by cases z)) (ne_of_two q h.cat (fun z => by cases z)) q⟩)
  · exact .inr q
theorem sqT_mv2 (h : LiveAt H L pc s m ps es) (mv : Mv2 L pc H H') (q : SqT K H a xs) : SqT K H' a xs := by
  rcases q with (q | ⟨ob, q⟩) | q
  · exact .inl (.inl (mv _ _ (ne_of_two q h.at_ (fun z => by cases z)) (ne_of_two q h.cat (fun z => by cases z)) q))
  · exact .inl (.inr ⟨ob, mv _ _ (ne_of_two q h.at_ (fun z => by cases z)) (ne_of_two q h.cat (fun z => by cases z)) q⟩)
  · exact .inr q
theorem StandAt.mv2 {C p dx t u : Addr} {s' : Mst} {l : List (Int × Int)} (h : LiveAt H L pc s m ps es) (mv : Mv2 L pc H H') (q : StandAt K C H p s' l dx t u) : StandAt K C H' p s' l dx t u := by
  refine ⟨mv _ _ (ne_of_two q.at_ h.at_ (fun z => by cases z)) (ne_of_two q.at_ h.cat (fun z => by cases z)) q.at_, ?_, sqT_mv2 h mv q.sat, q.isC⟩
  obtain ⟨ps, h1, h2⟩ := q.cat
  exact ⟨ps, sqT_mv2 h mv h1, Paired.mapP h2 fun _ _ z => sqT_mv2 h mv z⟩
theorem Wh.mv2 {w c : Addr} {n : Nat} (h : LiveAt H L pc s m ps es) (mv : Mv2 L pc H H') (q : Wh H w c n) : Wh H' w c n := by
  obtain ⟨cs, t, l, h1, h2, h3⟩ := q
  exact ⟨cs, t, l, mv _ _ (ne_of_two h1 h.at_ (fun z => by cases z)) (ne_of_two h1 h.cat (fun z => by cases z)) h1, mv _ _ (ne_of_two h2 h.at_ (fun z => by cases z)) (ne_of_two h2 h.cat (fun z => by cases z)) h2, h3⟩
end
theorem go_dget2 {td ty tx : TE} {σ : L2.St} {H : Hp} {Q : VK} (h : td σ H fun x H1 => ∃ a, x = .ref a ∧ IsD H1 a ∧ ty σ H1 fun y H2 => tx σ H2 fun z H3 => ∃ o, DGet H3 a y o ∧ Q (o.getD z) H3) : tDGet2 td ty tx σ H Q := h
end Kx
namespace Kx
open PySem PySem.Spec PyProof.Rows L2 SX LamX Ms
section
variable {t u : TS} {tb : TT} {D : Ends} {σ : L2.St} {H : Hp} {i : Nat} {n c : Int}
theorem ifAndEq (hi : σ[i]? = some (some (.int n))) (h1 : n = c → tb σ H fun b H1 => if b = true then t D σ H1 else u D σ H1) (h2 : n ≠ c → u D σ H) : tIfS (tAnd (tTest (tOp rEq (tVar i) (tC (.int c)))) tb) t u D σ H := by
  refine go_if (go_andT (go_test (go_op (go_var hi ⟨rfl, _, rfl, ?_⟩))))
  rw [decI]
  by_cases e : n = c
  · rw [decide_eq_true e]
    exact iteT (B := _) (h1 e)
  · rw [decide_eq_false e]
    exact iteF (A := _) (h2 e)
theorem ifAndGt (hi : σ[i]? = some (some (.int n))) (h1 : c < n → tb σ H fun b H1 => if b = true then t D σ H1 else u D σ H1) (h2 : ¬ c < n → u D σ H) : tIfS (tAnd (tTest (tOp (rI0 fun i j => V.bl (decide (j < i))) (tVar i) (tC (.int c)))) tb) t u D σ H := by
  refine go_if (go_andT (go_test (go_op (go_var hi (go_c ⟨_, _, rfl, rfl, _, rfl, ?_⟩)))))
  by_cases e : c < n
  · rw [decide_eq_true e]
    exact iteT (B := _) (h1 e)
  · rw [decide_eq_false e]
    exact iteF (A := _) (h2 e)
end
end Kx
namespace Kx
open PySem PySem.Spec PyProof.Rows L2 SX LamX Ms
/-- new pairs of the cells that are not 0, so far -/
def nz (es : List (Int × Int)) : List (Int × Int) := es.filter fun p => decide (p.2 ≠ 0)
def PnsF (H0 : Hp) (es : List (Int × Int)) (D : Addr) (i : Nat) (Hc : Hp) : Prop := ∃ ts : List Addr, Hc D = some (.lst (ts.map V.ref)) ∧ Paired (Pn Hc) ts (nz (es.take i)) ∧ Same H0 Hc
theorem PnsF.new {H0 : Hp} {es : List (Int × Int)} {D : Addr} (nD : H0 D = none) : PnsF H0 es D 0 (upd H0 D (.lst [])) := ⟨[], upd_same, .nil, same_new nD⟩
theorem PnsF.app {H0 Hc H4 : Hp} {es : List (Int × Int)} {D t : Addr} {i : Nat} {p : Int × Int} (h : PnsF H0 es D i Hc) (nD : H0 D = none) (hp : es[i]? = some p) (hz : p.2 ≠ 0) (e : Same Hc H4) (ht : Pn H4 t p) (hl : es.length ≤ 100000) :
    ∃ acc, H4 D = some (.lst acc) ∧ acc.length < sizeLine ∧ PnsF H0 es D (i + 1) (upd H4 D (.lst (acc ++ [V.ref t]))) := by
  obtain ⟨qs, h1, h2, h3⟩ := h
  have hD := e _ _ h1
  have hlen := h2.length
  have k : ∀ {q : Addr} {p : Int × Int}, Pn H4 q p → Pn (upd H4 D (.lst (qs.map V.ref ++ [V.ref t]))) q p := fun {q p} z => by
    unfold Pn at z ⊢
    rw [upd_ne (ne_of_two z hD (fun z => by cases z))]
    exact z
  refine ⟨_, hD, ?_, qs ++ [t], ?_, ?_, same_set (h3.trans e) nD⟩
  · rw [List.length_map, hlen]
    refine Nat.lt_of_le_of_lt (List.length_filter_le ..) ?_
    rw [List.length_take]
    exact Nat.lt_of_le_of_lt (Nat.min_le_right _ _) (Nat.lt_of_le_of_lt hl (by decide))
  · rw [upd_same, List.map_append]
    rfl
  · unfold nz
    rw [take_succ hp, List.filter_append, List.filter_cons_of_pos (by simpa using hz)]
    exact Paired.snoc (Paired.mapP h2 fun _ _ z => k (e _ _ z)) (k ht)
theorem PnsF.skip {H0 Hc H4 : Hp} {es : List (Int × Int)} {D : Addr} {i : Nat} {p : Int × Int} (h : PnsF H0 es D i Hc) (hp : es[i]? = some p) (hz : p.2 = 0) (e : Same Hc H4) : PnsF H0 es D (i + 1) H4 := by
  obtain ⟨qs, h1, h2, h3⟩ := h
  refine ⟨qs, e _ _ h1, ?_, h3.trans e⟩
  unfold nz
  rw [take_succ hp, List.filter_append, List.filter_cons_of_neg (by simpa using hz), List.filter_nil, List.append_nil]
  exact Paired.mapP h2 fun _ _ z => e _ _ z
theorem nz_nd {es : List (Int × Int)} (nd : (es.map (·.1)).Nodup) : ((nz es).map (·.1)).Nodup := List.Sublist.nodup (List.Sublist.map _ (List.filter_sublist ..)) nd
theorem nz_len (es : List (Int × Int)) : (nz es).length ≤ es.length := List.length_filter_le ..
/-- what a stand is, as data -/
theorem dp_pairs {K : PySem.W.Frag} {H : Hp} {t : Addr} {l : List (Int × Int)} (h : PairsT K H t l) : Dp K H (.ref t) (.tuple (l.map pairD)) := by
  obtain ⟨ps, h1, h2⟩ := h
  refine .tup h1 ?_
  clear h1
  induction h2 with
  | nil => exact .nil
  | cons a _ ih => exact .cons (.tup a (.cons (.int _) (.cons (.int _) .nil))) ih
def standL (s : Mst) (t u : Addr) : List V := [.int s.block, .int s.room, .bl s.tick, .bl s.flag, .bl s.test, .int s.mode, .int s.first, .int s.second, .ref t, .int (s.heard : Nat), .ref u, .bl s.isd]
theorem dp_standA {K : PySem.W.Frag} {H : Hp} {t u : Addr} {s : Mst} {l : List (Int × Int)} (hc : PairsT K H t l) (hs : SqT K H u (s.said.map V.int)) : DpAll K H (standL s t u) (standD s l) :=
  .cons (.int _) <| .cons (.int _) <| .cons (.bl _) <| .cons (.bl _) <| .cons (.bl _) <| .cons (.int _) <| .cons (.int _) <| .cons (.int _) <| .cons (dp_pairs hc) <| .cons (.int _) <| .cons (.tup hs (dpAll_map _ fun _ _ => .int _)) <| .cons (.bl _) .nil
/-- the text of a stand -/
def standX (s : Mst) (l : List (Int × Int)) : Str := (PyData.list (standD s l)).shown
theorem repr_stand {K : PySem.W.Frag} {H : Hp} {p t u : Addr} {s : Mst} {l : List (Int × Int)} {b : Nat} {Q : VK} (h : H p = some (.lst (standL s t u))) (hc : PairsT K H t l) (hs : SqT K H u (s.said.map V.int)) (hb : Bd b s) (b0 : 20 ≤ b) (b1 : b ≤ 1915) (hC : IsC l s.cells) (l2 : l.length ≤ 2000) (s2 : s.said.length ≤ 2000) (q : Q (.str (standX s l)) H) : rRepr K [.ref p] H Q := by
  have sh := shB_stand hb b1 hC l2 s2 b0
  exact ⟨p, _, rfl, .lst (.inl (.inl h)) (dp_standA hc hs), sh.sh, sh.nd, Nat.le_trans sh.dp (by decide), sh.len (Nat.le_refl _), q⟩
end Kx
namespace Kx
open PySem PySem.Spec PyProof.Rows L2 SX LamX Ms
/-- a stand that is being drawn -/
structure Drw (H0 Hx : Hp) (w c : Addr) (n : Nat) (L pc ps : Addr) (s : Mst) (m : Nat) (es : List (Int × Int)) : Prop where
  live : LiveAt Hx L pc s m ps es
  bd : Bd 83 s
  wh : Wh Hx w c n
  mv : Mv w H0 Hx
  nL : H0 L = none
  npc : H0 pc = none
  psw : ps ≠ w
section
variable {H0 Hx Hy : Hp} {w c L pc ps ps' : Addr} {n n' m m' : Nat} {s t : Mst} {es es' : List (Int × Int)}
theorem LiveAt.mvw (h : LiveAt Hx L pc s m ps es) (wh : Wh Hx w c n) (psw : ps ≠ w) (mv : Mv w Hx Hy) : LiveAt Hy L pc s m ps es := by
  obtain ⟨cs, x, l, h1, _⟩ := wh
  exact { h with at_ := mv _ _ (ne_of_two h.at_ h1 (fun z => by cases z)) h.at_, cat := mv _ _ (ne_of_two h.cat h1 (fun z => by cases z)) h.cat, sat := mv _ _ psw h.sat }
theorem Drw.draw (d : Drw H0 Hx w c n L pc ps s m es) (mv : Mv w Hx Hy) (wh : Wh Hy w c n') : Drw H0 Hy w c n' L pc ps s m es :=
  { d with live := d.live.mvw d.wh d.psw mv, wh := wh, mv := d.mv.trans mv }
theorem Drw.new (d : Drw H0 Hx w c n L pc ps s m es) (e : Same Hx Hy) : Drw H0 Hy w c n L pc ps s m es := d.draw (Mv.of e) (d.wh.same e)
theorem Drw.set (d : Drw H0 Hx w c n L pc ps s m es) (m2 : Mv2 L pc Hx Hy) (live : LiveAt Hy L pc t m' ps' es') (bd : Bd 83 t) (psw : ps' ≠ w) : Drw H0 Hy w c n L pc ps' t m' es' :=
  ⟨live, bd, d.wh.mv2 d.live m2, fun b o hb h => m2 _ _ (ne_of_none h d.nL) (ne_of_none h d.npc) (d.mv b o hb h), d.nL, d.npc, psw⟩
theorem Drw.lt (d : Drw H0 Hx w c n L pc ps s m es) (h : n ≤ n') : Drw H0 Hx w c n' L pc ps s m es := { d with wh := d.wh.lt h }
theorem Drw.mono (d : Drw H0 Hx w c n L pc ps s m es) (h : m ≤ m') : Drw H0 Hx w c n L pc ps s m' es := { d with live := d.live.mono h }
end
theorem bi_small {i : Int} {b : Nat} (h : -1000000 ≤ i) (k : i ≤ 1000000) (hb : 20 ≤ b) : Bi b i := Nat.lt_of_lt_of_le (show i.natAbs < 2 ^ 20 by omega) (Nat.pow_le_pow_right (by decide) hb)
end Kx
namespace Kx
open PySem PySem.Spec PyProof.Rows L2 SX LamX Ms
theorem bd_start : Bd 83 startM where
  block := bi_small (by decide) (by decide) (by decide)
  room := bi_small (by decide) (by decide) (by decide)
  first := bi_small (by decide) (by decide) (by decide)
  second := bi_small (by decide) (by decide) (by decide)
  cells := fun _ => bi_small (i := 0) (by decide) (by decide) (by decide)
  keys := fun _ z => absurd rfl z
  said := fun _ m => nomatch m
  mode := by decide
  heard := by decide
  low := by decide
end Kx
namespace Ms
/-- a row, and one in which each word stands one or more times -/
inductive Thk : List Nat → List Nat → Prop
  | nil : Thk [] []
  | snoc {r t : List Nat} (h : Thk r t) (n k : Nat) : Thk (r ++ [n]) (t ++ List.replicate (k + 1) n)
theorem doR_one (ns : List Int) (s : Mst) (n : Nat) : doR ns s [n] = doW ns s n := rfl
theorem Thk.same {ns : List Int} {r t : List Nat} (h : Thk r t) (h30 : ∀ n ∈ r, n < 30) (s : Mst) : doR ns s t = doR ns s r := by
  induction h with
  | nil => rfl
  | @snoc r t h n k ih =>
    rw [doR_app, doR_app, ih fun x m => h30 x (List.mem_append_left _ m), doR_rep ns n (h30 n (List.mem_append_right _ (List.mem_singleton.mpr rfl))) k]
    rfl
theorem Thk.pre {ns : List Int} {r t : List Nat} (h : Thk r t) (h30 : ∀ n ∈ r, n < 30) (s : Mst) : ∀ k, ∃ j, doR ns s (t.take k) = doR ns s (r.take j) := by
  induction h with
  | nil => exact fun k => ⟨0, by rw [List.take_nil, List.take_nil]⟩
  | @snoc r t h n m ih =>
    have ih' := ih fun x m => h30 x (List.mem_append_left _ m)
    have hn := h30 n (List.mem_append_right _ (List.mem_singleton.mpr rfl))
    intro k
    rw [List.take_append]
    by_cases hk : k ≤ t.length
    · obtain ⟨j, hj⟩ := ih' k
      rw [show k - t.length = 0 by omega, List.take_zero, List.append_nil, hj]
      by_cases hj2 : j ≤ r.length
      · exact ⟨j, by rw [List.take_append_of_le_length hj2]⟩
      · exact ⟨r.length, by rw [List.take_of_length_le (by omega), List.take_append_of_le_length (Nat.le_refl _), List.take_length]⟩
    · obtain ⟨d, hd⟩ : ∃ d, k - t.length = d + 1 := ⟨k - t.length - 1, by omega⟩
      rw [List.take_of_length_le (by omega : t.length ≤ k), hd, List.take_replicate, doR_app, h.same (fun x m => h30 x (List.mem_append_left _ m))]
      obtain ⟨e, he⟩ : ∃ e, min (d + 1) (m + 1) = e + 1 := ⟨min d m, by omega⟩
      rw [he, doR_rep ns n hn e]
      refine ⟨(r ++ [n]).length, ?_⟩
      rw [List.take_length, doR_app]
      rfl
theorem Thk.all {r t : List Nat} (h : Thk r t) (h30 : ∀ n ∈ r, n < 30) : ∀ n ∈ t, n < 30 := by
  induction h with
  | nil => exact fun _ m => nomatch m
  | @snoc r t h n k ih =>
    intro x m
    rcases List.mem_append.mp m with m | m
    · exact ih (fun x m => h30 x (List.mem_append_left _ m)) x m
    · rw [(List.mem_replicate.mp m).2]
      exact h30 n (List.mem_append_right _ (List.mem_singleton.mpr rfl))
end Ms
namespace Kx
open PySem PySem.Spec PyProof.Rows L2 SX LamX Ms
/-- what was there stays, though new dicts are filled -/
theorem Mv2.new {O oc : Addr} {Ha Hb Hc : Hp} (m : Mv2 O oc Hb Hc) (e : Same Ha Hb) (n1 : Ha O = none) (n2 : Ha oc = none) : Same Ha Hc := fun b o h => m b o (ne_of_none h n1) (ne_of_none h n2) (e b o h)
theorem StandAt.mvw {K : PySem.W.Frag} {C p dx t u w c : Addr} {H H' : Hp} {s : Mst} {l : List (Int × Int)} {n : Nat} (h : StandAt K C H p s l dx t u) (wh : Wh H w c n) (m : Mv w H H') : StandAt K C H' p s l dx t u := by
  obtain ⟨cs, x, y, h1, _⟩ := wh
  exact { h with at_ := m _ _ (ne_of_two h.at_ h1 (fun z => by cases z)) h.at_, cat := h.cat.mv h1 (fun _ z => by cases z) (fun _ _ z => by cases z) m, sat := sqT_mv h1 (fun _ z => by cases z) (fun _ _ z => by cases z) m h.sat }
theorem ne_text {x y : Str} (h : x = y) {H : Hp} {Q : Bool → Hp → Prop} (q : Q false H) : ∃ k, V.bl (!decide (V.str x = V.str y)) = .bl k ∧ Q k H := by
  subst h
  exact ⟨false, by simp, q⟩
end Kx
namespace Kx
open PySem PySem.Spec PyProof.Rows L2 SX LamX Ms
theorem midE {te : TE} {σ : L2.St} {H : Hp} {Q : VK} (Pz : V → Hp → Prop) (h1 : ∀ Q1 : VK, (∀ v H4, Pz v H4 → Q1 v H4) → te σ H Q1) (h2 : ∀ v H4, Pz v H4 → Q v H4) : te σ H Q := h1 Q h2
end Kx
namespace Kx
open PySem PySem.Spec PyProof.Rows L2 SX LamX Ms
theorem inV_row (n : Nat) (row : List Nat) : inV (.int (n : Int)) (rowV row) = decide (n ∈ row) := by
  unfold inV rowV
  rw [List.any_map]
  induction row with
  | nil => rfl
  | cons x r ih =>
    rw [List.any_cons, ih]
    show (eqV (.int (x : Int)) (.int (n : Int)) || decide (n ∈ r)) = _
    by_cases e : n = x
    · subst e
      simp [eqV]
    · have : ¬ (x : Int) = (n : Int) := by omega
      simp [eqV, this, e]
theorem flat_row (row : List Nat) : (rowV row).all flatV = true := by
  rw [List.all_eq_true]
  intro v m
  obtain ⟨n, _, rfl⟩ := List.mem_map.mp m
  rfl
theorem rep_row (k n : Nat) : (List.replicate k [V.int (n : Int)]).flatten = rowV (List.replicate k n) := by
  induction k with
  | zero => rfl
  | succ k ih =>
    rw [List.replicate_succ, List.flatten_cons, ih, List.replicate_succ]
    rfl
theorem row_app (a b : List Nat) : rowV a ++ rowV b = rowV (a ++ b) := (List.map_append ..).symm
end Kx
namespace Kx
open PySem PySem.Spec PyProof.Rows L2 SX LamX
/-! ### try: .. except X as n: ..  except Y as n: .. -/
/-- behind an except suite the name holds nothing -/
def goneD (i : Nat) (D : Ends) : Ends := ⟨fun σ2 H2 => D.nx (σ2.set i none) H2, D.rt, fun σ2 H2 => D.bk (σ2.set i none) H2, fun σ2 H2 => D.ct (σ2.set i none) H2⟩
/-- what the named clauses wish of an exception of the body -/
def wManyN (K : PySem.W.Frag) (i : Nat) (Wo : WX) (D : Ends) : List (Value × (Addr → Value → Option Addr → TS)) → WX
  | [] => Wo
  | p :: r => fun cl dd σ H => ∃ yes, PySem.W.exmOne K cl p.1 = some yes ∧ (yes = true → ∀ x, H x = none → p.2 x cl dd (goneD i D) (σ.set i (some (.ref x))) H) ∧ (yes = false → wManyN K i Wo D r cl dd σ H)
inductive HdsN (X : Cx) (n : Str) : List ExceptHandler → List (Value × (Addr → Value → Option Addr → TS)) → Prop
  | nil : HdsN X n [] []
  | cons {x : Str} {c : Value} {sx : Addr → Value → Option Addr → TS} {st0 : Stmt} {sts : List Stmt} {p1 p2 : Pos} {more : List ExceptHandler} {l : List (Value × (Addr → Value → Option Addr → TS))} (names : Names X x c)
      (suite : ∀ (a : Addr) (ob : Obj) (cl : Value) (dd : Option Addr) (pn : List (Addr × Obj)), Zc cl dd ob → (∃ fv, ob.data = .fields fv) → PSs (X.suite a ((a, ob) :: pn)) (st0 :: sts) (sx a cl dd)) (rest : HdsN X n more l) :
      HdsN X n (.ExceptHandler (some (.Name x p1)) (some n) (st0 :: sts) p2 :: more) ((c, sx) :: l)
section
variable {X : Cx} {body : List Stmt} {hd0 : ExceptHandler} {hds : List ExceptHandler} {l : List (Value × (Addr → Value → Option Addr → TS))} {pos : Pos} {tb : WX → TS} {Wo : WX} {n : Str} {i : Nat}
theorem ps_manyN (stk : X.stack = X.env :: X.outer) (frm : X.env.frame = some X.env.locals) (nd : X.N.Nodup) (at_i : X.N[i]? = some n) (isl : X.env.kindOf n = some .local) (tk : Takes X Wo)
    (run : ∀ (W : WX) (pn : List (Addr × Obj)) (xe : Value → Shared → Prop), Takes (X.tr pn xe) W → PassesOwn (model X.prog X.w) X.A X.env xe → PSs (X.tr pn xe) body (tb W))
    (hand : HdsN X n (hd0 :: hds) l) : PS X (.Try body (hd0 :: hds) [] [] pos) (fun D σ H => tb (wManyN X.K i Wo D l) D σ H) := by
  constructor
  intro pins s σ H D I want
  have ok := I.ok
  have fr : X.A.frames = some (X.env :: X.outer) := by rw [ok.frames, stk]
  have place : Loc X.env.scope n := .inl isl
  apply wpAny_Try_except
  refine wpAny_mono ((run (wManyN X.K i Wo D l) (X.pn ++ pins) (fun e t1 => wpAny (model X.prog X.w) X.A (noteFrame e X.env) (fun _ t2 => wpAny (model X.prog X.w) X.A (setFlight e none) (fun _ t3 =>
    wpAny (model X.prog X.w) X.A (handleBy e X.env (hd0 :: hds)) (SP X pins D) X.xe t3) X.xe t2) X.xe t1) (fun u t xx => ?_) PassesOwn.looking).run [] s σ H D (I.toTry _) want) (fun f t1 ends => ?_) (fun _ _ z => z)
  · obtain ⟨a, B, sI, _, σ2, H2, cl, dd, rfl, J2, nb, up, sky, na, os, ag, wish⟩ := xx
    have J : Inv X pins σ2 H2 sI := J2.ofTry ok
    have sky2 : Sky B (X.env :: X.outer) a (Zc cl dd) X.env.locals t.heap := by rw [← stk]; exact sky
    show wpAny (model X.prog X.w) X.A (noteFrame (.ref a) X.env) _ _ _
    refine Sky.land Zc.steady fr frm sky2 fun h3 fl3 up3 => ?_
    have J3 : Inv X pins σ2 H2 { t with heap := h3 } := J.landed nb fl3.1 (up.trans up3) os ag
    obtain ⟨ob3, fv3, at3, z3, dt3⟩ := fl3.there
    have apart : a ∉ frs (X.env :: X.outer) := fun hm => by
      obtain ⟨_, o2, e2, hnf⟩ := fl3.2.2.1.mem hm
      rw [at3] at e2
      cases e2
      exact hnf _ dt3
    have nL : a ≠ X.env.locals := fun z => apart (List.mem_filterMap.mpr ⟨X.env, List.mem_cons_self, by rw [frm, z]⟩)
    have nF : a ∉ X.fs := fun hm => by
      obtain ⟨e, me, q⟩ := List.mem_filterMap.mp hm
      exact apart (List.mem_filterMap.mpr ⟨e, List.mem_cons_of_mem _ me, q⟩)
    have S3 := J3.suite at3 dt3 na nL nF
    have go : ∀ {hs : List ExceptHandler} {m : List (Value × (Addr → Value → Option Addr → TS))}, HdsN X n hs m → wManyN X.K i Wo D m cl dd σ2 H2 →
        wpAny (model X.prog X.w) X.A (handleBy (.ref a) X.env hs) (SP X pins D) X.xe { t with heap := h3 } := by
      intro hs m hk
      induction hk with
      | nil =>
        intro w
        apply wpAny_handleBy_nil
        obtain ⟨k1, k2, k3, ob, fv, T1, oT, t4, he, hz, hd, h1, hr⟩ := id fl3
        unfold PySem.passOn
        apply wpAny_bind
        refine wpAny_field he hd h1 ?_
        rw [if_neg (show ¬ ((Value.ref T1 == Value.none) = true) from by simp)]
        have out : wpAny (model X.prog X.w) X.A (setFlight (.ref a) X.env.frame) (fun _ t5 => wpAny (model X.prog X.w) X.A (throw (.ref a) : Sem Flow) (SP X pins D) X.xe t5) X.xe { t with heap := h3 } := by
          rw [frm]
          refine HandSPX.setFlight_upZ fl3 fun h4 ww up4 => wpAny_throw (tk _ _ ?_)
          exact ⟨a, B, sI, pins, σ2, H2, cl, dd, rfl, J, nb, (up.trans up3).trans up4, .inr (.inr (by rw [stk]; exact ww)), na, os, ag, w⟩
        first
          | exact wpAny_bind (wpAny_pure (wpAny_bind out))
          | exact wpAny_bind out
      | @cons x c sx st0 sts p1 p2 more m2 names suite rest ih =>
        intro w
        obtain ⟨yes, is, yea, nay⟩ := w
        refine wpAny_handleBy_cons (codeAny_handlers_test ?_) (by intro q; cases q)
        have look : PySem.W.Looks (model X.prog X.w) h3 (typeOf (.ref a)) cl := fun A Q E s k q => wpAny_typeOf_ref (k _ _ at3) (by rw [z3.1]; exact q)
        have one := PySem.W.exm_one (M := model X.prog X.w) (J3.kIn) look is
        have test : ∀ {Q : Value → Shared → Prop} {E : Value → Shared → Prop}, Q c { t with heap := h3 } → wpAny (model X.prog X.w) (X.A.mark (some (.ref a))) (eval (.Name x p1) X.env) Q E { t with heap := h3 } := fun {Q E} q => by
          obtain ⟨hg, dbg, hm | ⟨hm, hv, nn⟩⟩ := names
          · exact ld_glob (X := X.suite a ((a, ob3) :: (X.pn ++ pins))) S3 hg hm q dbg
          · exact ld_blt (X := X.suite a ((a, ob3) :: (X.pn ++ pins))) S3 hg hm hv q nn dbg
        apply test
        apply one.here
        cases yes with
        | true =>
          apply codeAny_handlers_suite_as
          refine HandSPX.lands_againZ fl3 fun h4 fl4 up4 => ?_
          have J4 : Inv X pins σ2 H2 { t with heap := h4 } := J.landed nb fl4.1 ((up.trans up3).trans up4) os ag
          obtain ⟨ob4, fv4, at4, z4, dt4⟩ := fl4.there
          have S4 := J4.suite at4 dt4 na nL nF
          refine store_ok (X := X.suite a ((a, ob4) :: (X.pn ++ pins))) (v := .ref a) S4 nd at_i place rfl (fun t5 S5 => ?_) (.inr isl)
          refine wpAny_mono ((suite a ob4 cl dd (X.pn ++ pins) z4 ⟨_, dt4⟩).run [] t5 _ H2 _ S5 (yea rfl a na)) (fun f t6 hsp => ?_) (fun _ _ z => z.elim)
          have over : ∀ {σ6 : L2.St} {H6 : Hp} {Q : Shared → Prop}, Inv (X.suite a ((a, ob4) :: (X.pn ++ pins))) [] σ6 H6 t6 → (∀ t7, Inv X pins (σ6.set i none) H6 t7 → Q t7) →
              wpAny (model X.prog X.w) X.A (do bindName X.env n .none; unbindBehindTheSuite X.env n p2) (fun _ t7 => Q t7) X.xe t6 := fun {σ6 H6 Q} S6 hq => gone_ok (S6.unsuite ok) nd at_i isl hq
          cases f with
          | next =>
            obtain ⟨σ6, H6, S6, q6⟩ := hsp
            exact over S6 fun t7 J7 => ⟨_, _, J7, q6⟩
          | brk =>
            obtain ⟨σ6, H6, S6, q6⟩ := hsp
            exact over S6 fun t7 J7 => ⟨_, _, J7, q6⟩
          | cont =>
            obtain ⟨σ6, H6, S6, q6⟩ := hsp
            exact over S6 fun t7 J7 => ⟨_, _, J7, q6⟩
          | ret u =>
            obtain ⟨v6, σ6, H6, S6, r6, q6⟩ := hsp
            exact over S6 fun t7 J7 => ⟨_, _, _, J7, r6, q6⟩
        | false =>
          show wpAny _ X.A (handleBy (.ref a) X.env more) _ _ _
          exact ih (nay rfl)
    exact go hand wish
  · cases f with
    | next =>
      obtain ⟨σ2, H2, J2, q⟩ := ends
      exact wpAny_execs_nil ⟨σ2, H2, J2.ofTry ok, q⟩
    | brk =>
      obtain ⟨σ2, H2, J2, q⟩ := ends
      exact ⟨σ2, H2, J2.ofTry ok, q⟩
    | cont =>
      obtain ⟨σ2, H2, J2, q⟩ := ends
      exact ⟨σ2, H2, J2.ofTry ok, q⟩
    | ret u =>
      obtain ⟨v, σ2, H2, J2, r, q⟩ := ends
      exact ⟨v, σ2, H2, J2.ofTry ok, r, q⟩
end
end Kx
namespace Kx
open PySem PySem.Spec PyProof.Rows L2 SX LamX Ms
/-- no positional value, three by name: c, b, a for a, b, c -/
def backG {α : Type} (us ws : List α) : List α := match us, ws with | [], [c, b, a] => [a, b, c] | _, _ => []
theorem kb_back {K : PySem.W.Frag} {x qual : Str} {st : Stmt} {f : Addr} {fd : FuncData} {a b c : Str} (F : Fun K x qual st f fd)
    (h : ∀ (kV doc pm : Value) (an : Option Addr) (cdv ct : Value) (u v w : Value), bindArgs (PySem.W.fnOf x qual (defArgs st) (defBody st) (defScope st) .none kV doc pm an cdv ct) ⟨[], [(c, w), (b, v), (a, u)]⟩ = pure [(a, u), (b, v), (c, w)]) :
    KBinds K fd [a, b, c] [c, b, a] backG backG := by
  obtain ⟨oc, od, kV, doc, pm, an, cdv, ct, osl, rfl, lk, hcd⟩ := F.ex
  refine ⟨fun s us ws X l => ?_, fun {vs us zs ws} r1 r2 => ?_⟩
  · match us, ws, l with
    | [], [w, v, u], _ => exact .of_eq (h kV doc pm an cdv ct u v w)
    | [], [], l => cases l
    | [], [_], l => cases l
    | [], [_, _], l => cases l
    | [], _ :: _ :: _ :: _ :: _, l => cases l
    | _ :: _, _, l => cases l
  · cases r1 with
    | cons _ _ => exact .nil
    | nil =>
      cases r2 with
      | nil => exact .nil
      | cons h1 r2 =>
        cases r2 with
        | nil => exact .nil
        | cons h2 r2 =>
          cases r2 with
          | nil => exact .nil
          | cons h3 r2 =>
            cases r2 with
            | nil => exact .cons h3 (.cons h2 (.cons h1 .nil))
            | cons _ _ => exact .nil
theorem pl_standA {s : Mst} {l : List (Int × Int)} : ∀ d ∈ standD s l, Pl 2 d := fun d m => by
  have up : ∀ {k j : Nat} {d : PyData}, Pl k d → k ≤ j → Pl j d := fun h hk => ⟨h.1, Nat.le_trans h.2 hk⟩
  have hi : ∀ i : Int, Pl 2 (.int i) := fun i => pl_int 2 i
  have hb : ∀ b : Bool, Pl 2 (.bool b) := fun b => ⟨rfl, Nat.zero_le _⟩
  unfold standD at m
  simp only [List.mem_cons, List.not_mem_nil, or_false] at m
  rcases m with rfl | rfl | rfl | rfl | rfl | rfl | rfl | rfl | rfl | rfl | rfl | rfl
  · exact hi _
  · exact hi _
  · exact hb _
  · exact hb _
  · exact hb _
  · exact hi _
  · exact hi _
  · exact hi _
  · refine Pl.tup fun d m => ?_
    obtain ⟨p, _, rfl⟩ := List.mem_map.mp m
    refine Pl.tup fun d m => ?_
    simp only [List.mem_cons, List.not_mem_nil, or_false] at m
    rcases m with rfl | rfl <;> exact pl_int 0 _
  · exact hi _
  · refine Pl.tup fun d m => ?_
    obtain ⟨i, _, rfl⟩ := List.mem_map.mp m
    exact pl_int 1 i
  · exact hb _
end Kx
namespace Kx
open PySem PySem.Spec PyProof.Rows L2 SX LamX Ms
theorem go_call {sp : Sp} {dvs : List V} {E : XK} {t : TA} {σ : L2.St} {H : Hp} {Q : VK} (h : t σ H fun vs H1 => sp (vs ++ dvs) H1 Q E) : tCall sp dvs E t σ H Q := h
end Kx
namespace Kx
open PySem PySem.Spec PyProof.Rows L2 SX LamX
theorem sub_str {K : PySem.W.Frag} {C : Addr} : PySem.W.subIn K (.type "str") (.ref C) = some false := by
  have e : fastBuiltinMro "str" = some [.type "str", .type "object"] := by decide +kernel
  show (fastBuiltinMro "str").map (·.contains (.ref C)) = some false
  rw [e]
  first
    | rfl
    | simp
theorem sub_bool {K : PySem.W.Frag} {C : Addr} : PySem.W.subIn K (.type "bool") (.ref C) = some false := by
  have e : fastBuiltinMro "bool" = some [.type "bool", .type "int", .type "object"] := by decide +kernel
  show (fastBuiltinMro "bool").map (·.contains (.ref C)) = some false
  rw [e]
  first
    | rfl
    | simp
theorem sub_dict {K : PySem.W.Frag} {C : Addr} : PySem.W.subIn K (.type "dict") (.ref C) = some false := by
  have e : fastBuiltinMro "dict" = some [.type "dict", .type "object"] := by decide +kernel
  show (fastBuiltinMro "dict").map (·.contains (.ref C)) = some false
  rw [e]
  first
    | rfl
    | simp
end Kx
namespace Ms
open PySem PySem.Spec PyProof.Rows L2 Kx SX LamX
/-- a value of a type of the language, at another place than the rack -/
inductive Od (w : Addr) (H : Hp) : V → Prop
  | non : Od w H .non
  | int (i : Int) : Od w H (.int i)
  | bl (b : Bool) : Od w H (.bl b)
  | str (s : Str) : Od w H (.str s)
  | lst {u : Addr} {xs : List V} (n : u ≠ w) (h : H u = some (.lst xs)) : Od w H (.ref u)
  | tup {u : Addr} {xs : List V} (n : u ≠ w) (h : H u = some (.tup xs)) : Od w H (.ref u)
  | dct {u : Addr} {kv : List (Key × V)} (n : u ≠ w) (h : H u = some (.dK kv)) : Od w H (.ref u)
section
variable {K : PySem.W.Frag} {w C : Addr} {H H' : Hp} {x : V}
theorem Od.mv (m : Mv w H H') (h : Od w H x) : Od w H' x := by
  cases h with
  | non => exact .non
  | int i => exact .int i
  | bl i => exact .bl i
  | str i => exact .str i
  | lst n h => exact .lst n (m _ _ n h)
  | tup n h => exact .tup n (m _ _ n h)
  | dct n h => exact .dct n (m _ _ n h)
theorem Od.kit (h : Od w H x) (h1 : PySem.W.isClsIn K C = true) (h2 : PySem.W.typeIn K (.ref C) = some (.type "type")) : ∃ t, TyX K H x t ∧ PySem.W.kitOne K t (.ref C) = some false := by
  cases h with
  | non => exact ⟨_, .base .non, kitOne_no h1 h2 sub_non⟩
  | int i => exact ⟨_, .base (.int i), kitOne_no h1 h2 sub_int⟩
  | bl i => exact ⟨_, .base (.bl i), kitOne_no h1 h2 sub_bool⟩
  | str i => exact ⟨_, .base (.str i), kitOne_no h1 h2 sub_str⟩
  | lst n h => exact ⟨_, .base (.lst h), kitOne_no h1 h2 sub_list⟩
  | tup n h => exact ⟨_, .base (.tup h), kitOne_no h1 h2 sub_tuple⟩
  | dct n h => exact ⟨_, .base (.dK h), kitOne_no h1 h2 sub_dict⟩
theorem Od.has (h : Od w H x) : HasInt K H x := by
  cases h with
  | non => exact hasInt_non
  | int i => exact hasInt_int i
  | bl i => exact hasInt_bl i
  | str i => exact hasInt_str i
  | lst n h => exact hasInt_lst (.inl (.inl h))
  | tup n h => exact hasInt_tup (.inl (.inl h))
  | dct n h => exact hasInt_dk h
theorem withinV_od {lo hi : Option Int} (h : Od w H x) (hi' : ∀ i, x = .int i → withinB i lo hi = false) : withinV x lo hi = false := by
  cases h with
  | int i => exact hi' i rfl
  | non => rfl
  | bl i => rfl
  | str i => rfl
  | lst n h => rfl
  | tup n h => rfl
  | dct n h => rfl
end
/-- no list or tuple of ints -/
inductive NoL (w : Addr) (H : Hp) : V → Prop
  | non : NoL w H .non
  | int (i : Int) : NoL w H (.int i)
  | bl (b : Bool) : NoL w H (.bl b)
  | str (s : Str) : NoL w H (.str s)
  | dct {u : Addr} {kv : List (Key × V)} (n : u ≠ w) (h : H u = some (.dK kv)) : NoL w H (.ref u)
  | lst {u : Addr} {xs : List V} (n : u ≠ w) (h : H u = some (.lst xs)) (a : xs.all isIntV = false) (o : ∀ z ∈ xs, Od w H z) (l : xs.length ≤ 100000) : NoL w H (.ref u)
  | tup {u : Addr} {xs : List V} (n : u ≠ w) (h : H u = some (.tup xs)) (a : xs.all isIntV = false) (o : ∀ z ∈ xs, Od w H z) (l : xs.length ≤ 100000) : NoL w H (.ref u)
section
variable {K : PySem.W.Frag} {w C : Addr} {H H' : Hp} {x : V}
theorem NoL.mv (m : Mv w H H') (h : NoL w H x) : NoL w H' x := by
  cases h with
  | non => exact .non
  | int i => exact .int i
  | bl i => exact .bl i
  | str i => exact .str i
  | dct n h => exact .dct n (m _ _ n h)
  | lst n h a o l => exact .lst n (m _ _ n h) a (fun z hz => (o z hz).mv m) l
  | tup n h a o l => exact .tup n (m _ _ n h) a (fun z hz => (o z hz).mv m) l
/-- what are_integers is asked of it -/
theorem NoL.ints (h : NoL w H x) : (∃ n : String, TyX K H x (.type n) ∧ PySem.W.kitAny K (.type n) [.type "list", .type "tuple"] = some false ∧ false = false) ∨
  ∃ (p : Addr) (zs : List V), x = .ref p ∧ SqQ K H p zs ∧ (∀ z ∈ zs, HasInt K H z) ∧ zs.length ≤ 100000 ∧ false = zs.all isIntV := by
  cases h with
  | non => exact .inl ⟨_, .base .non, rfl, rfl⟩
  | int i => exact .inl ⟨_, .base (.int i), rfl, rfl⟩
  | bl i => exact .inl ⟨_, .base (.bl i), rfl, rfl⟩
  | str i => exact .inl ⟨_, .base (.str i), rfl, rfl⟩
  | dct n h => exact .inl ⟨_, .base (.dK h), rfl, rfl⟩
  | lst n h a o l => exact .inr ⟨_, _, rfl, .inl (.inl (.inl h)), fun z hz => (o z hz).has, l, a.symm⟩
  | tup n h a o l => exact .inr ⟨_, _, rfl, .inr (.inl (.inl h)), fun z hz => (o z hz).has, l, a.symm⟩
end
/-- the answer to what is refused right -/
def heardD : PyData := .list [.tuple [.str "BadMachine", .str "stand"], .tuple [.str "BadNumber", .str "number"], .tuple [.str "BadHeard", .str "heard"], .none]
end Ms
namespace Ms
open PySem PySem.Spec PyProof.Rows L2 Kx SX LamX
/-! ### how far the numbers grow, told apart by words -/
def wt (n : Nat) : Nat := if n = 2 then 1 else if 4 ≤ n ∧ n < 20 then 3 else 0
def gro (n b : Nat) : Nat := if n = 6 then 2 * b else b + wt n
def wts (r : List Nat) : Nat := (r.map wt).sum
theorem wts_app (a b : List Nat) : wts (a ++ b) = wts a + wts b := by unfold wts; rw [List.map_append, List.sum_append]
theorem gro_le (n b : Nat) : b ≤ gro n b := by unfold gro; split <;> omega
theorem bd_do2 {b : Nat} {s : Mst} {n : Nat} {ns : List Int} (h : Bd b s) (hb : 3 ≤ b) (hn : ∀ i ∈ ns, Bi b i) (hl : ns.length ≤ 100000) : Bd (gro n b) (doW ns s n) := by
  by_cases h6 : n = 6
  · subst h6
    exact bd_do h hb hn hl
  by_cases hf : 4 ≤ n ∧ n < 20
  · have e : gro n b = grow n b := by
      unfold gro grow wt
      rw [if_neg h6, if_neg h6, if_neg (by omega), if_pos hf]
    rw [e]
    exact bd_do h hb hn hl
  have one : Bi b (-1) := Nat.lt_of_lt_of_le (show (-1 : Int).natAbs < 2 ^ 3 by decide) (Nat.pow_le_pow_right (by decide) hb)
  by_cases h2 : n = 2
  · subst h2
    have hg := h.mono (show b ≤ gro 2 b from gro_le 2 b)
    unfold doW
    rw [if_neg (by decide : ¬ (2 : Nat) = 0), if_neg (by decide : ¬ (2 : Nat) = 1), if_pos rfl]
    split
    · exact hg
    · refine { hg with block := ?_, low := ?_ }
      · show Bi _ (if s.tick = true then s.block + 1 else s.block)
        split
        · show (s.block + 1).natAbs < 2 ^ (b + 1)
          have h1 : s.block.natAbs < 2 ^ b := h.block
          have h3 : 1 ≤ 2 ^ b := Nat.pow_pos (by decide)
          rw [Nat.pow_succ]
          omega
        · exact hg.block
      · show -1 ≤ (if s.tick = true then s.block + 1 else s.block)
        have := h.low
        split <;> omega
  have e : gro n b = b := by
    unfold gro wt
    rw [if_neg h6, if_neg h2, if_neg hf]
    rfl
  rw [e]
  unfold doW
  rw [if_neg h2]
  split
  · exact h
  split
  · exact { h with block := one, low := Int.le_refl _ }
  split
  · exact { h with }
  split
  · exact h
  split
  · exact { h with }
  rw [if_neg (by omega)]
  exact bd_bare h (by omega)
def lastC : List Nat → Nat → Nat
  | [], b => b
  | n :: r, b => lastC r (gro n b)
theorem lastC_mono : ∀ (r : List Nat) (b : Nat), b ≤ lastC r b
  | [], b => Nat.le_refl _
  | n :: r, b => Nat.le_trans (gro_le n b) (lastC_mono r (gro n b))
theorem bd_rowC {ns : List Int} (hl : ns.length ≤ 100000) : ∀ (r : List Nat) (b : Nat) (s : Mst), Bd b s → 3 ≤ b → (∀ i ∈ ns, Bi b i) → ∀ k, Bd (lastC r b) (doR ns s (r.take k))
  | [], b, s, h, hb, hn, k => by rw [List.take_nil]; exact h
  | n :: r, b, s, h, hb, hn, 0 => h.mono (lastC_mono (n :: r) b)
  | n :: r, b, s, h, hb, hn, k + 1 => bd_rowC hl r (gro n b) (doW ns s n) (bd_do2 h hb hn hl) (Nat.le_trans hb (gro_le n b)) (fun i m => (hn i m).mono (gro_le n b)) k
theorem lastC_none : ∀ (r : List Nat) (b : Nat), 6 ∉ r → lastC r b = b + wts r
  | [], b, _ => rfl
  | n :: r, b, h => by
    have h1 : n ≠ 6 := fun e => h (by rw [e]; exact List.mem_cons_self)
    show lastC r (gro n b) = _
    rw [lastC_none r _ fun m => h (List.mem_cons_of_mem _ m)]
    unfold gro
    rw [if_neg h1]
    show b + wt n + wts r = b + (wt n + wts r)
    omega
theorem lastC_one : ∀ (r : List Nat) (b : Nat), r.count 6 ≤ 1 → 6 ∈ r → lastC r b + 6 ≤ 2 * (b + wts r)
  | [], b, _, m => nomatch m
  | n :: r, b, h, m => by
    show lastC r (gro n b) + 6 ≤ 2 * (b + (wt n + wts r))
    by_cases h1 : n = 6
    · subst h1
      have h6 : 6 ∉ r := by
        rw [List.count_cons_self] at h
        exact List.count_eq_zero.mp (by omega)
      rw [lastC_none r _ h6]
      show 2 * b + wts r + 6 ≤ 2 * (b + (3 + wts r))
      omega
    · have h6 : 6 ∈ r := by
        rcases List.mem_cons.mp m with e | m
        · exact absurd e.symm h1
        · exact m
      have hc : r.count 6 ≤ 1 := by
        rw [List.count_cons_of_ne h1] at h
        exact h
      have := lastC_one r (gro n b) hc h6
      have e : gro n b = b + wt n := by unfold gro; rw [if_neg h1]
      rw [e] at this ⊢
      omega
/-- a row of weight 92 at most, one multiply in it at most -/
theorem lastC_le {r : List Nat} {b : Nat} (h : r.count 6 ≤ 1) (hw : wts r ≤ 92) (hb : 83 ≤ b) : lastC r b ≤ 2 * (b + 89) := by
  by_cases m : 6 ∈ r
  · have := lastC_one r b h m
    omega
  · rw [lastC_none r b m]
    omega
end Ms
namespace Kx
open PySem PySem.Spec PyProof.Rows L2 SX LamX
section
variable {X : Cx} {CX : CXT} {k : Nat} {f C : Addr} {fd : FuncData} {ps : List Str} {sp : Sp} {E : L2.St → XK} {x m : Str} {p pos apos : Pos} {e o : Expr} {es : List Expr} {ta : TE} {t : TA}
/-! ### C(..) and o.m(..) within a try -/
theorem run_makeS {pins : List (Addr × Obj)} {σ : L2.St} {H : Hp} {s : Shared} {Q : VK} {us : List Value} {vs : List V} (M : Mk X.K C f) (F : FnOk X.prog X.w X.K X.mg X.base CX k f fd ps sp) (hr : Room (k + 1) X.A) (hb : Binds X.K fd ps [])
    (hx : PassesAt CX X σ (E σ)) (I : Inv X pins σ H s) (r : Vals vs us)
    (h : ∀ x dx, H x = none → H dx = none → dx ≠ x → sp (.ref x :: vs) (upd (upd H dx (.own x)) x (.ins C dx [])) (fun v H2 => v = .non ∧ Q (.ref x) H2) (E σ)) :
    wpAny (model X.prog X.w) X.A (call (.ref C) us) (EP X pins σ Q) X.xe s := by
  have hq := h (s.heap.objs.size + 1) s.heap.objs.size (I.hok.fresh (Nat.le_succ _)) (I.hok.fresh (Nat.le_refl _)) (Nat.ne_of_lt (Nat.lt_succ_self _))
  have I2 := Inv.made (C := C) I
  have r2 : Vals (V.ref (s.heap.objs.size + 1) :: vs) (Value.ref (s.heap.objs.size + 1) :: us) := .cons rfl r
  have hl : (Value.ref (s.heap.objs.size + 1) :: us ++ []).length = ps.length := by
    have e := r2.length
    rw [F.len _ _ _ _ hq] at e
    rw [List.append_nil]
    exact e.symm
  have b := hb _ (Value.ref (s.heap.objs.size + 1) :: us) I2.kIn hl
  rw [List.append_nil] at b
  refine wpAny_call (make_map (f := f) I.kIn M.makes M.init (beq_iff_eq.mp M.fn) (codeAny_mono (F.run _ X.stack _ _ ⟨Value.ref (s.heap.objs.size + 1) :: us, []⟩ (Value.ref (s.heap.objs.size + 1) :: us) _ _ (E σ) (hr.make C us [])
    (I2.env0.make C us []) b r2 hq) fun r s' hq' => ?_))
  cases r with
  | error e => exact hx pins _ _ e s' I2 hq'
  | ok fl =>
    cases fl with
    | ret u =>
      obtain ⟨v, H', I3, rv, ev, q3⟩ := I2.after hq'
      subst ev
      exact ⟨rv, ⟨V.ref (s.heap.objs.size + 1), H', I3, rfl, q3⟩⟩
    | next => exact False.elim hq'
    | brk => exact False.elim hq'
    | cont => exact False.elim hq'
def tMakeS (C : Addr) (sp : Sp) (E : L2.St → XK) (t : TA) : TE := fun σ H Q => t σ H fun vs H1 => ∀ x dx, H1 x = none → H1 dx = none → dx ≠ x →
  sp (.ref x :: vs) (upd (upd H1 dx (.own x)) x (.ins C dx [])) (fun v H2 => v = .non ∧ Q (.ref x) H2) (E σ)
theorem pe_makeS (M : Mk X.K C f) (F : FnOk X.prog X.w X.K X.mg X.base CX k f fd ps sp) (hr : Room (k + 1) X.A) (hg : Gl X x) (hm : X.mg x = some (.ref C)) (hb : Binds X.K fd ps []) (hx : ∀ σ, PassesAt CX X σ (E σ))
    (ha : PA X (e :: es) t) (hdb : (x == ("__debug__" : Str)) = false := by decide) (he : starEach (e :: es) X.env = (false, eval e X.env) :: starEach es X.env := by rfl) (hpl : (backTo pos (starEach es X.env)).any (·.1) = false := by rfl) :
    PE X (.Call (.Name x p) (e :: es) [] pos) (tMakeS C sp E t) := by
  refine ⟨fun pins s σ H Q I h => ?_⟩
  refine wpAny_Call_Name_kw (ld_glob I hg hm ?_ hdb)
  refine PySem.W.callWith_K (h₀ := X.base) I.ok.mod.kin M.kp (thn (ha.run pos pins s σ H _ I h) fun us s1 ⟨vs, H1, I1, r, q⟩ => ⟨I1.kIn, ?_⟩) he hpl
  exact run_makeS M F hr hb (hx σ) I1 r q
def tMethS (C : Addr) (m : Str) (sp : Sp) (E : L2.St → XK) (ta : TE) (t : TA) : TE := fun σ H Q => ta σ H fun x H1 => ∃ a dx fs, x = .ref a ∧ H1 a = some (.ins C dx fs) ∧ fs.lookup m = none ∧
  t σ H1 fun vs H2 => sp (x :: vs) H2 Q (E σ)
theorem pe_methS {pl : Sem Bool} (he : PE X o ta) (c : Cls X.K C) (hm : Meth X.K C m f) (F : FnOk X.prog X.w X.K X.mg X.base CX k f fd ps sp) (hr : Room k X.A) (hb : Binds X.K fd ps []) (hx : ∀ σ, PassesAt CX X σ (E σ)) (ha : PA X (e :: es) t)
    (hst : starEach (e :: es) X.env = (false, eval e X.env) :: starEach es X.env := by rfl) (hpl : (backTo pos (starEach es X.env)).any (·.1) = false := by rfl)
    (ht : eval (.Call (.Attribute o m apos) (e :: es) [] pos) X.env = (do
      let ov ← eval o X.env
      standAt apos.atName
      let (f, first) ← holding [ov] (getMethod ov m pl)
      callWith pos f first (backTo pos (starEach (e :: es) X.env)) (backToKw pos (keywordEach [] X.env))) := by rfl) :
    PE X (.Call (.Attribute o m apos) (e :: es) [] pos) (tMethS C m sp E ta t) := by
  refine ⟨fun pins s σ H Q I h => ?_⟩
  refine PySem.W.methodCall_KW (pl := pl) (thn (he.run pins s σ H _ I h) fun u s1 ⟨x, H1, I1, rx, a, dx, fs, ex, ea, l, q⟩ => ?_) ht
  subst ex
  obtain rfl : u = Value.ref a := rx
  refine getmeth_ok I1 ea c hm l ?_
  refine PySem.W.callWith_K (first := [.ref a]) (h₀ := X.base) I.ok.mod.kin hm.kp (thn (ha.run pos pins s1 σ H1 _ I1 q) fun us s2 ⟨vs, H2, I2, r, q2⟩ => ⟨I2.kIn, ?_⟩) hst hpl
  exact run_fnS (us := .ref a :: us) (vs := .ref a :: vs) F hr hb (hx σ) I2 (.cons rfl r) q2
end
section
variable {X : Cx}
/-! ### x != i of an instance with an == of its own -/
def rNeII (K : PySem.W.Frag) (C : Addr) (sp : Sp) : R2 := fun x y H Q => ∃ a dx fs i, x = .ref a ∧ H a = some (.ins C dx fs) ∧ y = .int i ∧ sp [x, y] H (fun v H' => ∃ b, v = .bl b ∧ Q (.bl (!b)) H') C8.E0
theorem op_neII {C f : Addr} {fd : FuncData} {ps : List Str} {n : Nat} {sp : Sp} (F : FnOk X.prog X.w X.K X.mg X.base C8.CX0 n f fd ps sp) (hb : Binds X.K fd ps []) (hr : Room (n + 1) X.A)
    (hs : PySem.W.findIn X.K (.ref C) "__eq__" = some (some (.ref f))) (hf : PySem.W.isFn X.K (.ref f) = true) (hm : PySem.W.mroIn X.K C (.type "object") = some true) (hne : PySem.W.findIn X.K (.ref C) "__ne__" = some (some (.builtin "object.__ne__"))) :
    OpR X (compareOp .NotEq) (rNeII X.K C sp) := by
  intro pins s σ H x y v u Q I rx ry hq
  obtain ⟨a, dx, fs, i, rfl, ha, rfl, h⟩ := hq
  cases rx
  obtain ⟨t, rfl⟩ := (show ∃ t, u = Value.int i t from ry)
  obtain ⟨mA, J, _⟩ := ins_get I.hok ha
  obtain ⟨od, J, _⟩ := J.look
  have lk : PySem.W.Looks (model X.prog X.w) s.heap (typeOf (Value.int i t)) (.type "int") := .now
  have nf : PySem.W.notFirst X.K C (.type "int") = true := by
    unfold PySem.W.notFirst
    rw [sub_int]
    rfl
  show wpAny (model X.prog X.w) X.A (richCompare .NotEq (.ref a) (.int i t)) _ _ s
  refine rich_ne hr.in1.units0 I.kIn J lk nf hm hs hf hne ?_
  have e0 : Env0 X.prog X.w X.K X.mg X.base X.A.in1 X.stack s H := by
    have e := I.env0
    exact ⟨by exact e.frames, e.mod, e.bs, e.bsz, e.funs, e.frf, e.hok, e.bare⟩
  have hl := F.len _ _ _ _ h
  have r2 : Vals [V.ref a, V.int i] [Value.ref a, Value.int i t] := .cons rfl (.cons ⟨_, rfl⟩ .nil)
  refine wpAny_call (codeAny_mono (F.run X.A.in1 X.stack s H ⟨[.ref a, .int i t], []⟩ [.ref a, .int i t] [.ref a, .int i] _ C8.E0 hr.in1 e0 (by
    have := hb s [.ref a, .int i t] I.kIn (by simpa using hl)
    simpa using this) r2 h) fun r s' hq => ?_)
  match r, hq with
  | .error e, hq => exact (show False from hq).elim
  | .ok (.ret w), hq =>
    obtain ⟨z, H', I', rz, c, rfl, q⟩ := I.after hq
    cases rz
    exact ⟨c, rfl, .bl (!c), H', I', rfl, q⟩
  | .ok .next, hq => exact False.elim hq
  | .ok .brk, hq => exact False.elim hq
  | .ok .cont, hq => exact False.elim hq
end
end Kx
namespace Ms
/-! ### rows made ready for many passes -/
theorem snoc_ind {α : Type} {P : List α → Prop} (h0 : P []) (h1 : ∀ (l : List α) (a : α), P l → P (l ++ [a])) (l : List α) : P l := by
  have h : ∀ m : List α, P m.reverse := fun m => by
    induction m with
    | nil => exact h0
    | cons a m ih =>
      rw [List.reverse_cons]
      exact h1 _ a ih
  rw [← l.reverse_reverse]
  exact h _
def keepAt (row : List Nat) (i : Nat) : Bool := decide (i = 0) || !decide (row.getD (i - 1) 0 = row.getD i 0)
def thinZ (row : List Nat) : List (Option Nat) := (List.range row.length).map fun i => if keepAt row i = true then some (row.getD i 0) else none
def thinI (row : List Nat) : List Nat := (thinZ row).filterMap id
theorem thinZ_snoc (row : List Nat) (n : Nat) : thinZ (row ++ [n]) = thinZ row ++ [if keepAt (row ++ [n]) row.length = true then some n else none] := by
  unfold thinZ
  rw [List.length_append, List.length_singleton, List.range_succ, List.map_append]
  refine congr (congrArg _ (List.map_congr_left fun i hi => ?_)) ?_
  · have hi := List.mem_range.mp hi
    have e1 : (row ++ [n]).getD i 0 = row.getD i 0 := by
      rw [List.getD_eq_getElem?_getD, List.getD_eq_getElem?_getD, List.getElem?_append_left hi]
    have e2 : (row ++ [n]).getD (i - 1) 0 = row.getD (i - 1) 0 := by
      rw [List.getD_eq_getElem?_getD, List.getD_eq_getElem?_getD, List.getElem?_append_left (by omega)]
    unfold keepAt
    rw [e1, e2]
  · have e1 : (row ++ [n]).getD row.length 0 = n := by
      rw [List.getD_eq_getElem?_getD, List.getElem?_append_right (Nat.le_refl _), Nat.sub_self]
      rfl
    rw [List.map_singleton, e1]
theorem thinI_snoc (row : List Nat) (n : Nat) : thinI (row ++ [n]) = thinI row ++ (if keepAt (row ++ [n]) row.length = true then [n] else []) := by
  unfold thinI
  rw [thinZ_snoc, List.filterMap_append]
  split <;> rfl
theorem thin_same (ns : List Int) (s : Mst) (row : List Nat) (h : ∀ n ∈ row, n < 30) : doR ns s (thinI row) = doR ns s row := by
  revert h
  refine snoc_ind (P := fun row => (∀ n ∈ row, n < 30) → doR ns s (thinI row) = doR ns s row) (fun _ => rfl) (fun row n ih h => ?_) row
  · have ih := ih fun k m => h k (List.mem_append_left _ m)
    have hn := h n (List.mem_append_right _ (List.mem_singleton.mpr rfl))
    rw [thinI_snoc, doR_app, doR_app, ih]
    split
    · rfl
    · rename_i hk
      unfold keepAt at hk
      simp only [Bool.or_eq_true, decide_eq_true_eq, Bool.not_eq_true', decide_eq_false_iff_not, not_or, Decidable.not_not] at hk
      have h0 : row ≠ [] := fun e => hk.1 (by rw [e]; rfl)
      obtain ⟨r, k, rfl⟩ : ∃ r k, row = r ++ [k] := ⟨row.dropLast, row.getLast h0, (List.dropLast_concat_getLast h0).symm⟩
      have e := hk.2
      rw [List.getD_eq_getElem?_getD, List.getD_eq_getElem?_getD, List.getElem?_append_left (by rw [List.length_append]; show r.length + 1 - 1 < r.length + 1; omega), List.getElem?_append_right (Nat.le_refl _), Nat.sub_self] at e
      rw [List.length_append, List.length_singleton, Nat.add_sub_cancel, List.getElem?_append_right (Nat.le_refl _), Nat.sub_self] at e
      have e : k = n := e
      subst e
      rw [doR_app]
      exact (doW_twice ns _ k hn).symm
theorem thin_mem {row : List Nat} {n : Nat} (h : n ∈ thinI row) : n ∈ row := by
  obtain ⟨o, ho, e⟩ := List.mem_filterMap.mp h
  obtain ⟨i, hi, rfl⟩ := List.mem_map.mp ho
  have hi := List.mem_range.mp hi
  have e : (if keepAt row i = true then some (row.getD i 0) else none) = some n := e
  split at e
  · cases e
    rw [List.getD_eq_getElem?_getD, List.getElem?_eq_getElem hi]
    exact List.getElem_mem hi
  · cases e
theorem thin_len (row : List Nat) : (thinI row).length ≤ row.length := by
  unfold thinI
  refine Nat.le_trans (List.length_filterMap_le _ _) ?_
  unfold thinZ
  rw [List.length_map, List.length_range]
  exact Nat.le_refl _
theorem thin_take (row : List Nat) : ∀ k, ∃ j, (thinI row).take k = thinI (row.take j) := by
  refine snoc_ind (P := fun row => ∀ k, ∃ j, (thinI row).take k = thinI (row.take j)) (fun k => ⟨0, by rw [List.take_nil]; exact List.take_nil⟩) (fun row n ih => ?_) row
  · intro k
    rw [thinI_snoc]
    by_cases hk : k ≤ (thinI row).length
    · obtain ⟨j, hj⟩ := ih k
      rw [List.take_append_of_le_length hk, hj]
      by_cases hj2 : j ≤ row.length
      · exact ⟨j, by rw [List.take_append_of_le_length hj2]⟩
      · exact ⟨row.length, by rw [List.take_of_length_le (by omega), List.take_append_of_le_length (Nat.le_refl _), List.take_length]⟩
    · refine ⟨row.length + 1, ?_⟩
      rw [List.take_of_length_le (l := row ++ [n]) (by rw [List.length_append]; exact Nat.le_refl _), thinI_snoc, List.take_of_length_le]
      rw [List.length_append]
      split
      · show _ + 1 ≤ k
        omega
      · show _ + 0 ≤ k
        omega
/-! ### block and tick behind each word -/
abbrev Pr := Int × Bool
def stepP (p : Pr) (n : Nat) : Pr := if n = 0 then (-1, p.2) else if n = 1 then (p.1, true) else if n = 2 ∧ p.2 = true then (p.1 + 1, false) else p
def behindA : Pr → List Nat → List Pr
  | _, [] => []
  | p, n :: r => stepP p n :: behindA (stepP p n) r
theorem behindA_snoc : ∀ (p : Pr) (r : List Nat) (n : Nat), behindA p (r ++ [n]) = behindA p r ++ [stepP (r.foldl stepP p) n]
  | p, [], n => rfl
  | p, k :: r, n => by
    show _ :: behindA (stepP p k) (r ++ [n]) = _
    rw [behindA_snoc (stepP p k) r n]
    rfl
theorem behindA_len : ∀ (p : Pr) (r : List Nat), (behindA p r).length = r.length
  | p, [] => rfl
  | p, k :: r => by
    show (behindA _ r).length + 1 = _
    rw [behindA_len (stepP p k) r, List.length_cons]
theorem behindA_last (p : Pr) (r : List Nat) (h : r ≠ []) : (behindA p r).getLast? = some (r.foldl stepP p) := by
  obtain ⟨q, k, rfl⟩ : ∃ q k, r = q ++ [k] := ⟨r.dropLast, r.getLast h, (List.dropLast_concat_getLast h).symm⟩
  rw [behindA_snoc, List.getLast?_append, List.foldl_append]
  rfl
def p0 : Pr := (-1, false)
/-! ### words side by side that want the same room -/
abbrev Grp := Int × Bool × List Nat
def addG (acc : List Grp) (p : Pr) (n : Nat) : List Grp :=
  if n < 3 then acc else match acc.getLast? with
    | some g => if g.1 = p.1 ∧ g.2.1 = p.2 then acc.dropLast ++ [(g.1, g.2.1, g.2.2 ++ [n])] else acc ++ [(p.1, p.2, [n])]
    | none => acc ++ [(p.1, p.2, [n])]
def grpsA : List Grp → List (Nat × Pr) → List Grp
  | acc, [] => acc
  | acc, x :: r => grpsA (addG acc x.2 x.1) r
theorem grpsA_snoc : ∀ (acc : List Grp) (l : List (Nat × Pr)) (x : Nat × Pr), grpsA acc (l ++ [x]) = addG (grpsA acc l) x.2 x.1
  | acc, [], x => rfl
  | acc, y :: l, x => grpsA_snoc (addG acc y.2 y.1) l x
def grps (row : List Nat) : List Grp := grpsA [] (row.zip (behindA p0 row))
def flatG (gs : List Grp) : List (Pr × Nat) := gs.flatMap fun g => g.2.2.map fun n => ((g.1, g.2.1), n)
theorem flatG_app (a b : List Grp) : flatG (a ++ b) = flatG a ++ flatG b := List.flatMap_append
theorem flatG_cons (g : Grp) (r : List Grp) : flatG (g :: r) = (g.2.2.map fun n => ((g.1, g.2.1), n)) ++ flatG r := List.flatMap_cons
theorem flat_add (acc : List Grp) (p : Pr) (n : Nat) : flatG (addG acc p n) = flatG acc ++ (if n < 3 then [] else [(p, n)]) := by
  unfold addG
  split
  · rw [List.append_nil]
  cases h : acc.getLast? with
  | none =>
    rw [flatG_app]
    rfl
  | some g =>
    dsimp only
    split
    · rename_i e
      obtain ⟨e1, e2⟩ := e
      have ea : acc = acc.dropLast ++ [g] := by
        have h0 : acc ≠ [] := fun z => by rw [z] at h; cases h
        have := List.dropLast_concat_getLast h0
        rw [List.getLast?_eq_some_getLast h0] at h
        cases h
        exact this.symm
      have e3 : flatG acc = flatG acc.dropLast ++ flatG [g] := by rw [← flatG_app, ← ea]
      rw [e3, flatG_app, List.append_assoc]
      congr 1
      rw [flatG_cons, flatG_cons, List.map_append, e1, e2, show flatG [] = [] from rfl, List.append_nil, List.append_nil]
      rfl
    · rw [flatG_app]
      rfl
def here (l : List (Nat × Pr)) : List (Pr × Nat) := l.filterMap fun x => if x.1 < 3 then none else some (x.2, x.1)
theorem flat_grpsA : ∀ (l : List (Nat × Pr)) (acc : List Grp), flatG (grpsA acc l) = flatG acc ++ here l
  | [], acc => by rw [show grpsA acc [] = acc from rfl, show here [] = [] from rfl, List.append_nil]
  | x :: l, acc => by
    show flatG (grpsA (addG acc x.2 x.1) l) = _
    rw [flat_grpsA l, flat_add, List.append_assoc]
    congr 1
    unfold here
    by_cases h : x.1 < 3
    · rw [if_pos h, List.filterMap_cons, if_pos h]
      rfl
    · rw [if_neg h, List.filterMap_cons, if_neg h]
      rfl
theorem addG_ne (acc : List Grp) (p : Pr) (n : Nat) (h : ∀ g ∈ acc, g.2.2 ≠ []) : ∀ g ∈ addG acc p n, g.2.2 ≠ [] := by
  unfold addG
  split
  · exact h
  cases hl : acc.getLast? with
  | none =>
    intro g m
    rcases List.mem_append.mp m with m | m
    · exact h g m
    · rw [List.mem_singleton.mp m]
      simp
  | some k =>
    dsimp only
    split
    · intro g m
      rcases List.mem_append.mp m with m | m
      · exact h g (List.dropLast_subset _ m)
      · rw [List.mem_singleton.mp m]
        simp
    · intro g m
      rcases List.mem_append.mp m with m | m
      · exact h g m
      · rw [List.mem_singleton.mp m]
        simp
theorem grpsA_ne : ∀ (l : List (Nat × Pr)) (acc : List Grp), (∀ g ∈ acc, g.2.2 ≠ []) → ∀ g ∈ grpsA acc l, g.2.2 ≠ []
  | [], acc, h => h
  | x :: l, acc, h => grpsA_ne l _ (addG_ne acc x.2 x.1 h)
theorem grps_ne (row : List Nat) : ∀ g ∈ grps row, g.2.2 ≠ [] := grpsA_ne _ _ (fun g m => by cases m)
/-! ### what a pass does -/
def setP (w : Mst) (p : Pr) : Mst := { w with block := p.1, tick := p.2 }
def stepF (ns : List Int) (w : Mst) (x : Pr × Nat) : Mst := if w.isd = true then w else if x.1.1 = w.room then doW ns (setP w x.1) x.2 else w
def runF (ns : List Int) (w : Mst) (l : List (Pr × Nat)) : Mst := l.foldl (stepF ns) w
theorem runF_app (ns : List Int) (w : Mst) (a b : List (Pr × Nat)) : runF ns w (a ++ b) = runF ns (runF ns w a) b := List.foldl_append ..
theorem runF_done (ns : List Int) (w : Mst) (h : w.isd = true) : ∀ l, runF ns w l = w
  | [] => rfl
  | x :: l => by
    show runF ns (stepF ns w x) l = w
    have e : stepF ns w x = w := by unfold stepF; rw [if_pos h]
    rw [e, runF_done ns w h l]
def okF (ns : List Int) (R : Mst → Prop) : Mst → List (Pr × Nat) → Prop
  | _, [] => True
  | w, x :: r => (w.isd = false → x.1.1 = w.room → R (setP w x.1) ∧ R (doW ns (setP w x.1) x.2)) ∧ okF ns R (stepF ns w x) r
theorem okF_app (ns : List Int) (R : Mst → Prop) : ∀ (a b : List (Pr × Nat)) (w : Mst), okF ns R w (a ++ b) → okF ns R w a ∧ okF ns R (runF ns w a) b
  | [], b, w, h => ⟨trivial, h⟩
  | x :: a, b, w, h => by
    obtain ⟨h1, h2⟩ := okF_app ns R a b (stepF ns w x) h.2
    exact ⟨⟨h.1, h1⟩, h2⟩
/-- a word that wants the room leaves block and tick -/
theorem doW_pair (ns : List Int) (s : Mst) (n : Nat) (h : 3 ≤ n) : (doW ns s n).block = s.block ∧ (doW ns s n).tick = s.tick := by
  unfold doW
  split
  · exact ⟨rfl, rfl⟩
  rw [if_neg (by omega), if_neg (by omega), if_neg (by omega)]
  split
  · exact ⟨rfl, rfl⟩
  split
  · exact ⟨rfl, rfl⟩
  split
  · split
    · unfold flagW
      (repeat' split) <;> exact ⟨rfl, rfl⟩
    · exact ⟨rfl, rfl⟩
  · unfold bareW
    (repeat' split) <;> exact ⟨rfl, rfl⟩
theorem doW_far (ns : List Int) (s : Mst) (n : Nat) (h : 3 ≤ n) (hb : s.block ≠ s.room) : doW ns s n = s := by
  unfold doW
  by_cases hd : s.isd = true
  · rw [if_pos hd]
  · rw [if_neg hd, if_neg (by omega), if_neg (by omega), if_neg (by omega), if_pos hb]
theorem doW_done (ns : List Int) (s : Mst) (n : Nat) (h : s.isd = true) : doW ns s n = s := by
  unfold doW
  rw [if_pos h]
theorem doR_done (ns : List Int) (s : Mst) (h : s.isd = true) : ∀ r, doR ns s r = s
  | [] => rfl
  | n :: r => by
    show doR ns (doW ns s n) r = s
    rw [doW_done ns s n h, doR_done ns s h r]
theorem doR_far (ns : List Int) (s : Mst) (hb : s.block ≠ s.room) : ∀ r : List Nat, (∀ n ∈ r, 3 ≤ n) → doR ns s r = s
  | [], _ => rfl
  | n :: r, h => by
    show doR ns (doW ns s n) r = s
    rw [doW_far ns s n (h n List.mem_cons_self) hb, doR_far ns s hb r fun k m => h k (List.mem_cons_of_mem _ m)]
theorem setP_self {w : Mst} {p : Pr} (h1 : w.block = p.1) (h2 : w.tick = p.2) : setP w p = w := by
  cases w
  cases h1
  cases h2
  rfl
/-- a stretch that is come to -/
theorem grp_run (ns : List Int) (R : Mst → Prop) (p : Pr) : ∀ (ws : List Nat) (w : Mst), (∀ n ∈ ws, 3 ≤ n) → w.block = p.1 → w.tick = p.2 → R w → okF ns R w (ws.map fun n => (p, n)) →
    runF ns w (ws.map fun n => (p, n)) = doR ns w ws ∧ ∀ k, R (doR ns w (ws.take k))
  | [], w, _, _, _, hR, _ => ⟨rfl, fun k => by rw [List.take_nil]; exact hR⟩
  | n :: r, w, h3, hb, ht, hR, ho => by
    have h3' : ∀ k ∈ r, 3 ≤ k := fun k m => h3 k (List.mem_cons_of_mem _ m)
    have hn := h3 n List.mem_cons_self
    have sp := setP_self hb ht
    by_cases hd : w.isd = true
    · refine ⟨?_, fun k => ?_⟩
      · rw [runF_done ns w hd, doR_done ns w hd]
      · rw [doR_done ns w hd]
        exact hR
    have hd : w.isd = false := by simpa using hd
    by_cases hr : w.block = w.room
    · have hr' : p.1 = w.room := by rw [← hb]; exact hr
      have e : stepF ns w (p, n) = doW ns w n := by
        unfold stepF
        rw [if_neg (by rw [hd]; decide), if_pos hr', sp]
      have h1 := ho.1 hd hr'
      have hv := doW_pair ns w n hn
      have R1 : R (doW ns w n) := by
        have := h1.2
        rw [sp] at this
        exact this
      have h2 := ho.2
      rw [e] at h2
      obtain ⟨q1, q2⟩ := grp_run ns R p r (doW ns w n) h3' (by rw [hv.1]; exact hb) (by rw [hv.2]; exact ht) R1 h2
      refine ⟨?_, fun k => ?_⟩
      · show runF ns (stepF ns w (p, n)) (r.map fun n => (p, n)) = _
        rw [e, q1]
        rfl
      · cases k with
        | zero => exact hR
        | succ k => exact q2 k
    · have e : ∀ ws : List Nat, runF ns w (ws.map fun n => (p, n)) = w := fun ws => by
        induction ws with
        | nil => rfl
        | cons a l ih =>
          show runF ns (stepF ns w (p, a)) _ = w
          have : stepF ns w (p, a) = w := by
            unfold stepF
            rw [if_neg (by rw [hd]; decide), if_neg (show ¬ p.1 = w.room from fun z => hr (by rw [hb]; exact z))]
          rw [this, ih]
      refine ⟨?_, fun k => ?_⟩
      · rw [e, doR_far ns w hr _ h3]
      · rw [doR_far ns w hr _ fun k m => h3 k (List.mem_of_mem_take m)]
        exact hR
theorem grp_in (ns : List Int) (R : Mst → Prop) (p : Pr) (n : Nat) (r : List Nat) (w : Mst) (h3 : ∀ k ∈ n :: r, 3 ≤ k) (hd : w.isd = false) (hr : p.1 = w.room) (ho : okF ns R w ((n :: r).map fun n => (p, n))) :
    runF ns w ((n :: r).map fun n => (p, n)) = doR ns (setP w p) (n :: r) ∧ ∀ k, R (doR ns (setP w p) ((n :: r).take k)) := by
  have h1 := ho.1 hd hr
  have e : stepF ns w (p, n) = doW ns (setP w p) n := by
    unfold stepF
    rw [if_neg (by rw [hd]; decide), if_pos hr]
  have hv := doW_pair ns (setP w p) n (h3 n List.mem_cons_self)
  have h2 := ho.2
  rw [e] at h2
  obtain ⟨q1, q2⟩ := grp_run ns R p r _ (fun k m => h3 k (List.mem_cons_of_mem _ m)) (by rw [hv.1]; rfl) (by rw [hv.2]; rfl) h1.2 h2
  refine ⟨?_, fun k => ?_⟩
  · show runF ns (stepF ns w (p, n)) (r.map fun n => (p, n)) = _
    rw [e, q1]
    rfl
  · cases k with
    | zero => exact h1.1
    | succ k => exact q2 k
theorem grp_out (ns : List Int) (p : Pr) (w : Mst) (hr : p.1 ≠ w.room) : ∀ ws : List Nat, runF ns w (ws.map fun n => (p, n)) = w
  | [] => rfl
  | n :: r => by
    show runF ns (stepF ns w (p, n)) (r.map fun n => (p, n)) = w
    have e : stepF ns w (p, n) = w := by
      unfold stepF
      rw [if_neg (show ¬ (p, n).1.1 = w.room from hr), ite_self]
    rw [e, grp_out ns p w hr r]
theorem okF_done (ns : List Int) (R : Mst → Prop) (w : Mst) (h : w.isd = true) : ∀ l, okF ns R w l
  | [] => trivial
  | x :: l => by
    have e : stepF ns w x = w := by unfold stepF; rw [if_pos h]
    refine ⟨fun z => absurd (h.symm.trans z) (by decide), ?_⟩
    rw [e]
    exact okF_done ns R w h l
/-- words of no room -/
theorem doW_low (ns : List Int) (s : Mst) (n : Nat) (h : n < 3) (hd : s.isd = false) : doW ns s n = setP s (stepP (s.block, s.tick) n) := by
  have hd' : ¬ s.isd = true := by rw [hd]; decide
  have : n = 0 ∨ n = 1 ∨ n = 2 := by omega
  rcases this with rfl | rfl | rfl
  · unfold doW
    rw [if_neg hd', if_pos rfl]
    rfl
  · unfold doW
    rw [if_neg hd', if_neg (by decide), if_pos rfl]
    rfl
  · unfold doW
    rw [if_neg hd', if_neg (by decide), if_neg (by decide), if_pos rfl]
    cases s
    rename_i tick _ _ _ _ _ _ _ _ _
    cases tick <;> rfl
/-- the stretches do what the row does -/
theorem sim (ns : List Int) (R : Mst → Prop) : ∀ (row : List Nat) (s w : Mst) (p : Pr), (∀ k, R (doR ns s (row.take k))) → s.isd = false → s.block = p.1 → s.tick = p.2 → setP w p = s →
    okF ns R w (here (row.zip (behindA p row))) ∧ ((doR ns s row).isd = true → runF ns w (here (row.zip (behindA p row))) = doR ns s row) ∧
      ((doR ns s row).isd = false → (runF ns w (here (row.zip (behindA p row)))).isd = false ∧ setP (runF ns w (here (row.zip (behindA p row)))) (row.foldl stepP p) = doR ns s row)
  | [], s, w, p, _, hd, hb, ht, hw => by
    refine ⟨trivial, fun h => ?_, fun _ => ⟨?_, hw⟩⟩
    · have h : s.isd = true := h
      rw [hd] at h
      cases h
    · have : (setP w p).isd = false := by rw [hw]; exact hd
      exact this
  | n :: row, s, w, p, hR, hd, hb, ht, hw => by
    have hR' : ∀ k, R (doR ns (doW ns s n) (row.take k)) := fun k => hR (k + 1)
    have hwd : w.isd = false := by
      have : (setP w p).isd = false := by rw [hw]; exact hd
      exact this
    by_cases h3 : n < 3
    · have e := doW_low ns s n h3 hd
      rw [hb, ht] at e
      have eh : here ((n :: row).zip (behindA p (n :: row))) = here (row.zip (behindA (stepP p n) row)) := by
        show here ((n, stepP p n) :: row.zip (behindA (stepP p n) row)) = _
        unfold here
        rw [List.filterMap_cons, if_pos h3]
      rw [eh]
      show okF ns R w _ ∧ ((doR ns (doW ns s n) row).isd = true → _ = doR ns (doW ns s n) row) ∧ ((doR ns (doW ns s n) row).isd = false → _ ∧ setP _ (row.foldl stepP (stepP p n)) = doR ns (doW ns s n) row)
      refine sim ns R row (doW ns s n) w (stepP p n) hR' ?_ ?_ ?_ ?_
      · rw [e]; exact hd
      · rw [e]; rfl
      · rw [e]; rfl
      · rw [e, ← hw]; rfl
    · have h3 : 3 ≤ n := by omega
      have es : stepP p n = p := by
        unfold stepP
        rw [if_neg (by omega), if_neg (by omega), if_neg (by omega)]
      have eh : here ((n :: row).zip (behindA p (n :: row))) = (p, n) :: here (row.zip (behindA p row)) := by
        show here ((n, stepP p n) :: row.zip (behindA (stepP p n) row)) = _
        unfold here
        rw [es, List.filterMap_cons, if_neg (by omega)]
      rw [eh]
      have hv := doW_pair ns s n h3
      have wr : w.room = s.room := by rw [← hw]; rfl
      have step : stepF ns w (p, n) = if p.1 = w.room then doW ns s n else w := by
        unfold stepF
        rw [if_neg (by rw [hwd]; decide), hw]
      have main : okF ns R (stepF ns w (p, n)) (here (row.zip (behindA p row))) ∧ ((doR ns (doW ns s n) row).isd = true → runF ns (stepF ns w (p, n)) (here (row.zip (behindA p row))) = doR ns (doW ns s n) row) ∧
          ((doR ns (doW ns s n) row).isd = false → (runF ns (stepF ns w (p, n)) (here (row.zip (behindA p row)))).isd = false ∧ setP (runF ns (stepF ns w (p, n)) (here (row.zip (behindA p row)))) (row.foldl stepP p) = doR ns (doW ns s n) row) := by
        rw [step]
        by_cases hr : p.1 = w.room
        · rw [if_pos hr]
          by_cases hvd : (doW ns s n).isd = true
          · rw [runF_done ns _ hvd, doR_done ns _ hvd]
            exact ⟨okF_done ns R _ hvd _, fun _ => rfl, fun z => by rw [hvd] at z; cases z⟩
          · have hvd : (doW ns s n).isd = false := by simpa using hvd
            exact sim ns R row (doW ns s n) (doW ns s n) p hR' hvd (by rw [hv.1]; exact hb) (by rw [hv.2]; exact ht) (setP_self (by rw [hv.1]; exact hb) (by rw [hv.2]; exact ht))
        · rw [if_neg hr]
          have ef : doW ns s n = s := doW_far ns s n h3 (by rw [hb, ← wr]; exact hr)
          rw [ef] at hR' ⊢
          exact sim ns R row s w p hR' hd hb ht hw
      refine ⟨⟨fun _ hr => ?_, ?_⟩, ?_⟩
      · refine ⟨?_, ?_⟩
        · show R (setP w p)
          rw [hw]
          exact hR 0
        · show R (doW ns (setP w p) n)
          rw [hw]
          exact hR 1
      · exact main.1
      · show ((doR ns (doW ns s n) row).isd = true → _ = doR ns (doW ns s n) row) ∧ ((doR ns (doW ns s n) row).isd = false → _ ∧ setP _ (row.foldl stepP (stepP p n)) = doR ns (doW ns s n) row)
        rw [es]
        exact main.2
end Ms
namespace PnX
open PySem PySem.Spec PyProof.Rows PySem.SeqAt
section
variable {P : Program} {wd : World}
/-- two tuples of as many items, told apart -/
theorem apart_tuples (p q : Addr) (us vs : Array Value) (n m : Nat) (dp dq : Option Addr) (sp sq : Array (Option Value)) (e : Nat → Bool) (len : us.size = vs.size) :
    MeetsIn P wd (Builtin.«tuple.__ne__» ⟨[.ref p, .ref q], []⟩) (fun A R s =>
      (s.heap.get? p = some ⟨.type "tuple", dp, .seq us n, sp⟩ ∧ s.heap.get? q = some ⟨.type "tuple", dq, .seq vs m, sq⟩) ∧
      (∀ (j : Nat) (hu : j < us.size) (hv : j < vs.size), EqP P wd A.in1 s us[j] vs[j] (e j)) ∧ R (.ok (.ret (.bool (!(List.range us.size).all e)))) s) :=
  .of_wp fun A R s hyp => by
    obtain ⟨hp, g, d, tk, os⟩ := s
    obtain ⟨⟨gp, gq⟩, each, fin⟩ := hyp
    have tt := AutoSeq1.sub_tuple_tuple
    have zl : (us.toList.zip vs.toList).length = us.size := by simp [len]
    wp_walk using wpAny_loadPart' gp, wpAny_loadPart' gq, wpAny_forIn_list _ (fun left st s' => st.1 = none ∧ s' = ⟨hp, g, d, tk, os⟩ ∧ ∃ k, left = (us.toList.zip vs.toList).drop k ∧ R (.ok (.ret (.bool (!((List.range us.size).drop k).all e)))) ⟨hp, g, d, tk, os⟩) _
    case turn =>
      rintro ⟨y, x⟩ left st s' ⟨st1, rfl, k, zk, hR⟩
      have kz : k < (us.toList.zip vs.toList).length := Nat.lt_of_not_le fun z => by
        rw [List.drop_of_length_le z] at zk
        cases zk
      have ku : k < us.size := zl ▸ kz
      have kv : k < vs.size := len ▸ ku
      rw [List.drop_eq_getElem_cons kz] at zk
      injection zk with hd1 hd2
      obtain rfl : y = us[k] := by simpa using congrArg Prod.fst hd1
      obtain rfl : x = vs[k] := by simpa using congrArg Prod.snd hd1
      have kr : (List.range us.size).drop k = k :: (List.range us.size).drop (k + 1) := by simp [List.drop_eq_getElem_cons, ku]
      rw [kr, List.all_cons] at hR
      refine wpAny_bind (each k ku kv _ _ ?_)
      cases ek : e k with
      | false =>
        rw [ek] at hR
        wp_walk
        exact ⟨_, rfl, by simpa using hR⟩
      | true =>
        rw [ek] at hR
        wp_walk
        exact ⟨rfl, rfl, k + 1, hd2, by simpa using hR⟩
    case fin =>
      rintro ⟨st1, st2⟩ s' ⟨e1, rfl, k, zk, hR⟩
      simp only at e1
      subst e1
      have ge : us.size ≤ k := Nat.le_of_not_lt fun z => by
        rw [List.drop_eq_getElem_cons (zl.symm ▸ z)] at zk
        cases zk
      rw [List.drop_of_length_le (by simpa using ge)] at hR
      wp_walk
      exact ⟨_, rfl, by simpa [Builtin.Tuple.tupleCompareSizes, bne, len] using hR⟩
    case h => exact ⟨rfl, rfl, 0, rfl, by simpa using fin⟩
theorem rc_apart {A : Around} {s : Shared} {p q : Addr} {us vs : Array Value} {e : Nat → Bool} {E Q : Value → Shared → Prop} (tp : s.heap.IsTuple p us) (tq : s.heap.IsTuple q vs) (len : us.size = vs.size) (room : A.units < cLine)
    (each : ∀ (j : Nat) (hu : j < us.size) (hv : j < vs.size), EqP P wd A.in1 s us[j] vs[j] (e j)) (fin : Q (.bool (!(List.range us.size).all e)) s) : wpAny (model P wd) A (richCompare .NotEq (.ref p) (.ref q)) Q E s := by
  obtain ⟨⟨c1, dp, x1, sp⟩, g1, e1, n, k1⟩ := id tp
  obtain ⟨⟨c2, dq, x2, sq⟩, g2, e2, m, k2⟩ := id tq
  simp only at e1 k1 e2 k2
  subst e1 k1 e2 k2
  refine wpAny_richCompare_same_room (T := "tuple") (op := .NotEq) ⟨_, g1, rfl⟩ ⟨_, g2, rfl⟩ F.slot_tuple_ne ?_ room
  refine call_meetsIn F.slot_tuple_ne ⟨_, g1, rfl⟩ F.entry_tuple_ne (F.args_tuple_ne_2 _ _) (apart_tuples p q us vs n m dp dq sp sq e len) ⟨⟨g1, g2⟩, each, ?_⟩
  exact show Value.bool (!(List.range us.size).all e) ≠ Value.notImplemented ∧ Q (.bool (!(List.range us.size).all e)) s from ⟨(fun x => nomatch x), fin⟩
end
section
open L2 Kx SX Ms
theorem ints_eq {P : Program} {wd : World} {A : Around} {s : Shared} {i j : Int} {u v : Value} (ru : RelV (.int i) u) (rv : RelV (.int j) v) : EqP P wd A s u v (decide (i = j)) := by
  obtain ⟨t, rfl⟩ := ru
  obtain ⟨z, rfl⟩ := rv
  have h := (SeqAt.EqAt.int_int (A := A) (s := s) i t j z).eqP (prog := P) (w := wd)
  have e : (i == j) = decide (i = j) := rfl
  exact e ▸ h
theorem bools_eq {P : Program} {wd : World} {A : Around} {s : Shared} {i j : Bool} {u v : Value} (ru : RelV (.bl i) u) (rv : RelV (.bl j) v) : EqP P wd A s u v (decide (i = j)) := by
  cases (show u = Value.bool i from ru)
  cases (show v = Value.bool j from rv)
  have h := (SeqAt.EqAt.bool_bool (A := A) (s := s) i j).eqP (prog := P) (w := wd)
  have e : (i == j) = decide (i = j) := by cases i <;> cases j <;> rfl
  exact e ▸ h
def hitsB (es fs : List (Int × Int)) : Bool := es.all fun p => decide (lkp fs p.1 = some p.2)
theorem hits_ints {P : Program} {wd : World} {A : Around} {s : Shared} {fs : List (Int × Int)} {vb : List (Key × Value)} (rb : KV (kvI fs) vb) : ∀ (es : List (Int × Int)) (va : List (Key × Value)), KV (kvI es) va → PySem.W.KeqHitsP P wd A s vb va (hitsB es fs)
  | [], va, h => by
    cases h
    exact .nil
  | p :: r, va, h => by
    cases h with
    | @cons _ q _ qs h1 h2 =>
      obtain ⟨ek, rv⟩ := h1
      obtain ⟨key, v⟩ := q
      cases (show Sum.inl p.1 = key from ek)
      have hv := rb.val (Sum.inl p.1)
      rw [valV_kvI] at hv
      have ih := hits_ints (P := P) (wd := wd) (A := A) (s := s) rb r qs h2
      show PySem.W.KeqHitsP P wd A s vb ((Sum.inl p.1, v) :: qs) (decide (lkp fs p.1 = some p.2) && hitsB r fs)
      cases hl : lkp fs p.1 with
      | none =>
        rw [hl] at hv
        rw [decide_eq_false (by simp), Bool.false_and]
        exact .miss (by
          cases hx : valueAt vb (Sum.inl p.1) with
          | none => rfl
          | some _ => rw [hx] at hv; cases hv)
      | some z =>
        rw [hl] at hv
        obtain ⟨y, hy, ry⟩ := hv.some_of
        have e : decide (some z = some p.2) = decide (p.2 = z) := by
          by_cases h : p.2 = z
          · rw [decide_eq_true h, decide_eq_true (by rw [h])]
          · rw [decide_eq_false h, decide_eq_false fun w => h (Option.some.inj w).symm]
        rw [e]
        exact .hit hy (ints_eq rv ry) ih
/-- x == y answers b: two ints, two bools, two dicts of ints -/
def EqB (H : Hp) (x y : V) (b : Bool) : Prop := (∃ i j : Int, x = .int i ∧ y = .int j ∧ b = decide (i = j)) ∨ (∃ i j : Bool, x = .bl i ∧ y = .bl j ∧ b = decide (i = j)) ∨
  ∃ (p q : Addr) (es fs : List (Int × Int)), x = .ref p ∧ y = .ref q ∧ p ≠ q ∧ H p = some (.dK (kvI es)) ∧ H q = some (.dK (kvI fs)) ∧ b = (decide (es.length = fs.length) && hitsB es fs)
inductive EqBs (H : Hp) : List V → List V → List Bool → Prop
  | nil : EqBs H [] [] []
  | cons {x y : V} {b : Bool} {xs ys : List V} {bs : List Bool} : EqB H x y b → EqBs H xs ys bs → EqBs H (x :: xs) (y :: ys) (b :: bs)
theorem EqBs.len {H : Hp} {xs ys : List V} {bs : List Bool} (h : EqBs H xs ys bs) : xs.length = ys.length ∧ bs.length = xs.length := by
  induction h with
  | nil => exact ⟨rfl, rfl⟩
  | cons _ _ ih => exact ⟨by rw [List.length_cons, List.length_cons, ih.1], by rw [List.length_cons, List.length_cons, ih.2]⟩
theorem EqBs.at {H : Hp} {xs ys : List V} {bs : List Bool} (h : EqBs H xs ys bs) : ∀ {us ws : List Value}, Vals xs us → Vals ys ws → ∀ (j : Nat) (h1 : j < us.length) (h2 : j < ws.length), ∃ x y, EqB H x y (bs.getD j true) ∧ RelV x us[j] ∧ RelV y ws[j] := by
  induction h with
  | nil =>
    intro us ws r1 r2 j h1 h2
    cases r1
    exact absurd h1 (Nat.not_lt_zero j)
  | cons h _ ih =>
    intro us ws r1 r2 j h1 h2
    cases r1 with
    | cons a1 b1 =>
      cases r2 with
      | cons a2 b2 =>
        cases j with
        | zero => exact ⟨_, _, h, a1, a2⟩
        | succ j => exact ih b1 b2 j (Nat.lt_of_succ_lt_succ h1) (Nat.lt_of_succ_lt_succ h2)
section
variable {X : Cx} {pins : List (Addr × Obj)} {σ : L2.St} {H : Hp} {s : Shared}
theorem eqB_run (I : Inv X pins σ H s) {A : Around} (hu : A.units + 1 < cLine) {x y : V} {u v : Value} {b : Bool} (h : EqB H x y b) (rx : RelV x u) (ry : RelV y v) : EqP X.prog X.w A s u v b := by
  rcases h with ⟨i, j, rfl, rfl, rfl⟩ | ⟨i, j, rfl, rfl, rfl⟩ | ⟨p, q, es, fs, rfl, rfl, ne, hp, hq, rfl⟩
  · exact ints_eq rx ry
  · exact bools_eq rx ry
  · cases (show u = Value.ref p from rx)
    cases (show v = Value.ref q from ry)
    obtain ⟨_, ya, va, ra, da⟩ := (show ObjOk X.prog X.w H s.heap p (.dK (kvI es)) from I.hok p _ hp)
    obtain ⟨_, yb, vb, rb, db⟩ := (show ObjOk X.prog X.w H s.heap q (.dK (kvI fs)) from I.hok q _ hq)
    refine SeqAt.eqP_refs ne fun E Q h => ?_
    refine PySem.W.rcP_dicts (knd := mixKind X.prog X.w) (r := hitsB es fs) ya yb da db (by omega) (fun _ => hits_ints rb es va ra) E Q ?_
    have e1 : va.length = es.length := by rw [← ra.length, kvI_len]
    have e2 : vb.length = fs.length := by rw [← rb.length, kvI_len]
    rw [e1, e2]
    have e3 : (es.length == fs.length) = decide (es.length = fs.length) := rfl
    rw [e3]
    exact h
end
section
variable {X : Cx}
/-- two tuples of ints, bools and dicts of ints, told apart -/
def rNeT (K : PySem.W.Frag) : R2 := fun x y H Q => ∃ (p q : Addr) (xs ys : List V) (bs : List Bool), x = .ref p ∧ y = .ref q ∧ SqT K H p xs ∧ SqT K H q ys ∧ EqBs H xs ys bs ∧ Q (.bl (!bs.all id)) H
theorem op_neT (hu : X.A.units + 64 < cLine) : OpR X (compareOp .NotEq) (rNeT X.K) := by
  intro pins s σ H x y v u Q I rx ry h
  obtain ⟨p, q, xs, ys, bs, rfl, rfl, hp, hq, he, k⟩ := h
  cases (show v = Value.ref p from rx)
  cases (show u = Value.ref q from ry)
  obtain ⟨us, r1, p1, _⟩ := I.tuple hp
  obtain ⟨ws, r2, p2, _⟩ := I.tuple hq
  have l1 := he.len
  have hsz : us.toArray.size = ws.toArray.size := by
    rw [List.size_toArray, List.size_toArray, ← r1.length, ← r2.length]
    exact l1.1
  have lb : us.toArray.size = bs.length := by rw [List.size_toArray, ← r1.length, l1.2]
  refine rc_apart (e := fun j => bs.getD j true) p1 p2 hsz (by omega) (fun j h1 h2 => ?_) ?_
  · obtain ⟨x, y, h, ra, rb⟩ := he.at r1 r2 j (by simpa using h1) (by simpa using h2)
    have := eqB_run I (A := X.A.in1) (by show X.A.units + 1 + 1 < cLine; omega) h ra rb
    simpa using this
  · have e : ((List.range us.toArray.size).all fun j => bs.getD j true) = bs.all id := by
      rw [lb]
      clear he l1 lb k
      induction bs with
      | nil => rfl
      | cons b bs ih =>
        rw [List.length_cons, List.range_succ_eq_map, List.all_cons, List.all_map]
        show (b && _) = (b && _)
        congr 1
    rw [e]
    exact ⟨.bl _, H, I, rfl, k⟩
end
end
end PnX
namespace Ms
open PySem PySem.Spec PyProof.Rows L2 Kx SX LamX
/-- a statement whose ways meet again -/
theorem meetS {t u : TS} {D : Ends} {σ : L2.St} {H : Hp} (Pz : L2.St → Hp → Prop) (h1 : ∀ nx : L2.St → Hp → Prop, (∀ σ' H', Pz σ' H' → nx σ' H') → t { D with nx := nx } σ H) (h2 : ∀ σ' H', Pz σ' H' → u D σ' H') : tSeq t u D σ H := h1 (u D) h2
theorem go_aug {i : Nat} {te : TE} {ti : TIp} {D : Ends} {σ : L2.St} {H : Hp} {x : V} (hi : σ[i]? = some (some x)) (h : te σ H fun y H1 => ti x y H1 fun z H2 => D.nx (σ.set i (some z)) H2) : tAug i te ti D σ H := ⟨x, hi, h⟩
/-- all but the three objects of a work -/
def rest3 (a b c : Addr) (H : Hp) : Hp := fun d => if d = a ∨ d = b ∨ d = c then none else H d
theorem rest3_at {a b c d : Addr} {H : Hp} {o : HO} (h : H d = some o) (n1 : d ≠ a) (n2 : d ≠ b) (n3 : d ≠ c) : rest3 a b c H d = some o := by
  unfold rest3
  rw [if_neg (by rintro (z | z | z) <;> contradiction)]
  exact h
theorem rest3_none {a b c d : Addr} {H : Hp} (h : d = a ∨ d = b ∨ d = c) : rest3 a b c H d = none := by
  unfold rest3
  rw [if_pos h]
theorem rest3_sub {a b c : Addr} {H : Hp} : Same (rest3 a b c H) H := fun d o h => by
  unfold rest3 at h
  split at h
  · cases h
  · exact h
section
variable {K : PySem.W.Frag} {C w nl dx pc ps : Addr} {H0 H H' : Hp} {ns : List Int} {s t : Mst} {m n : Nat} {es es' : List (Int × Int)}
theorem _root_.Kx.WorkAt.base (h : WorkAt K C H0 H w nl ns s m dx pc ps es) : Same H0 (rest3 w pc ps H) := fun d o hd =>
  rest3_at (h.old d o hd) (fun e => by rw [e, h.nw] at hd; cases hd) (fun e => by rw [e, h.nc] at hd; cases hd) (fun e => by rw [e, h.np] at hd; cases hd)
/-- the same work, all else held fast -/
theorem _root_.Kx.WorkAt.root (h : WorkAt K C H0 H w nl ns s m dx pc ps es) : WorkAt K C (rest3 w pc ps H) H w nl ns s m dx pc ps es :=
  { h with num := Same.q h.base h.num, old := rest3_sub, nw := rest3_none (.inl rfl), nc := rest3_none (.inr (.inl rfl)), np := rest3_none (.inr (.inr rfl)) }
theorem _root_.Kx.WorkAt.unroot (h : WorkAt K C H0 H w nl ns s m dx pc ps es) (k : WorkAt K C (rest3 w pc ps H) H' w nl ns t n dx pc ps es') : WorkAt K C H0 H' w nl ns t n dx pc ps es' :=
  { k with num := h.num, old := h.base.trans k.old, nw := h.nw, nc := h.nc, np := h.np }
end
end Ms
namespace Ms
open PySem PySem.Spec PyProof.Rows L2 Kx SX LamX
/-- stretches: a tuple of block, tick and a list of words each -/
def GrpAt (H : Hp) (x : Addr × Addr) (g : Grp) : Prop := H x.1 = some (.tup [.int g.1, .bl g.2.1, .ref x.2]) ∧ H x.2 = some (.lst (rowV g.2.2))
structure GrpsAt (H0 H : Hp) (D : Addr) (tus : List (Addr × Addr)) (gs : List Grp) : Prop where
  at_ : H D = some (.lst (tus.map fun x => V.ref x.1))
  all : Paired (GrpAt H) tus gs
  nd : (tus.map (·.2)).Nodup
  nD : ∀ x ∈ tus, x.2 ≠ D
  new : ∀ x ∈ tus, H0 x.2 = none
  old : Same H0 H
theorem paired_end {α β : Type} {R : α → β → Prop} {xs : List α} {ys : List β} {x : α} {y : β} (h : Paired R xs ys) (k : R x y) : Paired R (xs ++ [x]) (ys ++ [y]) := by
  induction h with
  | nil => exact .cons k .nil
  | cons a _ ih => exact .cons a ih
theorem paired_snocI {α β : Type} {R : α → β → Prop} {y : β} : ∀ {xs : List α} {ys : List β}, Paired R xs (ys ++ [y]) → ∃ (xs' : List α) (x : α), xs = xs' ++ [x] ∧ Paired R xs' ys ∧ R x y
  | _, [], h => by
    cases h with
    | cons a t =>
      cases t
      exact ⟨[], _, rfl, .nil, a⟩
  | _, z :: ys, h => by
    cases h with
    | cons a t =>
      obtain ⟨xs', x, rfl, h1, h2⟩ := paired_snocI t
      exact ⟨_ :: xs', x, rfl, .cons a h1, h2⟩
theorem paired_mapM {α β : Type} {F G : α → β → Prop} : ∀ {xs : List α} {ys : List β}, Paired F xs ys → (∀ a ∈ xs, ∀ b, F a b → G a b) → Paired G xs ys
  | _, _, .nil, _ => .nil
  | _, _, .cons h t, k => .cons (k _ List.mem_cons_self _ h) (paired_mapM t fun a m b z => k a (List.mem_cons_of_mem _ m) b z)
variable {H0 H H' : Hp} {D : Addr} {tus : List (Addr × Addr)} {gs : List Grp}
theorem GrpAt.same {x : Addr × Addr} {g : Grp} (h : GrpAt H x g) (e : Same H H') : GrpAt H' x g := ⟨e _ _ h.1, e _ _ h.2⟩
theorem GrpsAt.same (h : GrpsAt H0 H D tus gs) (e : Same H H') : GrpsAt H0 H' D tus gs :=
  ⟨e _ _ h.at_, Paired.mapP h.all fun _ _ z => z.same e, h.nd, h.nD, h.new, h.old.trans e⟩
theorem GrpsAt.none (nD : H0 D = Option.none) (h : H D = some (.lst [])) (e : Same H0 H) : GrpsAt H0 H D [] [] := ⟨h, .nil, List.nodup_nil, fun x m => (by cases m), fun x m => (by cases m), e⟩
/-- one more stretch -/
theorem GrpsAt.app {t u : Addr} {p : Pr} {n : Nat} (h : GrpsAt H0 H D tus gs) (nD : H0 D = Option.none) (nu : H u = Option.none) (nt : upd H u (.lst [.int (n : Int)]) t = Option.none) :
    GrpsAt H0 (upd (upd (upd H u (.lst [.int (n : Int)])) t (.tup [.int p.1, .bl p.2, .ref u])) D (.lst ((tus.map fun x => V.ref x.1) ++ [V.ref t]))) D (tus ++ [(t, u)]) (gs ++ [(p.1, p.2, [n])]) := by
  have s1 := same_new (o := HO.lst [V.int (n : Int)]) nu
  have s2 := same_new (o := HO.tup [V.int p.1, V.bl p.2, V.ref u]) nt
  have hDu : D ≠ u := ne_of_none h.at_ nu
  have s12 := s1.trans s2
  have hDt : D ≠ t := ne_of_none (s1 _ _ h.at_) nt
  have hu : (upd (upd H u (.lst [.int (n : Int)])) t (.tup [.int p.1, .bl p.2, .ref u])) u = some (.lst [.int (n : Int)]) := s2 _ _ upd_same
  have ut : u ≠ t := ne_of_none (upd_same (H := H) (a := u) (o := HO.lst [V.int (n : Int)])) nt
  have nu0 : H0 u = Option.none := by
    cases z : H0 u with
    | none => rfl
    | some o =>
      have := h.old _ _ z
      rw [nu] at this
      cases this
  refine ⟨by rw [upd_same, List.map_append]; rfl, paired_end (paired_mapM h.all fun x m g z => ?_) ⟨?_, ?_⟩, ?_, ?_, ?_, same_set (h.old.trans s12) nD⟩
  · have z2 := z.same s12
    refine ⟨?_, ?_⟩
    · rw [upd_ne (ne_of_two z2.1 (s12 _ _ h.at_) (fun z => by cases z))]
      exact z2.1
    · rw [upd_ne (h.nD x m)]
      exact z2.2
  · show upd _ D _ t = _
    rw [upd_ne hDt.symm]
    exact upd_same
  · show upd _ D _ u = _
    rw [upd_ne hDu.symm]
    exact hu
  · rw [List.map_append, List.nodup_append]
    refine ⟨h.nd, by simp, fun a ha b hb => ?_⟩
    rw [List.mem_singleton.mp hb]
    intro e
    obtain ⟨x, hx, ex⟩ := List.mem_map.mp ha
    obtain ⟨i, hi, e1⟩ := List.mem_iff_getElem.mp hx
    have hl := h.all.length
    have z := paired_at h.all (List.getElem?_eq_getElem hi) (List.getElem?_eq_getElem (show i < gs.length by omega))
    rw [e1] at z
    have z2 := z.2
    rw [ex, e] at z2
    have nu' : H u = Option.none := nu
    have z3 : H u = some (.lst (rowV gs[i].2.2)) := z2
    rw [nu'] at z3
    cases z3
  · intro x m
    rcases List.mem_append.mp m with m | m
    · exact h.nD x m
    · rw [List.mem_singleton.mp m]
      exact hDu.symm
  · intro x m
    rcases List.mem_append.mp m with m | m
    · exact h.new x m
    · rw [List.mem_singleton.mp m]
      exact nu0
/-- the last stretch is one word longer -/
theorem GrpsAt.more {t u : Addr} {b : Int} {k : Bool} {ws : List Nat} {n : Nat} (h : GrpsAt H0 H D (tus ++ [(t, u)]) (gs ++ [(b, k, ws)])) : GrpsAt H0 (upd H u (.lst (rowV ws ++ [.int (n : Int)]))) D (tus ++ [(t, u)]) (gs ++ [(b, k, ws ++ [n])]) := by
  obtain ⟨xs', x, e, h1, h2⟩ := paired_snocI h.all
  obtain ⟨rfl, rfl⟩ : tus = xs' ∧ (t, u) = x := by
    have := List.append_inj' e rfl
    exact ⟨this.1, by simpa using this.2⟩
  have m0 : (t, u) ∈ tus ++ [(t, u)] := List.mem_append_right _ (List.mem_singleton.mpr rfl)
  have hDu : u ≠ D := h.nD (t, u) m0
  refine ⟨by rw [upd_ne hDu.symm]; exact h.at_, paired_end (paired_mapM h1 fun y m g z => ⟨?_, ?_⟩) ⟨?_, ?_⟩, h.nd, h.nD, h.new, same_set h.old (h.new (t, u) m0)⟩
  · rw [upd_ne (ne_of_two z.1 h2.2 (fun z => by cases z))]
    exact z.1
  · have ne : y.2 ≠ u := fun e => by
      have nd := h.nd
      rw [List.map_append, List.nodup_append] at nd
      exact nd.2.2 y.2 (List.mem_map.mpr ⟨y, m, rfl⟩) u (List.mem_singleton.mpr rfl) e
    rw [upd_ne ne]
    exact z.2
  · have := h2.1
    show upd H u _ t = _
    rw [upd_ne (ne_of_two h2.1 h2.2 (fun z => by cases z))]
    exact this
  · show upd H u _ u = some (.lst (rowV (ws ++ [n])))
    rw [upd_same]
    unfold rowV
    rw [List.map_append]
    rfl
theorem GrpsAt.last {b : Int} {k : Bool} {ws : List Nat} (h : GrpsAt H0 H D tus (gs ++ [(b, k, ws)])) : ∃ (tus' : List (Addr × Addr)) (t u : Addr), tus = tus' ++ [(t, u)] ∧ H t = some (.tup [.int b, .bl k, .ref u]) ∧ H u = some (.lst (rowV ws)) := by
  obtain ⟨xs', x, e, h1, h2⟩ := paired_snocI h.all
  exact ⟨xs', x.1, x.2, e, h2.1, h2.2⟩
end Ms
namespace Ms
def steadyB (row : List Nat) : Bool := decide (row.take 2 = [0, 1])
def lastP (row : List Nat) : Pr := row.foldl stepP p0
theorem grps_flat (row : List Nat) : flatG (grps row) = here (row.zip (behindA p0 row)) := by
  unfold grps
  rw [flat_grpsA]
  rfl
theorem here_mem {l : List (Nat × Pr)} {x : Pr × Nat} (h : x ∈ here l) : 3 ≤ x.2 := by
  obtain ⟨y, _, e⟩ := List.mem_filterMap.mp h
  split at e
  · cases e
  · cases e
    show 3 ≤ y.1
    omega
theorem here_nat {l : List (Nat × Pr)} {x : Pr × Nat} (h : x ∈ here l) : x.2 ∈ l.map (·.1) := by
  obtain ⟨y, m, e⟩ := List.mem_filterMap.mp h
  split at e
  · cases e
  · cases e
    exact List.mem_map.mpr ⟨y, m, rfl⟩
theorem here_len (l : List (Nat × Pr)) : (here l).length ≤ l.length := List.length_filterMap_le ..
theorem grp_mem {row : List Nat} {g : Grp} {n : Nat} (hg : g ∈ grps row) (hn : n ∈ g.2.2) : 3 ≤ n ∧ n ∈ row := by
  have h : ((g.1, g.2.1), n) ∈ flatG (grps row) := List.mem_flatMap.mpr ⟨g, hg, List.mem_map.mpr ⟨n, hn, rfl⟩⟩
  rw [grps_flat] at h
  refine ⟨here_mem h, ?_⟩
  obtain ⟨y, m, e⟩ := List.mem_map.mp (here_nat h)
  have m2 := (List.of_mem_zip m).1
  rw [e] at m2
  exact m2
theorem grps_short (row : List Nat) : (flatG (grps row)).length ≤ row.length := by
  rw [grps_flat]
  refine Nat.le_trans (here_len _) ?_
  rw [List.length_zip, behindA_len]
  omega
/-- a steady row, stretch by stretch -/
theorem steady {ns : List Int} {R : Mst → Prop} {row : List Nat} {s : Mst} (hb : steadyB row = true) (hR : ∀ k, R (doR ns s (row.take k))) (hd : s.isd = false) :
    okF ns R s (flatG (grps row)) ∧ ((runF ns s (flatG (grps row))).isd = true → runF ns s (flatG (grps row)) = doR ns s row) ∧
      ((runF ns s (flatG (grps row))).isd = false → setP (runF ns s (flatG (grps row))) (lastP row) = doR ns s row) := by
  obtain ⟨rest, rfl⟩ : ∃ rest, row = 0 :: 1 :: rest := by
    have h := of_decide_eq_true hb
    match row, h with
    | [], h => cases h
    | [a], h => cases h
    | a :: b :: r, h =>
      have h : [a, b] = [0, 1] := h
      cases h
      exact ⟨r, rfl⟩
  have eh : flatG (grps (0 :: 1 :: rest)) = here (rest.zip (behindA (-1, true) rest)) := by
    rw [grps_flat]
    rfl
  have e2 : doR ns s (0 :: 1 :: rest) = doR ns (setP s (-1, true)) rest := by
    show doR ns (doW ns (doW ns s 0) 1) rest = _
    rw [doW_low ns s 0 (by decide) hd]
    have hd2 : (setP s (stepP (s.block, s.tick) 0)).isd = false := hd
    rw [doW_low ns _ 1 (by decide) hd2]
    rfl
  have hR2 : ∀ k, R (doR ns (setP s (-1, true)) (rest.take k)) := fun k => by
    have h := hR (k + 2)
    have e3 : doR ns s ((0 :: 1 :: rest).take (k + 2)) = doR ns (setP s (-1, true)) (rest.take k) := by
      show doR ns (doW ns (doW ns s 0) 1) (rest.take k) = _
      rw [doW_low ns s 0 (by decide) hd]
      have hd2 : (setP s (stepP (s.block, s.tick) 0)).isd = false := hd
      rw [doW_low ns _ 1 (by decide) hd2]
      rfl
    rw [e3] at h
    exact h
  obtain ⟨h1, h2, h3⟩ := sim ns R rest (setP s (-1, true)) s (-1, true) hR2 hd rfl rfl rfl
  rw [eh, e2]
  refine ⟨h1, fun z => ?_, fun z => ?_⟩
  · cases hr : (doR ns (setP s (-1, true)) rest).isd with
    | true => exact h2 hr
    | false =>
      have := (h3 hr).1
      rw [z] at this
      cases this
  · cases hr : (doR ns (setP s (-1, true)) rest).isd with
    | true =>
      have := h2 hr
      rw [this, hr] at z
      cases z
    | false => exact (h3 hr).2
theorem flatG_take_succ {gs : List Grp} {i : Nat} {g : Grp} (h : gs[i]? = some g) : flatG (gs.take (i + 1)) = flatG (gs.take i) ++ g.2.2.map fun n => ((g.1, g.2.1), n) := by
  have e : gs.take (i + 1) = gs.take i ++ [g] := by rw [List.take_add_one, h]; rfl
  rw [e, flatG_app, flatG_cons]
  show _ = _
  congr 1
  exact List.append_nil _
theorem flatG_split {gs : List Grp} {i : Nat} {g : Grp} (h : gs[i]? = some g) : flatG gs = flatG (gs.take i) ++ ((g.2.2.map fun n => ((g.1, g.2.1), n)) ++ flatG (gs.drop (i + 1))) := by
  have hi := (List.getElem?_eq_some_iff.mp h).1
  have e : gs = gs.take i ++ g :: gs.drop (i + 1) := by
    have := (List.getElem?_eq_some_iff.mp h).2
    rw [← this, ← List.drop_eq_getElem_cons hi, List.take_append_drop]
  conv => lhs; rw [e, flatG_app, flatG_cons]
end Ms
namespace Ms
open PnX
/-! ### pass by pass, two rows -/
def iterR (ns : List Int) (row : List Nat) (s : Mst) : Nat → Mst
  | 0 => s
  | j + 1 => doR ns (iterR ns row s j) row
open Classical in
noncomputable def partedF (ns : List Int) (r1 r2 : List Nat) : Nat → Nat → Mst → Mst → Option Nat
  | 0, _, _, _ => none
  | k + 1, j, s, t => if doR ns s r1 = doR ns t r2 then partedF ns r1 r2 k (j + 1) (doR ns s r1) (doR ns t r2) else some (j + 1)
theorem partedF_swap (ns : List Int) (r1 r2 : List Nat) : ∀ (k j : Nat) (s t : Mst), partedF ns r1 r2 k j s t = partedF ns r2 r1 k j t s
  | 0, _, _, _ => rfl
  | k + 1, j, s, t => by
    unfold partedF
    by_cases h : doR ns s r1 = doR ns t r2
    · rw [if_pos h, if_pos h.symm, partedF_swap ns r1 r2 k]
    · rw [if_neg h, if_neg fun z => h z.symm]
theorem partedF_none (ns : List Int) (r1 r2 : List Nat) (h : ∀ s, doR ns s r1 = doR ns s r2) : ∀ (k j : Nat) (s : Mst), partedF ns r1 r2 k j s s = none
  | 0, _, _ => rfl
  | k + 1, j, s => by
    unfold partedF
    rw [if_pos (h s), ← h s]
    exact partedF_none ns r1 r2 h k (j + 1) _
theorem partedF_done (ns : List Int) (r1 r2 : List Nat) (k j : Nat) (s : Mst) (h : s.isd = true) : partedF ns r1 r2 k j s s = none := by
  induction k generalizing j with
  | zero => rfl
  | succ k ih =>
    unfold partedF
    rw [doR_done ns s h, doR_done ns s h, if_pos rfl]
    exact ih (j + 1)
theorem doW_said (ns : List Int) (s : Mst) (n : Nat) : ∃ e, (doW ns s n).said = s.said ++ e := by
  have nil : ∃ e : List Int, s.said = s.said ++ e := ⟨[], (List.append_nil _).symm⟩
  unfold doW
  split
  · exact nil
  split
  · exact nil
  split
  · exact nil
  split
  · exact nil
  split
  · exact nil
  split
  · exact nil
  split
  · split
    · unfold flagW
      (repeat' split) <;> first | exact nil | exact ⟨[s.first], rfl⟩
    · exact nil
  · unfold bareW
    (repeat' split) <;> exact nil
theorem doR_said (ns : List Int) : ∀ (r : List Nat) (s : Mst), ∃ e, (doR ns s r).said = s.said ++ e
  | [], s => ⟨[], (List.append_nil _).symm⟩
  | n :: r, s => by
    obtain ⟨e1, h1⟩ := doW_said ns s n
    obtain ⟨e2, h2⟩ := doR_said ns r (doW ns s n)
    refine ⟨e1 ++ e2, ?_⟩
    show (doR ns (doW ns s n) r).said = _
    rw [h2, h1, List.append_assoc]
/-! ### cells told apart -/
theorem pigeon {α : Type} [DecidableEq α] : ∀ (xs ys : List α), xs.Nodup → (∀ x ∈ xs, x ∈ ys) → xs.length ≤ ys.length ∧ (ys.length ≤ xs.length → ∀ y ∈ ys, y ∈ xs)
  | [], ys, _, _ => ⟨Nat.zero_le _, fun h y m => by
      cases ys with
      | nil => exact m
      | cons a l => exact absurd h (Nat.not_succ_le_zero _)⟩
  | x :: xs, ys, nd, h => by
    have nd := List.nodup_cons.mp nd
    have hx := h x List.mem_cons_self
    have le := List.length_erase_of_mem hx
    have pos : 0 < ys.length := List.length_pos_of_mem hx
    obtain ⟨h1, h2⟩ := pigeon xs (ys.erase x) nd.2 fun y m => (List.mem_erase_of_ne (a := y) (fun e => nd.1 (by rw [← e]; exact m))).mpr (h y (List.mem_cons_of_mem _ m))
    refine ⟨by rw [List.length_cons]; omega, fun hl y m => ?_⟩
    rw [List.length_cons] at hl
    by_cases e : y = x
    · rw [e]
      exact List.mem_cons_self
    · exact List.mem_cons_of_mem _ (h2 (by omega) y ((List.mem_erase_of_ne e).mpr m))
theorem nodup_of_map {α β : Type} {f : α → β} {l : List α} (h : (l.map f).Nodup) : l.Nodup := by
  have h := List.pairwise_map.mp h
  exact h.imp fun n e => n (by rw [e])
theorem cells_eq {es fs : List (Int × Int)} {f g : Int → Int} (hf : CellsW es f) (hg : CellsW fs g) : (decide (es.length = fs.length) && hitsB es fs) = true ↔ f = g := by
  unfold hitsB
  rw [Bool.and_eq_true, decide_eq_true_eq, List.all_eq_true]
  constructor
  · rintro ⟨h1, h2⟩
    have sub : ∀ p ∈ es, p ∈ fs := fun p m => (lkp_mem hg.nd).mp (of_decide_eq_true (h2 p m))
    have back := (pigeon es fs (nodup_of_map hf.nd) sub).2 (by omega)
    funext c
    by_cases z : f c = 0
    · by_cases z2 : g c = 0
      · rw [z, z2]
      · have m := (hg.mem c (g c)).mpr ⟨rfl, z2⟩
        have := ((hf.mem c (g c)).mp (back _ m)).1
        exact this
    · have m := (hf.mem c (f c)).mpr ⟨rfl, z⟩
      exact ((hg.mem c (f c)).mp (sub _ m)).1.symm
  · rintro rfl
    have sub : ∀ p, p ∈ es ↔ p ∈ fs := fun p => (hf.mem p.1 p.2).trans (hg.mem p.1 p.2).symm
    refine ⟨Nat.le_antisymm (pigeon es fs (nodup_of_map hf.nd) fun p m => (sub p).mp m).1 (pigeon fs es (nodup_of_map hg.nd) fun p m => (sub p).mpr m).1, fun p m => ?_⟩
    exact decide_eq_true ((lkp_mem hg.nd).mpr ((sub p).mp m))
/-- the parts of two works, told apart one by one -/
def partsB (s t : Mst) (es fs : List (Int × Int)) : List Bool := [decide (s.block = t.block), decide (s.room = t.room), decide (s.tick = t.tick), decide (s.flag = t.flag), decide (s.test = t.test), decide (s.mode = t.mode), decide (s.first = t.first), decide (s.second = t.second),
  decide (es.length = fs.length) && hitsB es fs, decide ((s.heard : Int) = (t.heard : Int)), decide (s.isd = t.isd)]
theorem parts_eq {s t : Mst} {es fs : List (Int × Int)} (hf : CellsW es s.cells) (hg : CellsW fs t.cells) : (partsB s t es fs).all id = true ↔ (∃ l, t = { s with said := l }) := by
  have hc := cells_eq hf hg
  unfold partsB
  simp only [List.all_cons, List.all_nil, Bool.and_true, id_eq, Bool.and_eq_true, decide_eq_true_eq] at hc ⊢
  constructor
  · rintro ⟨h1, h2, h3, h4, h5, h6, h7, h8, h9, h10, h11⟩
    have h9 := hc.mp h9
    refine ⟨t.said, ?_⟩
    cases s
    cases t
    dsimp only at h1 h2 h3 h4 h5 h6 h7 h8 h9 h10 h11 ⊢
    have h10 := Int.ofNat.inj h10
    subst h1 h2 h3 h4 h5 h6 h7 h8 h9 h10 h11
    rfl
  · rintro ⟨l, rfl⟩
    exact ⟨rfl, rfl, rfl, rfl, rfl, rfl, rfl, rfl, hc.mpr rfl, rfl, rfl⟩
end Ms
namespace Ms
open PySem PySem.Spec PyProof.Rows L2 Kx SX LamX PnX
section
variable {K : PySem.W.Frag} {C w nl dx pc ps w2 nl2 dx2 pc2 ps2 : Addr} {H0 B H H' : Hp} {ns ns2 : List Int} {s t : Mst} {m n : Nat} {es es2 : List (Int × Int)}
theorem _root_.Kx.WorkAt.rebase (h : WorkAt K C H0 H w nl ns s m dx pc ps es) (e0 : Same H0 B) (e1 : Same B H) (b1 : B w = none) (b2 : B pc = none) (b3 : B ps = none) : WorkAt K C B H w nl ns s m dx pc ps es :=
  { h with num := Same.q e0 h.num, old := e1, nw := b1, nc := b2, np := b3 }
/-- two works have nothing in common -/
structure Apart (w pc ps w2 pc2 ps2 : Addr) : Prop where
  w : w2 ≠ w
  c : pc2 ≠ pc
  p : ps2 ≠ ps
theorem Apart.swap (d : Apart w pc ps w2 pc2 ps2) : Apart w2 pc2 ps2 w pc ps := ⟨d.w.symm, d.c.symm, d.p.symm⟩
theorem _root_.Kx.WorkAt.other (h : WorkAt K C B H w nl ns s m dx pc ps es) (k : WorkAt K C B H w2 nl2 ns2 t n dx2 pc2 ps2 es2) (d : Apart w pc ps w2 pc2 ps2) (e : Same (rest3 w pc ps H) H') : WorkAt K C B H' w2 nl2 ns2 t n dx2 pc2 ps2 es2 := by
  have a1 : rest3 w pc ps H w2 = some (.ins C dx2 (workF t nl2 pc2 ps2)) := rest3_at k.at_ d.w (ne_of_two k.at_ h.cat (fun z => by cases z)) (ne_of_two k.at_ h.sat (fun z => by cases z))
  have a2 : rest3 w pc ps H pc2 = some (.dK (kvI es2)) := rest3_at k.cat (ne_of_two k.cat h.at_ (fun z => by cases z)) d.c (ne_of_two k.cat h.sat (fun z => by cases z))
  have a3 : rest3 w pc ps H ps2 = some (.lst (t.said.map V.int)) := rest3_at k.sat (ne_of_two k.sat h.at_ (fun z => by cases z)) (ne_of_two k.sat h.cat (fun z => by cases z)) d.p
  exact { k with at_ := e _ _ a1, cat := e _ _ a2, sat := e _ _ a3, old := h.base.trans e }
theorem rest3_mono {a b c : Addr} (e : Same H H') : Same (rest3 a b c H) (rest3 a b c H') := fun d o h => by
  unfold rest3 at h ⊢
  split at h
  · cases h
  · rename_i z
    rw [if_neg z]
    exact e _ _ h
theorem rest3_of {a b c d : Addr} {o : HO} (h : rest3 a b c H d = some o) : H d = some o ∧ d ≠ a ∧ d ≠ b ∧ d ≠ c := by
  unfold rest3 at h
  split at h
  · cases h
  · rename_i z
    refine ⟨h, fun e => z (.inl e), fun e => z (.inr (.inl e)), fun e => z (.inr (.inr e))⟩
end
end Ms
namespace PnX
open PySem PySem.Spec PyProof.Rows L2 Kx SX
section
variable {X : Cx}
/-- tuple(x), x a list or a tuple -/
def rTupQ (K : PySem.W.Frag) : List V → Hp → VK → Prop := fun xs H Q => ∃ (p : Addr) (ys : List V), xs = [.ref p] ∧ SqQ K H p ys ∧ ∀ (l : Addr) (H' : Hp), Same H H' → SqT K H' l ys → Q (.ref l) H'
theorem call_tupleQ : CallR X (.type "tuple") (rTupQ X.K) := by
  have h0 := call_tuple_of (X := X)
  unfold CallR at h0 ⊢
  intros
  rename_i h
  refine h0 _ _ _ _ _ _ _ (by assumption) (by assumption) ?_
  obtain ⟨p, ys, e, h, q⟩ := h
  rcases h with h | h
  · exact ⟨p, ys, e, .inl ⟨h, fun l n => q l _ (same_new n) (.inl (.inl upd_same))⟩⟩
  · exact ⟨p, ys, e, .inr ⟨h, q p _ (Same.refl _) h⟩⟩
end
end PnX
namespace Ms
open PySem PySem.Spec PyProof.Rows L2 Kx SX LamX
/-- pairs made one by one, for a dict of them -/
def KvP (H0 : Hp) (kvs : List (Key × V)) (D : Addr) (i : Nat) (Hc : Hp) : Prop := ∃ qs : List Addr, Hc D = some (.lst (qs.map V.ref)) ∧ Paired (fun (q : Addr) (kv : Key × V) => Hc q = some (.tup [kV kv.1, kv.2])) qs (kvs.take i) ∧ Same H0 Hc
theorem KvP.new {H0 : Hp} {kvs : List (Key × V)} {D : Addr} (nD : H0 D = none) : KvP H0 kvs D 0 (upd H0 D (.lst [])) := ⟨[], upd_same, .nil, same_new nD⟩
theorem KvP.app {H0 Hc H4 : Hp} {kvs : List (Key × V)} {D t : Addr} {i : Nat} {kv : Key × V} (h : KvP H0 kvs D i Hc) (nD : H0 D = none) (hp : kvs[i]? = some kv) (e : Same Hc H4) (ht : H4 t = some (.tup [kV kv.1, kv.2])) (hl : kvs.length ≤ 100000) :
    ∃ acc, H4 D = some (.lst acc) ∧ acc.length < sizeLine ∧ KvP H0 kvs D (i + 1) (upd H4 D (.lst (acc ++ [V.ref t]))) := by
  obtain ⟨qs, h1, h2, h3⟩ := h
  have hD := e _ _ h1
  have hlen := h2.length
  have hi := (List.getElem?_eq_some_iff.mp hp).1
  rw [List.length_take] at hlen
  have k : ∀ {q : Addr} {xs : List V}, H4 q = some (.tup xs) → upd H4 D (.lst (qs.map V.ref ++ [V.ref t])) q = some (.tup xs) := fun {q xs} z => by
    rw [upd_ne (ne_of_two z hD (fun z => by cases z))]
    exact z
  refine ⟨_, hD, ?_, qs ++ [t], by rw [upd_same, List.map_append]; rfl, ?_, same_set (h3.trans e) nD⟩
  · rw [List.length_map]
    exact Nat.lt_of_le_of_lt (show qs.length ≤ 100000 by omega) (by decide)
  · have et : kvs.take (i + 1) = kvs.take i ++ [kv] := by rw [List.take_add_one, hp]; rfl
    rw [et]
    exact paired_end (Paired.mapP h2 fun q p z => k (e _ _ z)) (k ht)
end Ms
namespace Ms
open PySem PySem.Spec PyProof.Rows L2 Kx SX LamX
/-- all that is told of a law's machine, as a list -/
def seenD (s : Mst) (l : List (Int × Int)) : PyData := .list [.int s.block, .int s.room, .bool s.tick, .bool s.flag, .bool s.test, .int s.mode, .int s.first, .int s.second, .int (s.heard : Nat), .list (s.said.map PyData.int), .bool s.isd, .list (l.map Kx.pairD)]
def seenL (s : Mst) (ps : Addr) : List V := [.int s.block, .int s.room, .bl s.tick, .bl s.flag, .bl s.test, .int s.mode, .int s.first, .int s.second, .int (s.heard : Nat), .ref ps, .bl s.isd]
def namesL : List V := [.str "block", .str "room", .str "tick", .str "flag", .str "test", .str "mode", .str "first", .str "second", .str "heard", .str "said", .str "done"]
theorem seen_at {s : Mst} {pc ps : Addr} {i : Nat} {x z : V} (hx : namesL[i]? = some x) (hz : (seenL s ps)[i]? = some z) : ∃ k : Str, x = .str k ∧ valV (liveK s pc ps) (.inr k) = some z := by
  match i, hx, hz with
  | 0, hx, hz => cases hx; cases hz; exact ⟨_, rfl, lv_block⟩
  | 1, hx, hz => cases hx; cases hz; exact ⟨_, rfl, lv_room⟩
  | 2, hx, hz => cases hx; cases hz; exact ⟨_, rfl, lv_tick⟩
  | 3, hx, hz => cases hx; cases hz; exact ⟨_, rfl, lv_flag⟩
  | 4, hx, hz => cases hx; cases hz; exact ⟨_, rfl, lv_test⟩
  | 5, hx, hz => cases hx; cases hz; exact ⟨_, rfl, lv_mode⟩
  | 6, hx, hz => cases hx; cases hz; exact ⟨_, rfl, lv_first⟩
  | 7, hx, hz => cases hx; cases hz; exact ⟨_, rfl, lv_second⟩
  | 8, hx, hz => cases hx; cases hz; exact ⟨_, rfl, lv_heard⟩
  | 9, hx, hz => cases hx; cases hz; exact ⟨_, rfl, lv_said⟩
  | 10, hx, hz => cases hx; cases hz; exact ⟨_, rfl, lv_done⟩
  | i + 11, hx, hz => cases hx
theorem eqv_pair (p q : Int × Int) : PyData.eqv (Kx.pairD p) (Kx.pairD q) = decide (p = q) := by
  show (PyData.eqv (.int p.1) (.int q.1) && (PyData.eqv (.int p.2) (.int q.2) && true)) = _
  rw [eqv_int, eqv_int, Bool.and_true]
  by_cases h1 : p.1 = q.1
  · by_cases h2 : p.2 = q.2
    · rw [decide_eq_true h1, decide_eq_true h2, decide_eq_true (Prod.ext h1 h2)]
      rfl
    · rw [decide_eq_false h2, Bool.and_false, decide_eq_false fun e => h2 (by rw [e])]
  · rw [decide_eq_false h1, Bool.false_and, decide_eq_false fun e => h1 (by rw [e])]
theorem eqv_bool (a b : Bool) : PyData.eqv (.bool a) (.bool b) = decide (a = b) := by cases a <;> cases b <;> rfl
theorem seen_eqv {s t : Mst} {l k : List (Int × Int)} (hs : IsC l s.cells) (ht : IsC k t.cells) : PyData.eqv (seenD s l) (seenD t k) = true ↔ s = t := by
  have e : PyData.eqv (seenD s l) (seenD t k) = (decide (s.block = t.block) && (decide (s.room = t.room) && (decide (s.tick = t.tick) && (decide (s.flag = t.flag) && (decide (s.test = t.test) && (decide (s.mode = t.mode) && (decide (s.first = t.first) && (decide (s.second = t.second) && (decide ((s.heard : Int) = (t.heard : Int)) && (decide (s.said = t.said) && (decide (s.isd = t.isd) && (decide (l = k) && true)))))))))))) := by
    show (PyData.eqv (.int s.block) (.int t.block) && (PyData.eqv (.int s.room) (.int t.room) && (PyData.eqv (.bool s.tick) (.bool t.tick) && (PyData.eqv (.bool s.flag) (.bool t.flag) && (PyData.eqv (.bool s.test) (.bool t.test) && (PyData.eqv (.int s.mode) (.int t.mode) && (PyData.eqv (.int s.first) (.int t.first) && (PyData.eqv (.int s.second) (.int t.second) && (PyData.eqv (.int (s.heard : Nat)) (.int (t.heard : Nat)) && (PyData.eqv (.list (s.said.map PyData.int)) (.list (t.said.map PyData.int)) && (PyData.eqv (.bool s.isd) (.bool t.isd) && (PyData.eqvAll (l.map Kx.pairD) (k.map Kx.pairD) && true)))))))))))) = _
    rw [eqv_int, eqv_int, eqv_bool, eqv_bool, eqv_bool, eqv_int, eqv_int, eqv_int, eqv_int, eqv_ints, eqv_bool, eqvAll_map eqv_pair]
  rw [e]
  simp only [Bool.and_eq_true, decide_eq_true_eq, and_true]
  constructor
  · rintro ⟨h1, h2, h3, h4, h5, h6, h7, h8, h9, h10, h11, h12⟩
    have hc : s.cells = t.cells := by
      subst h12
      funext c
      by_cases z : s.cells c = 0
      · by_cases z2 : t.cells c = 0
        · rw [z, z2]
        · exact ((hs.mem c (t.cells c)).mp ((ht.mem c (t.cells c)).mpr ⟨rfl, z2⟩)).1
      · exact ((ht.mem c (s.cells c)).mp ((hs.mem c (s.cells c)).mpr ⟨rfl, z⟩)).1.symm
    have hh : s.heard = t.heard := Int.ofNat.inj h9
    clear h9 hs ht e
    have h9 := hh
    clear hh
    cases s
    cases t
    dsimp only at h1 h2 h3 h4 h5 h6 h7 h8 h9 h10 h11 hc
    subst h1 h2 h3 h4 h5 h6 h7 h8 h9 h10 h11 hc
    rfl
  · rintro rfl
    exact ⟨rfl, rfl, rfl, rfl, rfl, rfl, rfl, rfl, rfl, rfl, rfl, hs.uniq ht⟩
theorem pl_pair (p : Int × Int) : Pl 1 (Kx.pairD p) := Pl.tup fun d m => by
  rcases List.mem_cons.mp m with rfl | m
  · exact pl_int _ _
  · rw [List.mem_singleton.mp m]
    exact pl_int _ _
theorem seen_shaped (s : Mst) (l : List (Int × Int)) : SeqAt.shaped (seenD s l) = true := by
  have h : Pl 3 (seenD s l) := Pl.lst fun d m => by
    simp only [List.mem_cons, List.not_mem_nil, or_false] at m
    have i : ∀ i : Int, Pl 2 (.int i) := fun i => pl_int 2 i
    have b : ∀ b : Bool, Pl 2 (.bool b) := fun b => ⟨rfl, Nat.zero_le _⟩
    have hl : Pl 2 (.list (l.map Kx.pairD)) := Pl.lst fun d m => by
      obtain ⟨p, _, rfl⟩ := List.mem_map.mp m
      exact pl_pair p
    have hsd : Pl 2 (.list (s.said.map PyData.int)) := Pl.lst fun d m => by
      obtain ⟨p, _, rfl⟩ := List.mem_map.mp m
      exact pl_int _ _
    rcases m with rfl | rfl | rfl | rfl | rfl | rfl | rfl | rfl | rfl | rfl | rfl | rfl
    all_goals first | exact i _ | exact b _ | exact hl | exact hsd
  exact h.shaped (by decide)
end Ms
namespace ItX
open PySem PySem.Calls PyProof.Rows PyProof.V PySem.Spec PySem.W
section
variable {P : Program} {wd : World} {κ : Type} [DecidableEq κ] {kd : KeyKind P wd κ} {A : Around} {E : Value → Shared → Prop} {z : Shared}
theorem there_or_not {s : Shared} {a : Addr} {Q : Option Obj → Shared → Prop} (h : Q (s.heap.get? a) s) : wpAny (model P wd) A (loadIfAlive a) Q E s := fun _ _ _ => h
/-- the next pair of an iterator that has lent its tuple, whether that is still there or not -/
theorem next_lent {t d a : Addr} {f : Bool} {i e : Nat} {ps : List (κ × Value)} {k : κ} {v xk xv : Value} {Q : Option Value → Shared → Prop} (at_ : KdxIt z.heap t d i ps.length e xk xv a f) (dict : z.heap.DictAt kd d ps e) (now : ps[i]? = some (k, v))
    (go : ∀ key h' yk yv b g, kd.is k key = true → KdxIt h' t d (i + 1) ps.length e yk yv b g → h'.get? z.heap.objs.size = some ⟨.type "tuple", none, .seq #[key, v] 0, #[]⟩ → h'.objs.size = z.heap.objs.size + 1 →
      (∀ c o, c ≠ t → z.heap.get? c = some o → h'.get? c = some o) → Q (some (.ref z.heap.objs.size)) { z with heap := h' }) :
    wpAny (model P wd) A (pyNext (.ref t)) Q E z := by
  obtain ⟨h0, gl, dw, tks, os⟩ := z
  obtain ⟨ob, es, ob1, ob2, ob3, ob4, pairs, ob5⟩ := id dict
  have ty : Shared.TypeIs ⟨h0, gl, dw, tks, os⟩ (.ref t) "dict_itemiterator" := ⟨_, at_, rfl⟩
  unfold pyNext
  refine wpAny_bind (wpAny_attempt (wpAny_callSpecial?_slot (name := Str.ofString "__next__") ty PySem.F.slot_dict_itemiterator_next (wpAny_call_entry PySem.F.slot_dict_itemiterator_next ty PySem.F.entry_dict_itemiterator_next ?_ (PySem.F.args_dict_itemiterator_next_1 _))))
  refine wpAny_bind (wpAny_pure (wpAny_bind (wpAny_bind ?_)))
  first | refine wpAny_bind (wpAny_typeNameOfWhole_itemiter ty (wpAny_pure ?_)) | refine wpAny_bind (wpAny_typeNameOf_itemiter ty (wpAny_pure ?_))
  refine wpAny_bind (wpAny_fieldsOf at_ rfl ?_)
  have owns : Builtin.Dict_items.ownsTuple "dict_itemiterator" = true := by decide
  simp only [owns, if_true]
  show wpAny _ _ (if (Value.ref d == Value.none) = true then _ else _) _ _ _
  rw [if_neg (show ¬ ((Value.ref d == Value.none) = true) by intro y; cases y)]
  refine wpAny_bind (wpAny_pure (wpAny_bind (wpAny_dictEntries ob1 ob3 ?_)))
  have size : es.size = ps.length := by rw [← pairs.length]; simp
  rw [if_neg (by rw [size]; simp)]
  refine wpAny_bind (wpAny_pure (wpAny_bind (wpAny_dictEpoch ob1 ob3 ?_)))
  rw [if_neg (by simp)]
  refine wpAny_pure ?_
  have ilt : i < es.size := by
    rw [size]
    exact (List.getElem?_eq_some_iff.mp now).1
  obtain ⟨isK, isV⟩ := pairs.get? (e := es[i]) (by simp [ilt]) now
  simp only [show ¬ ((i : Int) < 0) by omega, if_false, Int.toNat_natCast, Array.getElem?_eq_getElem ilt]
  refine wpAny_bind ?_
  first | refine wpAny_bind (wpAny_typeNameOfWhole_itemiter ty (wpAny_pure ?_)) | refine wpAny_bind (wpAny_typeNameOf_itemiter ty (wpAny_pure ?_))
  refine wpAny_bind (wpAny_isOneOf_itemiter ty ?_)
  show wpAny _ _ (setField (.ref t) 3 (rawInt ((i : Int) + 1)) >>= _) _ _ ⟨h0, gl, dw, tks, os⟩
  refine wpAny_bind (wpAny_setField_rec at_ (by simp) fun h1 w1 b1 => ?_)
  have b1 : Heap.SameBut t h0 h1 := b1
  have w1 : KdxIt h1 t d (i + 1) ps.length e xk xv a f := by
    have up : ((i + 1 : Nat) : Int) = (i : Int) + 1 := by omega
    unfold KdxIt
    rw [up]
    simpa [rawInt] using w1
  have ty1 : Shared.TypeIs ⟨h1, gl, dw, tks, os⟩ (.ref t) "dict_itemiterator" := ⟨_, w1, rfl⟩
  refine wpAny_bind (wpAny_holding (wpAny_bind (wpAny_isOneOf_itemiter ty1 (wpAny_bind (wpAny_isOneOf_itemiter ty1 ?_)))))
  show wpAny _ _ (Builtin.Dict_items.pairFromOwner (.ref t) 6 es[i].key es[i].val) _ _ ⟨h1, gl, dw, tks, os⟩
  unfold Builtin.Dict_items.pairFromOwner
  refine wpAny_bind (wpAny_newTuple ?_)
  have w2 : KdxIt (h1.push { cls := .type "tuple", data := .seq #[es[i].key, es[i].val] }) t d (i + 1) ps.length e xk xv a f := Heap.get?_push_of_some _ w1
  generalize e2 : h1.push { cls := .type "tuple", data := .seq #[es[i].key, es[i].val] } = h2 at w2
  have n1 : h1.objs.size = h0.objs.size := b1.1
  have tlt : t < h0.objs.size := Heap.lt_size at_
  have tup : h2.get? h0.objs.size = some { cls := .type "tuple", data := .seq #[es[i].key, es[i].val] } := by
    rw [← e2, ← n1]
    exact Heap.get?_push_size _ rfl
  have n2 : h2.objs.size = h0.objs.size + 1 := by rw [← e2, Heap.size_push, n1]
  have kp : ∀ c o, c ≠ t → h0.get? c = some o → h2.get? c = some o := fun c o nc hc => by
    rw [← e2]
    exact Heap.get?_push_of_some _ (b1.extBut c o nc hc)
  show wpAny _ _ (Builtin.Dict_items.ownedTupleIsFree (.ref t) >>= _) _ _ ⟨h2, gl, dw, tks, os⟩
  rw [n1]
  have fin : ∀ (h3 : Heap) (yk yv : Value) (b : Addr) (g : Bool), KdxIt h3 t d (i + 1) ps.length e yk yv b g → Heap.SameBut t h2 h3 → Q (some (.ref h0.objs.size)) ⟨h3, gl, dw, tks, os⟩ := fun h3 yk yv b g w3 s3 =>
    go es[i].key h3 yk yv b g isK w3 (by rw [← isV]; exact s3.extBut _ _ (Nat.ne_of_gt tlt) tup) (by show h3.objs.size = h0.objs.size + 1; rw [s3.1, n2]) fun c o nc hc => s3.extBut c o nc (kp c o nc hc)
  refine wpAny_bind ?_
  unfold Builtin.Dict_items.ownedTupleIsFree
  refine wpAny_bind (wpAny_field w2 rfl (x := rawInt a) rfl ?_)
  show wpAny _ _ (loadIfAlive ((a : Int).toNat) >>= _) _ _ _
  rw [Int.toNat_natCast]
  refine wpAny_bind (there_or_not ?_)
  cases h2.get? a with
  | none =>
    simp only [Option.isNone_none, if_true]
    refine wpAny_pure ?_
    simp only [if_true]
    refine wpAny_bind (wpAny_field w2 rfl (x := xk) rfl (wpAny_bind (wpAny_field w2 rfl (x := xv) rfl ?_)))
    refine wpAny_bind (wpAny_setField_rec w2 (by simp) fun h3 w3 s3 => wpAny_bind ?_)
    have w3 : KdxIt h3 t d (i + 1) ps.length e es[i].key xv a f := w3
    refine wpAny_setField_rec w3 (by simp) fun h4 w4 s4 => wpAny_bind ?_
    have w4 : KdxIt h4 t d (i + 1) ps.length e es[i].key es[i].val a f := w4
    refine wpAny_setField_rec w4 (by simp) fun h5 w5 s5 => wpAny_bind ?_
    have w5 : KdxIt h5 t d (i + 1) ps.length e es[i].key es[i].val h0.objs.size f := w5
    refine wpAny_setField_rec w5 (by simp) fun h6 w6 s6 => wpAny_bind ?_
    have w6 : KdxIt h6 t d (i + 1) ps.length e es[i].key es[i].val h0.objs.size false := w6
    have all : Heap.SameBut t h2 h6 := ((s3.trans s4).trans s5).trans s6
    exact wpAny_letGo (wpAny_pure (wpAny_pure ⟨_, rfl, wpAny_pure (fin h6 _ _ _ _ w6 all)⟩))
  | some oa =>
    simp only [Option.isNone_some, Bool.false_eq_true, if_false]
    refine wpAny_bind (wpAny_field w2 rfl (x := .bool f) rfl ?_)
    cases f with
    | true =>
      rw [if_neg (show ¬ ((Value.bool true != Value.bool true) = true) by intro y; cases y)]
      refine wpAny_pure ?_
      simp only [Bool.false_eq_true, if_false]
      exact wpAny_pure (wpAny_pure ⟨_, rfl, wpAny_pure (fin h2 _ _ _ _ w2 (Heap.SameBut.refl _ _))⟩)
    | false =>
      rw [if_pos (show (Value.bool false != Value.bool true) = true by rfl)]
      refine wpAny_bind (wpAny_setField_rec w2 (by simp) fun h3 w3 s3 => ?_)
      have w3 : KdxIt h3 t d (i + 1) ps.length e xk xv a true := w3
      refine wpAny_pure ?_
      simp only [Bool.false_eq_true, if_false]
      exact wpAny_pure (wpAny_pure ⟨_, rfl, wpAny_pure (fin h3 _ _ _ _ w3 s3)⟩)
end
end ItX
namespace ItX
open PySem PySem.Spec PyProof.Rows L2 PySem.W
section
variable {P : Program} {w : World} {K : PySem.W.Frag} {d : Addr} {o : Obj} {es : Array DictEntry} {ep : Nat}
theorem self_held {A : Around} {E Q : Value → Shared → Prop} {s : Shared} {t : Addr} (ty : s.TypeIs (.ref t) "dict_itemiterator") (h : Q (.ref t) s) : wpAny (model P w) A (pyIter (.ref t)) Q E s :=
  wpAny_pyIter_slot ty PySem.F.slot_dict_itemiterator_iter (wpAny_call_entry PySem.F.slot_dict_itemiterator_iter ty kcp_entry (wpAny_pure ⟨_, rfl, "dict_itemiterator", _, ty, PySem.F.slot_dict_itemiterator_next.lookup, h⟩) (PySem.F.args_dict_itemiterator_iter_1 _))
/-- the pairs of a dict, each held by a name -/
theorem turn_held {kvs : List (Key × V)} {nm : Str} {np : Pos} (t : Addr) (od : o.data = .dict es ep) :
    Turn P w K (.Name nm np) (Iti d o kvs) [t] t (fun i h => (∃ xk xv, IsItemIter h t d i kvs.length ep xk xv) ∨ ∃ xk xv a f, KdxIt h t d i kvs.length ep xk xv a f) where
  mem := List.mem_singleton.mpr rfl
  obj := fun i h st b hb => by
    obtain rfl := List.mem_singleton.mp hb
    rcases st with ⟨_, _, e⟩ | ⟨_, _, _, _, e⟩
    · exact ⟨_, e, fun v z => nomatch z⟩
    · exact ⟨_, e, fun v z => nomatch z⟩
  keep := fun i h h' st k => by
    have m : t ∈ [t] := List.mem_singleton.mpr rfl
    rcases st with ⟨xk, xv, e⟩ | ⟨xk, xv, a, f, e⟩
    · exact .inl ⟨xk, xv, k t m _ e⟩
    · exact .inr ⟨xk, xv, a, f, k t m _ e⟩
  item := by
    intro X eP ew eK calm i pins s σ H E I hf st go
    subst eP ew eK
    obtain ⟨hd, hi⟩ := go
    obtain ⟨hs, hgd, hx, es', ep', vs, hdt, hsz, kv, hm⟩ := I.frzK hd
    obtain ⟨rfl, rfl⟩ := dict_ep od hdt
    obtain ⟨⟨k, v⟩, hkv⟩ : ∃ p, kvs[i]? = some p := ⟨kvs[i], List.getElem?_eq_getElem hi⟩
    obtain ⟨u, hu, ru⟩ := kv_get kv hkv
    have hl : kvs.length = vs.length := Paired.length kv
    have fin : ∀ (key : Value) (h' : Heap) (xk xv : Value) (a : Addr) (f : Bool), keyIs k key = true → KdxIt h' t d (i + 1) vs.length ep' xk xv a f → h'.get? s.heap.objs.size = some ⟨.type "tuple", none, .seq #[key, u] 0, #[]⟩ →
        (∀ b ob, b ≠ t → s.heap.get? b = some ob → h'.get? b = some ob) → t < s.heap.objs.size →
        ∃ u', some (Value.ref s.heap.objs.size) = some u' ∧ wpAny (model X.prog X.w) X.A (letOwnedTupleGo (.Name nm np) (.ref t) u') (fun _ s2 => ∃ x H', Inv X pins σ H' s2 ∧ RelV x u' ∧ (Iti d o kvs).yld i H x H' ∧
          ((∃ xk xv, IsItemIter s2.heap t d (i + 1) kvs.length ep' xk xv) ∨ ∃ xk xv a f, KdxIt s2.heap t d (i + 1) kvs.length ep' xk xv a f) ∧ ∀ b ∈ [t], H' b = none) E { s with heap := h' } := by
      intro key h' xk xv a f hkey st' tup kp tlt
      have new : ObjOk X.prog X.w (upd H s.heap.objs.size (.tup [kV k, v])) h' s.heap.objs.size (.tup [kV k, v]) :=
        ⟨by show 2 ≤ sizeLine; decide, [key, u], .cons (relV_key hkey) (.cons ru .nil), ⟨_, tup, rfl, _, rfl⟩⟩
      have I1 : Inv X pins σ (upd H s.heap.objs.size (.tup [kV k, v])) { s with heap := h' } :=
        I.turnedNew (t' := s.toks) (ch := [t]) (fun b ob hb e => kp b ob (by simpa using hb) e) hf (Nat.le_refl _) new
      refine ⟨_, rfl, wpAny_pure ⟨.ref s.heap.objs.size, _, I1, rfl, ⟨_, k, v, hkv, rfl, I.hok.fresh (Nat.le_refl _), rfl⟩, .inr ⟨xk, xv, a, f, hl ▸ st'⟩, fun b hb => ?_⟩⟩
      obtain rfl := List.mem_singleton.mp hb
      rw [upd_ne (Nat.ne_of_lt tlt)]
      exact (hf b hb).1
    rcases st with ⟨xk, xv, he⟩ | ⟨xk, xv, a, f, he⟩
    · rw [hl] at he
      exact wpAny_pyNext_items_item he hm hu fun key h' hkey ho hT _ hk => fin key h' _ _ _ false hkey ho hT hk (Heap.lt_size he)
    · rw [hl] at he
      exact next_lent he hm hu fun key h' yk yv b g hkey ho hT _ hk => fin key h' _ _ _ _ hkey ho hT hk (Heap.lt_size he)
  done := by
    intro X eP ew eK calm i pins s σ H E I hf st go
    subst eP ew eK
    obtain ⟨hd, hi⟩ := go
    obtain ⟨f0, f1, f2, f3, f4, f5⟩ := hf t (by simp)
    obtain ⟨hs, hgd, hx, es', ep', vs, hdt, hsz, kv, hm⟩ := I.frzK hd
    obtain ⟨rfl, rfl⟩ := dict_ep od hdt
    have hl : kvs.length = vs.length := Paired.length kv
    have none' : vs[i]? = none := List.getElem?_eq_none (by omega)
    rcases st with ⟨xk, xv, he⟩ | ⟨xk, xv, a, f, he⟩
    · rw [hl] at he
      exact wpAny_pyNext_items_end (I.ok.hd calm) he hm none' fun h' eb => ⟨rfl, I.turned (t' := s.toks) (fun b ob hb e => eb b ob hb e) f0 f1 f3 f4 f5⟩
    · rw [hl] at he
      exact kdx_end_out (I.ok.hd calm) he hm none' fun h' eb => ⟨rfl, I.turned (t' := s.toks) (fun b ob hb e => eb b ob hb e) f0 f1 f3 f4 f5⟩
  self := fun A i s Q E st h => by
    rcases st with ⟨_, _, e⟩ | ⟨_, _, _, _, e⟩
    · exact self_held ⟨_, e, rfl⟩ h
    · exact self_held ⟨_, e, rfl⟩ h
end
section
variable {X : Cx} {e : Expr} {td : TE} {apos cpos : Pos} {nm : Str} {np : Pos}
theorem pi_held (he : PE X e td) (hbase : attributeBase e "items" X.env (eval e X.env) = eval e X.env := by rfl) (hline : (apos.endLine == cpos.line) = true := by rfl) :
    PI X (.Name nm np) (.Call (.Attribute e "items" apos) [] [] cpos) (iItems td) := by
  refine ⟨fun pins s σ H R I h => ?_⟩
  refine wpAny_Call_method (T := "dict") (id := "dict.items") hbase rfl hline F.plainAttrs_dict F.slot_dict_items F.type_dict_items (thn (he.run pins s σ H _ I h) fun u s1 ⟨x, H1, I1, rx, d, o, kvs, ex, hd, q⟩ => ?_)
  subst ex
  obtain rfl : u = Value.ref d := rx
  obtain ⟨hs, hgd, hx, es, ep, vs, hdt, hsz, kv, hm⟩ := I1.frzK hd
  have hl : kvs.length = vs.length := Paired.length kv
  refine ⟨hm.dictOf.typeIs, hm.dictOf.mapOf.noDict, ?_⟩
  have I2 : Inv X pins σ H1 { s1 with heap := s1.heap.push { cls := .type "dict_items", data := .fields #[.ref d] } } := I1.kept (t' := s1.toks) fun b ob q => Heap.get?_push_of_some _ q
  have fin : wpAny (model X.prog X.w) X.A (pyIter (.ref s1.heap.objs.size)) (PIE X pins σ (.Name nm np) R) X.xe { s1 with heap := s1.heap.push { cls := .type "dict_items", data := .fields #[.ref d] } } := by
    refine wpAny_pyIter_items (d := d) (knd := mixKind X.prog X.w) ⟨_, Heap.get?_push_size _ rfl, rfl, rfl⟩ (hm.push _) (pi_one (tk := s1.toks) I2 _ (turn_held _ hdt) (.inl ⟨.none, .none, ?_⟩) q)
    rw [hl]
    exact Heap.get?_push_size _ rfl
  show wpAny _ _ (callWith cpos (.builtin "dict.items") [.ref d] [] []) _ X.xe s1
  exact method_meetsIn F.slot_dict_items F.entry_dict_items rfl (PySem.evalArgs_none ⟨rfl, hm.dictOf.typeIs, F.args_dict_items_1 _, _, meets_dict_items (mixKind X.prog X.w) d hs, ⟨vs, hm.dictOf⟩, fin⟩)
end
end ItX
namespace Kx
open PySem PySem.Spec PyProof.Rows L2 SX LamX
/-- no positional value, four by name: d, c, b, a for a, b, c, d -/
def backH {α : Type} (us ws : List α) : List α := match us, ws with | [], [d, c, b, a] => [a, b, c, d] | _, _ => []
theorem kb_backH {K : PySem.W.Frag} {x qual : Str} {st : Stmt} {f : Addr} {fd : FuncData} {a b c d : Str} (F : Fun K x qual st f fd)
    (h : ∀ (kV doc pm : Value) (an : Option Addr) (cdv ct : Value) (t u v w : Value), bindArgs (PySem.W.fnOf x qual (defArgs st) (defBody st) (defScope st) .none kV doc pm an cdv ct) ⟨[], [(d, w), (c, v), (b, u), (a, t)]⟩ = pure [(a, t), (b, u), (c, v), (d, w)]) :
    KBinds K fd [a, b, c, d] [d, c, b, a] backH backH := by
  obtain ⟨oc, od, kV, doc, pm, an, cdv, ct, osl, rfl, lk, hcd⟩ := F.ex
  refine ⟨fun s us ws X l => ?_, fun {vs us zs ws} r1 r2 => ?_⟩
  · match us, ws, l with
    | [], [w, v, u, t], _ => exact .of_eq (h kV doc pm an cdv ct t u v w)
    | [], [], l => cases l
    | [], [_], l => cases l
    | [], [_, _], l => cases l
    | [], [_, _, _], l => cases l
    | [], _ :: _ :: _ :: _ :: _ :: _, l => cases l
    | _ :: _, _, l => cases l
  · cases r1 with
    | cons _ _ => exact .nil
    | nil =>
      cases r2 with
      | nil => exact .nil
      | cons h1 r2 =>
        cases r2 with
        | nil => exact .nil
        | cons h2 r2 =>
          cases r2 with
          | nil => exact .nil
          | cons h3 r2 =>
            cases r2 with
            | nil => exact .nil
            | cons h4 r2 =>
              cases r2 with
              | nil => exact .cons h4 (.cons h3 (.cons h2 (.cons h1 .nil)))
              | cons _ _ => exact .nil
end Kx
namespace K54
open PySem PySem.Spec PyProof.Rows L2 Kx SX LamX Ms
def topS (i : Nat) : Stmt := PySem.Challenge.pw_anyletter_k54_where_two_texts_part.main.body.getD i (.Pass ⟨0, 0, 0, 0⟩)
abbrev s_is_list : Stmt := topS 3
theorem sc_is_list : FnScope ["value"] ["value"] (defScope s_is_list) := ⟨rfl, rfl, rfl, by decide +kernel, rfl, by decide +kernel, by decide +kernel⟩
abbrev s_is_integer : Stmt := topS 4
theorem sc_is_integer : FnScope ["value"] ["value"] (defScope s_is_integer) := ⟨rfl, rfl, rfl, by decide +kernel, rfl, by decide +kernel, by decide +kernel⟩
abbrev s_is_within : Stmt := topS 5
theorem sc_is_within : FnScope ["value", "least", "most"] ["value", "least", "most"] (defScope s_is_within) := ⟨rfl, rfl, rfl, by decide +kernel, rfl, by decide +kernel, by decide +kernel⟩
abbrev s_are_integers : Stmt := topS 6
theorem sc_are_integers : FnScope ["value", "number"] ["value"] (defScope s_are_integers) := ⟨rfl, rfl, rfl, by decide +kernel, rfl, by decide +kernel, by decide +kernel⟩
abbrev s_are_letters : Stmt := topS 7
theorem sc_are_letters : FnScope ["text"] ["text"] (defScope s_are_letters) := ⟨rfl, rfl, rfl, by decide +kernel, rfl, by decide +kernel, by decide +kernel⟩
abbrev s_is_word : Stmt := topS 8
theorem sc_is_word : FnScope ["value"] ["value"] (defScope s_is_word) := ⟨rfl, rfl, rfl, by decide +kernel, rfl, by decide +kernel, by decide +kernel⟩
abbrev s_is_text : Stmt := topS 9
theorem sc_is_text : FnScope ["value", "letters"] ["value"] (defScope s_is_text) := ⟨rfl, rfl, rfl, by decide +kernel, rfl, by decide +kernel, by decide +kernel⟩
abbrev s_are_words : Stmt := topS 20
theorem sc_are_words : FnScope ["value", "most", "word"] ["value", "most"] (defScope s_are_words) := ⟨rfl, rfl, rfl, by decide +kernel, rfl, by decide +kernel, by decide +kernel⟩
abbrev s_Book_init : Stmt := inClass (topS 21) 0
theorem sc_Book_init : FnScope ["self", "words"] ["self", "words"] (defScope s_Book_init) := ⟨rfl, rfl, rfl, by decide +kernel, rfl, by decide +kernel, by decide +kernel⟩
abbrev s_read : Stmt := topS 22
theorem sc_read : FnScope ["book", "text", "number", "word", "numbers", "item"] ["book", "text"] (defScope s_read) := ⟨rfl, rfl, rfl, by decide +kernel, rfl, by decide +kernel, by decide +kernel⟩
abbrev s_Work_init : Stmt := inClass (topS 33) 0
theorem sc_Work_init : FnScope ["self", "numbers"] ["self", "numbers"] (defScope s_Work_init) := ⟨rfl, rfl, rfl, by decide +kernel, rfl, by decide +kernel, by decide +kernel⟩
abbrev s_outset : Stmt := topS 34
theorem sc_outset : FnScope ["work"] ["work"] (defScope s_outset) := ⟨rfl, rfl, rfl, by decide +kernel, rfl, by decide +kernel, by decide +kernel⟩
abbrev s_uplift : Stmt := topS 35
theorem sc_uplift : FnScope ["work"] ["work"] (defScope s_uplift) := ⟨rfl, rfl, rfl, by decide +kernel, rfl, by decide +kernel, by decide +kernel⟩
abbrev s_advance : Stmt := topS 36
theorem sc_advance : FnScope ["work"] ["work"] (defScope s_advance) := ⟨rfl, rfl, rfl, by decide +kernel, rfl, by decide +kernel, by decide +kernel⟩
abbrev s_prepare : Stmt := topS 37
theorem sc_prepare : FnScope ["work"] ["work"] (defScope s_prepare) := ⟨rfl, rfl, rfl, by decide +kernel, rfl, by decide +kernel, by decide +kernel⟩
abbrev s_augment : Stmt := topS 38
theorem sc_augment : FnScope ["work"] ["work"] (defScope s_augment) := ⟨rfl, rfl, rfl, by decide +kernel, rfl, by decide +kernel, by decide +kernel⟩
abbrev s_lessen : Stmt := topS 39
theorem sc_lessen : FnScope ["work"] ["work"] (defScope s_lessen) := ⟨rfl, rfl, rfl, by decide +kernel, rfl, by decide +kernel, by decide +kernel⟩
abbrev s_multiply : Stmt := topS 40
theorem sc_multiply : FnScope ["work"] ["work"] (defScope s_multiply) := ⟨rfl, rfl, rfl, by decide +kernel, rfl, by decide +kernel, by decide +kernel⟩
abbrev s_portion : Stmt := topS 41
theorem sc_portion : FnScope ["work"] ["work"] (defScope s_portion) := ⟨rfl, rfl, rfl, by decide +kernel, rfl, by decide +kernel, by decide +kernel⟩
abbrev s_exchange : Stmt := topS 42
theorem sc_exchange : FnScope ["work"] ["work"] (defScope s_exchange) := ⟨rfl, rfl, rfl, by decide +kernel, rfl, by decide +kernel, by decide +kernel⟩
abbrev s_inquire : Stmt := topS 43
theorem sc_inquire : FnScope ["work"] ["work"] (defScope s_inquire) := ⟨rfl, rfl, rfl, by decide +kernel, rfl, by decide +kernel, by decide +kernel⟩
abbrev s_proclaim : Stmt := topS 44
theorem sc_proclaim : FnScope ["work"] ["work"] (defScope s_proclaim) := ⟨rfl, rfl, rfl, by decide +kernel, rfl, by decide +kernel, by decide +kernel⟩
abbrev s_obtain : Stmt := topS 45
theorem sc_obtain : FnScope ["work"] ["work"] (defScope s_obtain) := ⟨rfl, rfl, rfl, by decide +kernel, rfl, by decide +kernel, by decide +kernel⟩
abbrev s_nothing : Stmt := topS 46
theorem sc_nothing : FnScope ["work"] ["work"] (defScope s_nothing) := ⟨rfl, rfl, rfl, by decide +kernel, rfl, by decide +kernel, by decide +kernel⟩
abbrev s_duplicate : Stmt := topS 47
theorem sc_duplicate : FnScope ["work"] ["work"] (defScope s_duplicate) := ⟨rfl, rfl, rfl, by decide +kernel, rfl, by decide +kernel, by decide +kernel⟩
abbrev s_deposit : Stmt := topS 48
theorem sc_deposit : FnScope ["work"] ["work"] (defScope s_deposit) := ⟨rfl, rfl, rfl, by decide +kernel, rfl, by decide +kernel, by decide +kernel⟩
abbrev s_whether : Stmt := topS 49
theorem sc_whether : FnScope ["work"] ["work"] (defScope s_whether) := ⟨rfl, rfl, rfl, by decide +kernel, rfl, by decide +kernel, by decide +kernel⟩
abbrev s_negative : Stmt := topS 50
theorem sc_negative : FnScope ["work"] ["work"] (defScope s_negative) := ⟨rfl, rfl, rfl, by decide +kernel, rfl, by decide +kernel, by decide +kernel⟩
abbrev s_journey : Stmt := topS 51
theorem sc_journey : FnScope ["work"] ["work"] (defScope s_journey) := ⟨rfl, rfl, rfl, by decide +kernel, rfl, by decide +kernel, by decide +kernel⟩
abbrev s_finish : Stmt := topS 52
theorem sc_finish : FnScope ["work"] ["work"] (defScope s_finish) := ⟨rfl, rfl, rfl, by decide +kernel, rfl, by decide +kernel, by decide +kernel⟩
abbrev s_may_do : Stmt := topS 54
theorem sc_may_do : FnScope ["work", "number", "was_up"] ["work", "number"] (defScope s_may_do) := ⟨rfl, rfl, rfl, by decide +kernel, rfl, by decide +kernel, by decide +kernel⟩
abbrev s_do_word : Stmt := topS 55
theorem sc_do_word : FnScope ["work", "number", "deed"] ["work", "number"] (defScope s_do_word) := ⟨rfl, rfl, rfl, by decide +kernel, rfl, by decide +kernel, by decide +kernel⟩
abbrev s_do_row : Stmt := topS 56
theorem sc_do_row : FnScope ["work", "row", "number"] ["work", "row"] (defScope s_do_row) := ⟨rfl, rfl, rfl, by decide +kernel, rfl, by decide +kernel, by decide +kernel⟩
abbrev s_behind_words : Stmt := topS 61
theorem sc_behind_words : FnScope ["row", "block", "tick", "pairs", "number"] ["row"] (defScope s_behind_words) := ⟨rfl, rfl, rfl, by decide +kernel, rfl, by decide +kernel, by decide +kernel⟩
abbrev s_thinned : Stmt := topS 62
theorem sc_thinned : FnScope ["row", "at", "number"] ["row"] (defScope s_thinned) := ⟨rfl, rfl, rfl, by decide +kernel, rfl, by decide +kernel, by decide +kernel⟩
abbrev s_stretches_of : Stmt := topS 63
theorem sc_stretches_of : FnScope ["row", "stretches", "number", "block", "tick"] ["row"] (defScope s_stretches_of) := ⟨rfl, rfl, rfl, by decide +kernel, rfl, by decide +kernel, by decide +kernel⟩
abbrev s_Course_init : Stmt := inClass (topS 64) 0
theorem sc_Course_init : FnScope ["self", "row"] ["self", "row"] (defScope s_Course_init) := ⟨rfl, rfl, rfl, by decide +kernel, rfl, by decide +kernel, by decide +kernel⟩
abbrev s_do_pass : Stmt := topS 65
theorem sc_do_pass : FnScope ["work", "course", "block", "tick", "words"] ["work", "course"] (defScope s_do_pass) := ⟨rfl, rfl, rfl, by decide +kernel, rfl, by decide +kernel, by decide +kernel⟩
abbrev s_plain_book : Stmt := topS 68
theorem sc_plain_book : FnScope [] [] (defScope s_plain_book) := ⟨rfl, rfl, rfl, by decide +kernel, rfl, by decide +kernel, by decide +kernel⟩
abbrev s_check_run : Stmt := topS 71
theorem sc_check_run : FnScope ["heard", "passes"] ["heard", "passes"] (defScope s_check_run) := ⟨rfl, rfl, rfl, by decide +kernel, rfl, by decide +kernel, by decide +kernel⟩
abbrev s_stand_parts : Stmt := topS 73
theorem sc_stand_parts : FnScope ["work"] ["work"] (defScope s_stand_parts) := ⟨rfl, rfl, rfl, by decide +kernel, rfl, by decide +kernel, by decide +kernel⟩
abbrev s_parted_at : Stmt := topS 74
theorem sc_parted_at : FnScope ["text", "other", "heard", "passes", "work", "course", "other_work", "other_course", "ahead", "said"] ["text", "other", "heard", "passes"] (defScope s_parted_at) := ⟨rfl, rfl, rfl, by decide +kernel, rfl, by decide +kernel, by decide +kernel⟩
abbrev s_law_fork : Stmt := topS 76
theorem sc_law_fork : FnScope ["script", "cell"] ["script"] (defScope s_law_fork) := ⟨rfl, rfl, rfl, by decide +kernel, rfl, by decide +kernel, by decide +kernel⟩
abbrev s_law_tine : Stmt := topS 77
theorem sc_law_tine : FnScope ["fork", "many", "rest", "turn", "cell", "mixed"] ["fork", "many"] (defScope s_law_tine) := ⟨rfl, rfl, rfl, by decide +kernel, rfl, by decide +kernel, by decide +kernel⟩
abbrev s_law_one_of : Stmt := topS 78
theorem sc_law_one_of : FnScope ["fork", "some"] ["fork", "some"] (defScope s_law_one_of) := ⟨rfl, rfl, rfl, by decide +kernel, rfl, by decide +kernel, by decide +kernel⟩
abbrev s_law_vocabulary : Stmt := topS 79
theorem sc_law_vocabulary : FnScope ["first"] [] (defScope s_law_vocabulary) := ⟨rfl, rfl, rfl, by decide +kernel, rfl, by decide +kernel, by decide +kernel⟩
abbrev s_law_begun : Stmt := topS 80
theorem sc_law_begun : FnScope ["gears"] [] (defScope s_law_begun) := ⟨rfl, rfl, rfl, by decide +kernel, rfl, by decide +kernel, by decide +kernel⟩
abbrev s_law_flagged : Stmt := topS 81
theorem sc_law_flagged : FnScope ["stand", "number", "heard", "one", "two", "is_left"] ["stand", "number", "heard"] (defScope s_law_flagged) := ⟨rfl, rfl, rfl, by decide +kernel, rfl, by decide +kernel, by decide +kernel⟩
abbrev s_law_bare : Stmt := topS 82
theorem sc_law_bare : FnScope ["stand", "number", "one"] ["stand", "number"] (defScope s_law_bare) := ⟨rfl, rfl, rfl, by decide +kernel, rfl, by decide +kernel, by decide +kernel⟩
abbrev s_law_do : Stmt := topS 83
theorem sc_law_do : FnScope ["stand", "number", "heard"] ["stand", "number", "heard"] (defScope s_law_do) := ⟨rfl, rfl, rfl, by decide +kernel, rfl, by decide +kernel, by decide +kernel⟩
abbrev s_law_read : Stmt := topS 84
theorem sc_law_read : FnScope ["text", "number", "word", "known", "item"] ["text"] (defScope s_law_read) := ⟨rfl, rfl, rfl, by decide +kernel, rfl, by decide +kernel, by decide +kernel⟩
abbrev s_law_seen : Stmt := topS 85
theorem sc_law_seen : FnScope ["stand", "pair", "cells", "name"] ["stand"] (defScope s_law_seen) := ⟨rfl, rfl, rfl, by decide +kernel, rfl, by decide +kernel, by decide +kernel⟩
abbrev s_law_heard : Stmt := topS 87
theorem sc_law_heard : FnScope ["ask", "caught", "error", "told", "word", "is_so"] ["ask"] (defScope s_law_heard) := ⟨rfl, rfl, rfl, by decide +kernel, rfl, by decide +kernel, by decide +kernel⟩
abbrev s_law_any : Stmt := topS 88
theorem sc_law_any : FnScope ["fork", "number"] ["fork"] (defScope s_law_any) := ⟨rfl, rfl, rfl, by decide +kernel, rfl, by decide +kernel, by decide +kernel⟩
abbrev s_law_row : Stmt := topS 89
theorem sc_law_row : FnScope ["fork", "row", "turn"] ["fork"] (defScope s_law_row) := ⟨rfl, rfl, rfl, by decide +kernel, rfl, by decide +kernel, by decide +kernel⟩
abbrev s_law_items : Stmt := topS 90
theorem sc_law_items : FnScope ["fork", "row", "words", "found", "at", "way", "place", "number"] ["fork", "row"] (defScope s_law_items) := ⟨rfl, rfl, rfl, by decide +kernel, rfl, by decide +kernel, by decide +kernel⟩
abbrev s_law_parted : Stmt := topS 91
theorem sc_law_parted : FnScope ["mine", "its", "heard", "passes", "one", "two", "turn", "stand", "row", "number"] ["mine", "its", "heard", "passes"] (defScope s_law_parted) := ⟨rfl, rfl, rfl, by decide +kernel, rfl, by decide +kernel, by decide +kernel⟩
abbrev s_law : Stmt := topS 92
theorem sc_law : FnScope ["script", "fork", "turn", "row", "other", "texts", "number", "heard", "passes", "due", "word", "thick", "none", "bad", "few"] ["script"] (defScope s_law) := ⟨rfl, rfl, rfl, by decide +kernel, rfl, by decide +kernel, by decide +kernel⟩
abbrev s_BadNumber_init : Stmt := inClass (topS 12) 0
theorem sc_BadNumber_init : FnScope ["self", "part"] ["self", "part"] (defScope s_BadNumber_init) := ⟨rfl, rfl, rfl, by decide +kernel, rfl, by decide +kernel, by decide +kernel⟩
theorem in_BadNumber : IsInit s_BadNumber_init := ⟨_, _, _, _, rfl, sc_BadNumber_init, rfl, rfl⟩
abbrev s_BadText_init : Stmt := inClass (topS 13) 0
theorem sc_BadText_init : FnScope ["self", "part"] ["self", "part"] (defScope s_BadText_init) := ⟨rfl, rfl, rfl, by decide +kernel, rfl, by decide +kernel, by decide +kernel⟩
theorem in_BadText : IsInit s_BadText_init := ⟨_, _, _, _, rfl, sc_BadText_init, rfl, rfl⟩
abbrev s_BadHeard_init : Stmt := inClass (topS 16) 0
theorem sc_BadHeard_init : FnScope ["self", "part"] ["self", "part"] (defScope s_BadHeard_init) := ⟨rfl, rfl, rfl, by decide +kernel, rfl, by decide +kernel, by decide +kernel⟩
theorem in_BadHeard : IsInit s_BadHeard_init := ⟨_, _, _, _, rfl, sc_BadHeard_init, rfl, rfl⟩
abbrev s_BadBook_init : Stmt := inClass (topS 15) 0
theorem sc_BadBook_init : FnScope ["self", "part"] ["self", "part"] (defScope s_BadBook_init) := ⟨rfl, rfl, rfl, by decide +kernel, rfl, by decide +kernel, by decide +kernel⟩
theorem in_BadBook : IsInit s_BadBook_init := ⟨_, _, _, _, rfl, sc_BadBook_init, rfl, rfl⟩
structure Tx (K : PySem.W.Frag) (mg : Str → Option Value) where
  f_is_list : Addr
  fd_is_list : FuncData
  F_is_list : Fun K "is_list" "is_list" s_is_list f_is_list fd_is_list
  g_is_list : mg "is_list" = some (.ref f_is_list)
  b_is_list : Binds K fd_is_list ["value"] []
  f_is_integer : Addr
  fd_is_integer : FuncData
  F_is_integer : Fun K "is_integer" "is_integer" s_is_integer f_is_integer fd_is_integer
  g_is_integer : mg "is_integer" = some (.ref f_is_integer)
  b_is_integer : Binds K fd_is_integer ["value"] []
  f_is_within : Addr
  fd_is_within : FuncData
  F_is_within : Fun K "is_within" "is_within" s_is_within f_is_within fd_is_within
  g_is_within : mg "is_within" = some (.ref f_is_within)
  b_is_within : Binds K fd_is_within ["value", "least", "most"] []
  f_are_integers : Addr
  fd_are_integers : FuncData
  F_are_integers : Fun K "are_integers" "are_integers" s_are_integers f_are_integers fd_are_integers
  g_are_integers : mg "are_integers" = some (.ref f_are_integers)
  b_are_integers : Binds K fd_are_integers ["value"] []
  f_are_letters : Addr
  fd_are_letters : FuncData
  F_are_letters : Fun K "are_letters" "are_letters" s_are_letters f_are_letters fd_are_letters
  g_are_letters : mg "are_letters" = some (.ref f_are_letters)
  b_are_letters : Binds K fd_are_letters ["text"] []
  f_is_word : Addr
  fd_is_word : FuncData
  F_is_word : Fun K "is_word" "is_word" s_is_word f_is_word fd_is_word
  g_is_word : mg "is_word" = some (.ref f_is_word)
  b_is_word : Binds K fd_is_word ["value"] []
  f_is_text : Addr
  fd_is_text : FuncData
  F_is_text : Fun K "is_text" "is_text" s_is_text f_is_text fd_is_text
  g_is_text : mg "is_text" = some (.ref f_is_text)
  b_is_text : Binds K fd_is_text ["value"] []
  f_are_words : Addr
  fd_are_words : FuncData
  F_are_words : Fun K "are_words" "are_words" s_are_words f_are_words fd_are_words
  g_are_words : mg "are_words" = some (.ref f_are_words)
  b_are_words : Binds K fd_are_words ["value", "most"] []
  f_read : Addr
  fd_read : FuncData
  F_read : Fun K "read" "read" s_read f_read fd_read
  g_read : mg "read" = some (.ref f_read)
  b_read : Binds K fd_read ["book", "text"] []
  f_outset : Addr
  fd_outset : FuncData
  F_outset : Fun K "outset" "outset" s_outset f_outset fd_outset
  g_outset : mg "outset" = some (.ref f_outset)
  b_outset : Binds K fd_outset ["work"] []
  f_uplift : Addr
  fd_uplift : FuncData
  F_uplift : Fun K "uplift" "uplift" s_uplift f_uplift fd_uplift
  g_uplift : mg "uplift" = some (.ref f_uplift)
  b_uplift : Binds K fd_uplift ["work"] []
  f_advance : Addr
  fd_advance : FuncData
  F_advance : Fun K "advance" "advance" s_advance f_advance fd_advance
  g_advance : mg "advance" = some (.ref f_advance)
  b_advance : Binds K fd_advance ["work"] []
  f_prepare : Addr
  fd_prepare : FuncData
  F_prepare : Fun K "prepare" "prepare" s_prepare f_prepare fd_prepare
  g_prepare : mg "prepare" = some (.ref f_prepare)
  b_prepare : Binds K fd_prepare ["work"] []
  f_augment : Addr
  fd_augment : FuncData
  F_augment : Fun K "augment" "augment" s_augment f_augment fd_augment
  g_augment : mg "augment" = some (.ref f_augment)
  b_augment : Binds K fd_augment ["work"] []
  f_lessen : Addr
  fd_lessen : FuncData
  F_lessen : Fun K "lessen" "lessen" s_lessen f_lessen fd_lessen
  g_lessen : mg "lessen" = some (.ref f_lessen)
  b_lessen : Binds K fd_lessen ["work"] []
  f_multiply : Addr
  fd_multiply : FuncData
  F_multiply : Fun K "multiply" "multiply" s_multiply f_multiply fd_multiply
  g_multiply : mg "multiply" = some (.ref f_multiply)
  b_multiply : Binds K fd_multiply ["work"] []
  f_portion : Addr
  fd_portion : FuncData
  F_portion : Fun K "portion" "portion" s_portion f_portion fd_portion
  g_portion : mg "portion" = some (.ref f_portion)
  b_portion : Binds K fd_portion ["work"] []
  f_exchange : Addr
  fd_exchange : FuncData
  F_exchange : Fun K "exchange" "exchange" s_exchange f_exchange fd_exchange
  g_exchange : mg "exchange" = some (.ref f_exchange)
  b_exchange : Binds K fd_exchange ["work"] []
  f_inquire : Addr
  fd_inquire : FuncData
  F_inquire : Fun K "inquire" "inquire" s_inquire f_inquire fd_inquire
  g_inquire : mg "inquire" = some (.ref f_inquire)
  b_inquire : Binds K fd_inquire ["work"] []
  f_proclaim : Addr
  fd_proclaim : FuncData
  F_proclaim : Fun K "proclaim" "proclaim" s_proclaim f_proclaim fd_proclaim
  g_proclaim : mg "proclaim" = some (.ref f_proclaim)
  b_proclaim : Binds K fd_proclaim ["work"] []
  f_obtain : Addr
  fd_obtain : FuncData
  F_obtain : Fun K "obtain" "obtain" s_obtain f_obtain fd_obtain
  g_obtain : mg "obtain" = some (.ref f_obtain)
  b_obtain : Binds K fd_obtain ["work"] []
  f_nothing : Addr
  fd_nothing : FuncData
  F_nothing : Fun K "nothing" "nothing" s_nothing f_nothing fd_nothing
  g_nothing : mg "nothing" = some (.ref f_nothing)
  b_nothing : Binds K fd_nothing ["work"] []
  f_duplicate : Addr
  fd_duplicate : FuncData
  F_duplicate : Fun K "duplicate" "duplicate" s_duplicate f_duplicate fd_duplicate
  g_duplicate : mg "duplicate" = some (.ref f_duplicate)
  b_duplicate : Binds K fd_duplicate ["work"] []
  f_deposit : Addr
  fd_deposit : FuncData
  F_deposit : Fun K "deposit" "deposit" s_deposit f_deposit fd_deposit
  g_deposit : mg "deposit" = some (.ref f_deposit)
  b_deposit : Binds K fd_deposit ["work"] []
  f_whether : Addr
  fd_whether : FuncData
  F_whether : Fun K "whether" "whether" s_whether f_whether fd_whether
  g_whether : mg "whether" = some (.ref f_whether)
  b_whether : Binds K fd_whether ["work"] []
  f_negative : Addr
  fd_negative : FuncData
  F_negative : Fun K "negative" "negative" s_negative f_negative fd_negative
  g_negative : mg "negative" = some (.ref f_negative)
  b_negative : Binds K fd_negative ["work"] []
  f_journey : Addr
  fd_journey : FuncData
  F_journey : Fun K "journey" "journey" s_journey f_journey fd_journey
  g_journey : mg "journey" = some (.ref f_journey)
  b_journey : Binds K fd_journey ["work"] []
  f_finish : Addr
  fd_finish : FuncData
  F_finish : Fun K "finish" "finish" s_finish f_finish fd_finish
  g_finish : mg "finish" = some (.ref f_finish)
  b_finish : Binds K fd_finish ["work"] []
  f_may_do : Addr
  fd_may_do : FuncData
  F_may_do : Fun K "may_do" "may_do" s_may_do f_may_do fd_may_do
  g_may_do : mg "may_do" = some (.ref f_may_do)
  b_may_do : Binds K fd_may_do ["work", "number"] []
  f_do_word : Addr
  fd_do_word : FuncData
  F_do_word : Fun K "do_word" "do_word" s_do_word f_do_word fd_do_word
  g_do_word : mg "do_word" = some (.ref f_do_word)
  b_do_word : Binds K fd_do_word ["work", "number"] []
  f_do_row : Addr
  fd_do_row : FuncData
  F_do_row : Fun K "do_row" "do_row" s_do_row f_do_row fd_do_row
  g_do_row : mg "do_row" = some (.ref f_do_row)
  b_do_row : Binds K fd_do_row ["work", "row"] []
  f_behind_words : Addr
  fd_behind_words : FuncData
  F_behind_words : Fun K "behind_words" "behind_words" s_behind_words f_behind_words fd_behind_words
  g_behind_words : mg "behind_words" = some (.ref f_behind_words)
  b_behind_words : Binds K fd_behind_words ["row"] []
  f_thinned : Addr
  fd_thinned : FuncData
  F_thinned : Fun K "thinned" "thinned" s_thinned f_thinned fd_thinned
  g_thinned : mg "thinned" = some (.ref f_thinned)
  b_thinned : Binds K fd_thinned ["row"] []
  f_stretches_of : Addr
  fd_stretches_of : FuncData
  F_stretches_of : Fun K "stretches_of" "stretches_of" s_stretches_of f_stretches_of fd_stretches_of
  g_stretches_of : mg "stretches_of" = some (.ref f_stretches_of)
  b_stretches_of : Binds K fd_stretches_of ["row"] []
  f_do_pass : Addr
  fd_do_pass : FuncData
  F_do_pass : Fun K "do_pass" "do_pass" s_do_pass f_do_pass fd_do_pass
  g_do_pass : mg "do_pass" = some (.ref f_do_pass)
  b_do_pass : Binds K fd_do_pass ["work", "course"] []
  f_plain_book : Addr
  fd_plain_book : FuncData
  F_plain_book : Fun K "plain_book" "plain_book" s_plain_book f_plain_book fd_plain_book
  g_plain_book : mg "plain_book" = some (.ref f_plain_book)
  b_plain_book : Binds K fd_plain_book [] []
  f_check_run : Addr
  fd_check_run : FuncData
  F_check_run : Fun K "check_run" "check_run" s_check_run f_check_run fd_check_run
  g_check_run : mg "check_run" = some (.ref f_check_run)
  b_check_run : Binds K fd_check_run ["heard", "passes"] []
  f_stand_parts : Addr
  fd_stand_parts : FuncData
  F_stand_parts : Fun K "stand_parts" "stand_parts" s_stand_parts f_stand_parts fd_stand_parts
  g_stand_parts : mg "stand_parts" = some (.ref f_stand_parts)
  b_stand_parts : Binds K fd_stand_parts ["work"] []
  f_parted_at : Addr
  fd_parted_at : FuncData
  F_parted_at : Fun K "parted_at" "parted_at" s_parted_at f_parted_at fd_parted_at
  g_parted_at : mg "parted_at" = some (.ref f_parted_at)
  b_parted_at : Binds K fd_parted_at ["text", "other", "heard", "passes"] []
  f_law_fork : Addr
  fd_law_fork : FuncData
  F_law_fork : Fun K "_law_fork" "_law_fork" s_law_fork f_law_fork fd_law_fork
  g_law_fork : mg "_law_fork" = some (.ref f_law_fork)
  b_law_fork : Binds K fd_law_fork ["script"] []
  f_law_tine : Addr
  fd_law_tine : FuncData
  F_law_tine : Fun K "_law_tine" "_law_tine" s_law_tine f_law_tine fd_law_tine
  g_law_tine : mg "_law_tine" = some (.ref f_law_tine)
  b_law_tine : Binds K fd_law_tine ["fork", "many"] []
  f_law_one_of : Addr
  fd_law_one_of : FuncData
  F_law_one_of : Fun K "_law_one_of" "_law_one_of" s_law_one_of f_law_one_of fd_law_one_of
  g_law_one_of : mg "_law_one_of" = some (.ref f_law_one_of)
  b_law_one_of : Binds K fd_law_one_of ["fork", "some"] []
  f_law_vocabulary : Addr
  fd_law_vocabulary : FuncData
  F_law_vocabulary : Fun K "_law_vocabulary" "_law_vocabulary" s_law_vocabulary f_law_vocabulary fd_law_vocabulary
  g_law_vocabulary : mg "_law_vocabulary" = some (.ref f_law_vocabulary)
  b_law_vocabulary : Binds K fd_law_vocabulary [] []
  f_law_begun : Addr
  fd_law_begun : FuncData
  F_law_begun : Fun K "_law_begun" "_law_begun" s_law_begun f_law_begun fd_law_begun
  g_law_begun : mg "_law_begun" = some (.ref f_law_begun)
  b_law_begun : Binds K fd_law_begun [] []
  f_law_flagged : Addr
  fd_law_flagged : FuncData
  F_law_flagged : Fun K "_law_flagged" "_law_flagged" s_law_flagged f_law_flagged fd_law_flagged
  g_law_flagged : mg "_law_flagged" = some (.ref f_law_flagged)
  b_law_flagged : Binds K fd_law_flagged ["stand", "number", "heard"] []
  f_law_bare : Addr
  fd_law_bare : FuncData
  F_law_bare : Fun K "_law_bare" "_law_bare" s_law_bare f_law_bare fd_law_bare
  g_law_bare : mg "_law_bare" = some (.ref f_law_bare)
  b_law_bare : Binds K fd_law_bare ["stand", "number"] []
  f_law_do : Addr
  fd_law_do : FuncData
  F_law_do : Fun K "_law_do" "_law_do" s_law_do f_law_do fd_law_do
  g_law_do : mg "_law_do" = some (.ref f_law_do)
  b_law_do : Binds K fd_law_do ["stand", "number", "heard"] []
  f_law_read : Addr
  fd_law_read : FuncData
  F_law_read : Fun K "_law_read" "_law_read" s_law_read f_law_read fd_law_read
  g_law_read : mg "_law_read" = some (.ref f_law_read)
  b_law_read : Binds K fd_law_read ["text"] []
  f_law_seen : Addr
  fd_law_seen : FuncData
  F_law_seen : Fun K "_law_seen" "_law_seen" s_law_seen f_law_seen fd_law_seen
  g_law_seen : mg "_law_seen" = some (.ref f_law_seen)
  b_law_seen : Binds K fd_law_seen ["stand"] []
  f_law_heard : Addr
  fd_law_heard : FuncData
  F_law_heard : Fun K "_law_heard" "_law_heard" s_law_heard f_law_heard fd_law_heard
  g_law_heard : mg "_law_heard" = some (.ref f_law_heard)
  b_law_heard : Binds K fd_law_heard ["ask"] []
  f_law_any : Addr
  fd_law_any : FuncData
  F_law_any : Fun K "_law_any" "_law_any" s_law_any f_law_any fd_law_any
  g_law_any : mg "_law_any" = some (.ref f_law_any)
  b_law_any : Binds K fd_law_any ["fork"] []
  f_law_row : Addr
  fd_law_row : FuncData
  F_law_row : Fun K "_law_row" "_law_row" s_law_row f_law_row fd_law_row
  g_law_row : mg "_law_row" = some (.ref f_law_row)
  b_law_row : Binds K fd_law_row ["fork"] []
  f_law_items : Addr
  fd_law_items : FuncData
  F_law_items : Fun K "_law_items" "_law_items" s_law_items f_law_items fd_law_items
  g_law_items : mg "_law_items" = some (.ref f_law_items)
  b_law_items : Binds K fd_law_items ["fork", "row"] []
  f_law_parted : Addr
  fd_law_parted : FuncData
  F_law_parted : Fun K "_law_parted" "_law_parted" s_law_parted f_law_parted fd_law_parted
  g_law_parted : mg "_law_parted" = some (.ref f_law_parted)
  b_law_parted : Binds K fd_law_parted ["mine", "its", "heard", "passes"] []
  f_law : Addr
  fd_law : FuncData
  F_law : Fun K "law" "law" s_law f_law fd_law
  g_law : mg "law" = some (.ref f_law)
  b_law : Binds K fd_law ["script"] []
  n_law : PySem.W.nsIn K mainGlobals "law" = some (some (.ref f_law))
  f_Book_init : Addr
  fd_Book_init : FuncData
  F_Book_init : Fun K "__init__" "Book.__init__" s_Book_init f_Book_init fd_Book_init
  b_Book_init : Binds K fd_Book_init ["self", "words"] []
  f_Work_init : Addr
  fd_Work_init : FuncData
  F_Work_init : Fun K "__init__" "Work.__init__" s_Work_init f_Work_init fd_Work_init
  b_Work_init : Binds K fd_Work_init ["self", "numbers"] []
  f_Course_init : Addr
  fd_Course_init : FuncData
  F_Course_init : Fun K "__init__" "Course.__init__" s_Course_init f_Course_init fd_Course_init
  b_Course_init : Binds K fd_Course_init ["self", "row"] []
  C_Book : Addr
  gC_Book : mg "Book" = some (.ref C_Book)
  cl_Book : Cls K C_Book
  mk_Book : Mk K C_Book f_Book_init
  ob_Book : PySem.W.mroIn K C_Book (.type "object") = some true
  ne_Book : PySem.W.findIn K (.ref C_Book) "__ne__" = some (some (.builtin "object.__ne__"))
  oc_Book : PySem.W.findIn K (.ref C_Book) "__class__" = some (some (.builtin "object.__class__"))
  on_Book : PySem.W.specialIn K (.builtin "object.__class__") "__get__" = some (some (.builtin "getset_descriptor.__get__"))
  ot_Book : PySem.W.takesIn K (.builtin "object.__class__") = some true
  kc_Book : PySem.W.isClsIn K C_Book = true
  kt_Book : PySem.W.typeIn K (.ref C_Book) = some (.type "type")
  na_Book_words : NoAttr K C_Book "words"
  C_Work : Addr
  gC_Work : mg "Work" = some (.ref C_Work)
  cl_Work : Cls K C_Work
  mk_Work : Mk K C_Work f_Work_init
  ob_Work : PySem.W.mroIn K C_Work (.type "object") = some true
  ne_Work : PySem.W.findIn K (.ref C_Work) "__ne__" = some (some (.builtin "object.__ne__"))
  oc_Work : PySem.W.findIn K (.ref C_Work) "__class__" = some (some (.builtin "object.__class__"))
  on_Work : PySem.W.specialIn K (.builtin "object.__class__") "__get__" = some (some (.builtin "getset_descriptor.__get__"))
  ot_Work : PySem.W.takesIn K (.builtin "object.__class__") = some true
  kc_Work : PySem.W.isClsIn K C_Work = true
  kt_Work : PySem.W.typeIn K (.ref C_Work) = some (.type "type")
  na_Work_numbers : NoAttr K C_Work "numbers"
  na_Work_block : NoAttr K C_Work "block"
  na_Work_room : NoAttr K C_Work "room"
  na_Work_tick : NoAttr K C_Work "tick"
  na_Work_flag : NoAttr K C_Work "flag"
  na_Work_test : NoAttr K C_Work "test"
  na_Work_mode : NoAttr K C_Work "mode"
  na_Work_first : NoAttr K C_Work "first"
  na_Work_second : NoAttr K C_Work "second"
  na_Work_cells : NoAttr K C_Work "cells"
  na_Work_heard : NoAttr K C_Work "heard"
  na_Work_said : NoAttr K C_Work "said"
  na_Work_is_done : NoAttr K C_Work "is_done"
  C_Course : Addr
  gC_Course : mg "Course" = some (.ref C_Course)
  cl_Course : Cls K C_Course
  mk_Course : Mk K C_Course f_Course_init
  ob_Course : PySem.W.mroIn K C_Course (.type "object") = some true
  ne_Course : PySem.W.findIn K (.ref C_Course) "__ne__" = some (some (.builtin "object.__ne__"))
  oc_Course : PySem.W.findIn K (.ref C_Course) "__class__" = some (some (.builtin "object.__class__"))
  on_Course : PySem.W.specialIn K (.builtin "object.__class__") "__get__" = some (some (.builtin "getset_descriptor.__get__"))
  ot_Course : PySem.W.takesIn K (.builtin "object.__class__") = some true
  kc_Course : PySem.W.isClsIn K C_Course = true
  kt_Course : PySem.W.typeIn K (.ref C_Course) = some (.type "type")
  na_Course_row : NoAttr K C_Course "row"
  na_Course_is_steady : NoAttr K C_Course "is_steady"
  na_Course_stretches : NoAttr K C_Course "stretches"
  na_Course_last_pair : NoAttr K C_Course "last_pair"
  k_TooMany : Addr
  gk_TooMany : mg "TooMany" = some (.ref k_TooMany)
  kc_TooMany : PySem.W.isClsIn K k_TooMany = true
  kt_TooMany : PySem.W.typeIn K (.ref k_TooMany) = some (.type "type")
  k_BadNumber : Addr
  gk_BadNumber : mg "BadNumber" = some (.ref k_BadNumber)
  kc_BadNumber : PySem.W.isClsIn K k_BadNumber = true
  kt_BadNumber : PySem.W.typeIn K (.ref k_BadNumber) = some (.type "type")
  k_BadText : Addr
  gk_BadText : mg "BadText" = some (.ref k_BadText)
  kc_BadText : PySem.W.isClsIn K k_BadText = true
  kt_BadText : PySem.W.typeIn K (.ref k_BadText) = some (.type "type")
  k_BadHeard : Addr
  gk_BadHeard : mg "BadHeard" = some (.ref k_BadHeard)
  kc_BadHeard : PySem.W.isClsIn K k_BadHeard = true
  kt_BadHeard : PySem.W.typeIn K (.ref k_BadHeard) = some (.type "type")
  su_BadNumber_TooMany : PySem.W.subIn K (.ref k_BadNumber) (.ref k_TooMany) = some false
  su_BadNumber_BadNumber : PySem.W.subIn K (.ref k_BadNumber) (.ref k_BadNumber) = some true
  su_BadNumber_BadText : PySem.W.subIn K (.ref k_BadNumber) (.ref k_BadText) = some false
  su_BadNumber_BadHeard : PySem.W.subIn K (.ref k_BadNumber) (.ref k_BadHeard) = some false
  su_BadText_TooMany : PySem.W.subIn K (.ref k_BadText) (.ref k_TooMany) = some false
  su_BadText_BadNumber : PySem.W.subIn K (.ref k_BadText) (.ref k_BadNumber) = some false
  su_BadText_BadText : PySem.W.subIn K (.ref k_BadText) (.ref k_BadText) = some true
  su_BadText_BadHeard : PySem.W.subIn K (.ref k_BadText) (.ref k_BadHeard) = some false
  su_BadHeard_TooMany : PySem.W.subIn K (.ref k_BadHeard) (.ref k_TooMany) = some false
  su_BadHeard_BadNumber : PySem.W.subIn K (.ref k_BadHeard) (.ref k_BadNumber) = some false
  su_BadHeard_BadText : PySem.W.subIn K (.ref k_BadHeard) (.ref k_BadText) = some false
  su_BadHeard_BadHeard : PySem.W.subIn K (.ref k_BadHeard) (.ref k_BadHeard) = some true
  su_Book_Book : PySem.W.subIn K (.ref C_Book) (.ref C_Book) = some true
  m_isinstance : mg "isinstance" = none
  m_list : mg "list" = none
  m_tuple : mg "tuple" = none
  m_int : mg "int" = none
  m_bool : mg "bool" = none
  m_all : mg "all" = none
  m_str : mg "str" = none
  m_len : mg "len" = none
  m_set : mg "set" = none
  m_enumerate : mg "enumerate" = none
  m_zip : mg "zip" = none
  m_range : mg "range" = none
  m_abs : mg "abs" = none
  m_dict : mg "dict" = none
  m_sorted : mg "sorted" = none
  m_repr : mg "repr" = none
  e_BadNumber : Er K mg "BadNumber" "BadNumber.__init__" s_BadNumber_init "LetterError"
  e_BadText : Er K mg "BadText" "BadText.__init__" s_BadText_init "LetterError"
  e_BadHeard : Er K mg "BadHeard" "BadHeard.__init__" s_BadHeard_init "LetterError"
  e_BadBook : Er K mg "BadBook" "BadBook.__init__" s_BadBook_init "LetterError"
  D_DEEDS : Addr
  gD_DEEDS : mg "DEEDS" = some (.ref D_DEEDS)
  tD_DEEDS : DctI K D_DEEDS [(0, .ref f_outset), (1, .ref f_uplift), (2, .ref f_advance), (3, .ref f_prepare), (4, .ref f_augment), (5, .ref f_lessen), (6, .ref f_multiply), (7, .ref f_portion), (8, .ref f_exchange), (9, .ref f_inquire), (10, .ref f_proclaim), (11, .ref f_obtain), (20, .ref f_nothing), (21, .ref f_duplicate), (22, .ref f_deposit), (23, .ref f_whether), (24, .ref f_negative), (28, .ref f_journey), (29, .ref f_finish)]
  D_PLAIN_WORDS : Addr
  gD_PLAIN_WORDS : mg "PLAIN_WORDS" = some (.ref D_PLAIN_WORDS)
  tD_PLAIN_WORDS : ∀ H : Hp, SqT K H D_PLAIN_WORDS [.str "outset", .str "uplift", .str "advance", .str "prepare", .str "augment", .str "lessen", .str "multiply", .str "portion", .str "exchange", .str "inquire", .str "proclaim", .str "obtain", .str "cipher", .str "single", .str "couple", .str "tripled", .str "quarter", .str "fivefold", .str "hexagon", .str "weekday", .str "nothing", .str "duplicate", .str "deposit", .str "whether", .str "negative", .str "granted", .str "otherwise", .str "anyway", .str "journey", .str "finish"]
  nD_PLAIN_WORDS : ∃ o, K.lookup D_PLAIN_WORDS = some o ∧ o.cls = .type "tuple" ∧ o.dict = none
  t_MOST_LETTERS : Tok
  c_MOST_LETTERS : mg "MOST_LETTERS" = some (.int 12 t_MOST_LETTERS)
  t_MOST_SIGNS : Tok
  c_MOST_SIGNS : mg "MOST_SIGNS" = some (.int 200000 t_MOST_SIGNS)
  t_MOST_WORDS : Tok
  c_MOST_WORDS : mg "MOST_WORDS" = some (.int 40 t_MOST_WORDS)
  t_FIRST_HERE : Tok
  c_FIRST_HERE : mg "FIRST_HERE" = some (.int 3 t_FIRST_HERE)
  t_FIRST_OF_FLAG : Tok
  c_FIRST_OF_FLAG : mg "FIRST_OF_FLAG" = some (.int 4 t_FIRST_OF_FLAG)
  t_LAST_OF_FLAG : Tok
  c_LAST_OF_FLAG : mg "LAST_OF_FLAG" = some (.int 19 t_LAST_OF_FLAG)
  t_FIRST_DIGIT : Tok
  c_FIRST_DIGIT : mg "FIRST_DIGIT" = some (.int 12 t_FIRST_DIGIT)
  t_LAST_DIGIT : Tok
  c_LAST_DIGIT : mg "LAST_DIGIT" = some (.int 19 t_LAST_DIGIT)
  t_FIRST_MODE : Tok
  c_FIRST_MODE : mg "FIRST_MODE" = some (.int 25 t_FIRST_MODE)
  t_LAST_MODE : Tok
  c_LAST_MODE : mg "LAST_MODE" = some (.int 27 t_LAST_MODE)
  t_MODE_IF_SO : Tok
  c_MODE_IF_SO : mg "MODE_IF_SO" = some (.int 0 t_MODE_IF_SO)
  t_MODE_ANYWAY : Tok
  c_MODE_ANYWAY : mg "MODE_ANYWAY" = some (.int 2 t_MODE_ANYWAY)
  t_OUTSET : Tok
  c_OUTSET : mg "OUTSET" = some (.int 0 t_OUTSET)
  t_UPLIFT : Tok
  c_UPLIFT : mg "UPLIFT" = some (.int 1 t_UPLIFT)
  t_ADVANCE : Tok
  c_ADVANCE : mg "ADVANCE" = some (.int 2 t_ADVANCE)
  t_MOST_PASSES : Tok
  c_MOST_PASSES : mg "MOST_PASSES" = some (.int 20000 t_MOST_PASSES)
end K54
namespace K54
open PySem PySem.Spec PyProof.Rows L2 Kx SX LamX Ms
section
variable {P : Program} {w : World} {K : PySem.W.Frag} {mg : Str → Option Value} {base : Heap} (T : Tx K mg)
/-! ### checks -/
def sp_is_list (K : PySem.W.Frag) : Sp := fun vs H Q _ => ∃ (x : V) (n : String) (b : Bool), vs = [x] ∧ TyX K H x (.type n) ∧ PySem.W.kitAny K (.type n) [.type "list", .type "tuple"] = some b ∧ ∀ H', Same H H' → Q (.bl b) H'
theorem ok_is_list : FnOk P w K mg base CX0 1 T.f_is_list T.fd_is_list ["value"] (sp_is_list K) := by
  refine T.F_is_list.ok sc_is_list (fun vs H Q E h => ?_) (fun cdv A outer s H vs Q E hr h => ?_)
  · obtain ⟨x, n, b, rfl, _⟩ := h
    rfl
  · obtain ⟨x, n, b, rfl, ht, hk, q⟩ := h
    refine ⟨_, (pss_one (ps_ret (pe_callB call_isiT (by rfl) T.m_isinstance (by decide +kernel) (pa_cons (pv 0) (pa_cons (pe_tup (pa_cons (pe_bltn (v := .ty "list") (by rfl) T.m_list (by decide +kernel) rfl) (pa_cons (pe_bltn (v := .ty "tuple") (by rfl) T.m_tuple (by decide +kernel) rfl) pa_nil))) pa_nil))))), ?_⟩
    refine ⟨x, rfl, by show 2 ≤ sizeLine; decide, fun p np => ?_⟩
    exact ⟨x, p, _, _, _, b, rfl, upd_same, .cons (.ty _) (.cons (.ty _) .nil), tyx_same (same_new np) ht, hk, q _ (same_new np)⟩
def sp_is_integer (K : PySem.W.Frag) : Sp := fun vs H Q _ => ∃ (x : V) (n : String) (a b : Bool), vs = [x] ∧ TyX K H x (.type n) ∧ kitB n "int" = some a ∧ kitB n "bool" = some b ∧ Q (.bl (a && !b)) H
theorem ok_is_integer : FnOk P w K mg base CX0 1 T.f_is_integer T.fd_is_integer ["value"] (sp_is_integer K) := by
  refine T.F_is_integer.ok sc_is_integer (fun vs H Q E h => ?_) (fun cdv A outer s H vs Q E hr h => ?_)
  · obtain ⟨x, n, a, b, rfl, _⟩ := h
    rfl
  · obtain ⟨x, n, a, b, rfl, ht, h1, h2, q⟩ := h
    refine ⟨_, (pss_one (ps_ret (pe_and (pe_callB call_isi (by rfl) T.m_isinstance (by decide +kernel) (pa_cons (pv 0) (pa_cons (pe_bltn (v := .ty "int") (by rfl) T.m_int (by decide +kernel) rfl) pa_nil))) (pe_one (pe_not (pe_callB call_isi (by rfl) T.m_isinstance (by decide +kernel) (pa_cons (pv 0) (pa_cons (pe_bltn (v := .ty "bool") (by rfl) T.m_bool (by decide +kernel) rfl) pa_nil)))))))), ?_⟩
    refine ⟨x, rfl, x, _, _, _, a, rfl, .ty _, ht, kit_ty h1, a, rfl, iteC (fun e => ?_) (fun e => ?_)⟩
    · refine ⟨x, rfl, x, _, _, _, b, rfl, .ty _, ht, kit_ty h2, b, rfl, ?_⟩
      rw [e] at q
      exact q
    · rw [e] at q
      exact q
def sp_is_within (K : PySem.W.Frag) : Sp := fun vs H Q _ => ∃ (x : V) (lo hi : Option Int), vs = [x, bdV lo, bdV hi] ∧ HasInt K H x ∧ Q (.bl (withinV x lo hi)) H
theorem ok_is_within : FnOk P w K mg base CX0 2 T.f_is_within T.fd_is_within ["value", "least", "most"] (sp_is_within K) := by
  refine T.F_is_within.ok sc_is_within (fun vs H Q E h => ?_) (fun cdv A outer s H vs Q E hr h => ?_)
  · obtain ⟨i, lo, hi, rfl, _⟩ := h
    rfl
  · obtain ⟨x, lo, hi, rfl, ⟨n, a, b, ht, k1, k2, e⟩, q⟩ := h
    refine ⟨_, (pss_cons (ps_if (pt_not (pt_val (pe_call (ok_is_integer T) (hr.mono (by decide)) (by rfl) T.g_is_integer T.F_is_integer.kp T.b_is_integer .nil pass0 (pa_cons (pv 0) pa_nil))))
      (pss_one (ps_ret pe_bl))
      pss_nil)
    (pss_one (ps_ret (pe_and (pe_or (pe_cmpR op_isN (pv 1) pe_non (nomark _)) (pe_one (pe_cmpR op_ge (pv 0) (pv 1) (nomark _)))) (pe_one (pe_or (pe_cmpR op_isN (pv 2) pe_non (nomark _)) (pe_one (pe_cmpR op_le (pv 0) (pv 2) (nomark _))))))))), ?_⟩
    refine ⟨_, rfl, x, n, a, b, rfl, ht, k1, k2, _, rfl, ?_⟩
    rw [e]
    cases x with
    | int i =>
      refine iteF ⟨_, rfl, rfl, _, rfl, ?_⟩
      cases lo with
      | none =>
        refine iteT ⟨_, rfl, iteT ⟨_, rfl, rfl, _, rfl, ?_⟩⟩
        cases hi with
        | none => exact iteT q
        | some h => exact iteF ⟨_, rfl, _, rfl, _, _, rfl, rfl, q⟩
      | some l =>
        have q' : Q (.bl (decide (l ≤ i) && hiB i hi)) H := q
        refine iteF ⟨_, rfl, _, rfl, _, _, rfl, rfl, _, rfl, iteC (fun e => ?_) (fun e => ?_)⟩
        · rw [e] at q'
          refine ⟨_, rfl, rfl, _, rfl, ?_⟩
          cases hi with
          | none => exact iteT q'
          | some h => exact iteF ⟨_, rfl, _, rfl, _, _, rfl, rfl, q'⟩
        · rw [e] at q'
          exact q'
    | _ => exact iteT q
/-- a list or tuple of ints, or not -/
def IntsV (K : PySem.W.Frag) (H : Hp) (x : V) (b : Bool) : Prop := (∃ n : String, TyX K H x (.type n) ∧ PySem.W.kitAny K (.type n) [.type "list", .type "tuple"] = some false ∧ b = false) ∨
  ∃ (p : Addr) (zs : List V), x = .ref p ∧ SqQ K H p zs ∧ (∀ z ∈ zs, HasInt K H z) ∧ zs.length ≤ 100000 ∧ b = zs.all isIntV
theorem intsV_of {H : Hp} {p : Addr} {l : List Int} (h : SqQ K H p (l.map V.int)) (hl : l.length ≤ 100000) : IntsV K H (.ref p) true :=
  .inr ⟨p, _, rfl, h, fun z m => by obtain ⟨i, _, rfl⟩ := List.mem_map.mp m; exact hasInt_int i, by rw [List.length_map]; exact hl, by rw [List.all_map]; exact (List.all_eq_true.mpr fun _ _ => rfl).symm⟩
def sp_are_integers (K : PySem.W.Frag) : Sp := fun vs H Q _ => ∃ (x : V) (b : Bool), vs = [x] ∧ IntsV K H x b ∧ ∀ H', Same H H' → Q (.bl b) H'
theorem ok_are_integers : FnOk P w K mg base CX0 2 T.f_are_integers T.fd_are_integers ["value"] (sp_are_integers K) := by
  refine T.F_are_integers.ok sc_are_integers (fun vs H Q E h => ?_) (fun cdv A outer s H vs Q E hr h => ?_)
  · obtain ⟨x, b, rfl, _⟩ := h
    rfl
  · obtain ⟨x, b, rfl, h, q⟩ := h
    refine ⟨_, (pss_one (ps_ret (pe_and (pe_call (ok_is_list T) (hr.mono (by decide)) (by rfl) T.g_is_list T.F_is_list.kp T.b_is_list .nil pass0 (pa_cons (pv 0) pa_nil)) (pe_one (pe_callB (cr_all rfl) (by rfl) T.m_all (by decide +kernel) (pa_cons (pe_lc (own := [("number", 1)]) rfl sc_are_integers.nd (pi_seq (pv 0)) (blkOk_by (own := [("number", 1)]) (N := ["value", "number"]) (sc := defScope s_are_integers) (by decide +kernel)) (fun _ _ _ _ _ => (pg_name (i := 1) sc_are_integers.nd rfl (.inl rfl))) (fun _ _ _ _ _ => pts_nil) (fun _ _ _ _ _ => (pe_call (ok_is_integer T) (hr.mono (by decide)) (by rfl) T.g_is_integer T.F_is_integer.kp T.b_is_integer .nil pass0 (pa_cons (pv 1) pa_nil)))) pa_nil)))))), ?_⟩
    rcases h with ⟨n, ht, hk, rfl⟩ | ⟨p, zs, rfl, hz, hi, hl, rfl⟩
    · exact go_ret (go_and ⟨_, rfl, _, n, false, rfl, ht, hk, fun H1 e1 => ⟨_, rfl, iteF (A := _) (q H1 e1)⟩⟩)
    · obtain ⟨n, ht, hk⟩ := isl_q hz
      refine go_ret (go_and ⟨_, rfl, _, n, true, rfl, ht, hk, fun H1 e1 => ⟨_, rfl, iteT (B := _) ?_⟩⟩)
      refine go_cb (go_cons (lc_seqmap (a := p) (xs := zs) (fun v => .bl (isIntV v)) (by exact rfl) (Same.q e1 hz) hl (fun i v Hc Q' R' hv e2 q' => ?_) (fun D Hc e2 hD => ?_)))
      · obtain ⟨n2, a, b, t2, k1, k2, e⟩ := hi v (List.mem_of_getElem? hv)
        refine ⟨rfl, ?_⟩
        refine iteT (B := True) ?_
        refine ⟨_, rfl, v, n2, a, b, rfl, tyx_same (e1.trans e2) t2, k1, k2, ?_⟩
        rw [e]
        exact q' Hc (Same.refl _)
      · refine go_nil ⟨D, zs.map isIntV, rfl, .inl (.inl (by rw [hD, List.map_map]; rfl)), ?_⟩
        rw [show ((zs.map isIntV).all id) = zs.all isIntV by rw [List.all_map]; rfl]
        exact q Hc (e1.trans e2)
/-! ### words, signs, texts -/
def sp_are_letters (K : PySem.W.Frag) : Sp := fun vs H Q _ => ∃ (l : List Nat), vs = [.str (S l)] ∧ Q (.bl (lowB l)) H
theorem ok_are_letters : FnOk P w K mg base CX0 1 T.f_are_letters T.fd_are_letters ["text"] (sp_are_letters K) := by
  refine T.F_are_letters.ok sc_are_letters (fun vs H Q E h => ?_) (fun cdv A outer s H vs Q E hr h => ?_)
  · obtain ⟨l, rfl, _⟩ := h
    rfl
  · obtain ⟨l, rfl, q⟩ := h
    rw [← letters_S] at q
    refine ⟨_, (pss_one (ps_ret (pe_and (pe_m0 PySem.F.slot_str_isascii PySem.F.type_str_isascii mt_isascii (pv 0)) (pe_and (pe_m0 PySem.F.slot_str_isalpha PySem.F.type_str_isalpha mt_isalpha (pv 0)) (pe_one (pe_m0 PySem.F.slot_str_islower PySem.F.type_str_islower mt_islower (pv 0))))))), ?_⟩
    refine ⟨_, rfl, ⟨_, rfl⟩, S l, rfl, rfl, trivial, _, rfl, iteC (fun e => ?_) (fun e => ?_)⟩
    · rw [e] at q
      refine ⟨_, rfl, ⟨_, rfl⟩, S l, rfl, rfl, trivial, _, rfl, iteC (fun e => ?_) (fun e => ?_)⟩
      · rw [e] at q
        exact ⟨_, rfl, ⟨_, rfl⟩, S l, rfl, rfl, trivial, q⟩
      · rw [e] at q
        exact q
    · rw [e] at q
      exact q
/-- a text, or what is none -/
def StrIs (K : PySem.W.Frag) (H : Hp) (x : V) (o : Option (List Nat)) : Prop := match o with
  | some l => x = .str (S l) ∧ l.length ≤ 1000000
  | none => ∃ n, TyX K H x (.type n) ∧ kitB n "str" = some false
theorem StrIs.same {K : PySem.W.Frag} {H H' : Hp} {x : V} {o : Option (List Nat)} (e : Same H H') (h : StrIs K H x o) : StrIs K H' x o := by
  cases o with
  | some l => exact h
  | none =>
    obtain ⟨n, h1, h2⟩ := h
    exact ⟨n, tyx_same e h1, h2⟩
theorem kit_str : kitB "str" "str" = some true := by decide +kernel
def wordB (l : List Nat) : Bool := decide (l.length ≤ 12) && lowB l
def signB (l : List Nat) : Bool := decide (l.length = 1) && l.all sg
def sp_is_word (K : PySem.W.Frag) : Sp := fun vs H Q _ => ∃ (x : V) (o : Option (List Nat)), vs = [x] ∧ StrIs K H x o ∧ Q (.bl (o.elim false wordB)) H
theorem ok_is_word : FnOk P w K mg base CX0 2 T.f_is_word T.fd_is_word ["value"] (sp_is_word K) := by
  refine T.F_is_word.ok sc_is_word (fun vs H Q E h => ?_) (fun cdv A outer s H vs Q E hr h => ?_)
  · obtain ⟨x, o, rfl, _⟩ := h
    rfl
  · obtain ⟨x, o, rfl, hx, q⟩ := h
    refine ⟨_, (pss_one (ps_ret (pe_and (pe_callB call_isi (by rfl) T.m_isinstance (by decide +kernel) (pa_cons (pv 0) (pa_cons (pe_bltn (v := .ty "str") (by rfl) T.m_str (by decide +kernel) rfl) pa_nil))) (pe_and (pe_cmpR op_le (pe_callB call_len_str (by rfl) T.m_len PySem.boot_len (pa_cons (pv 0) pa_nil)) (pe_glob (v := .int 12) (by rfl) T.c_MOST_LETTERS ⟨_, rfl⟩) (nomark _)) (pe_one (pe_call (ok_are_letters T) (hr.mono (by decide)) (by rfl) T.g_are_letters T.F_are_letters.kp T.b_are_letters .nil pass0 (pa_cons (pv 0) pa_nil))))))), ?_⟩
    cases o with
    | none =>
      obtain ⟨n, h1, h2⟩ := hx
      exact ⟨x, rfl, x, _, _, _, false, rfl, .ty _, h1, kit_ty h2, _, rfl, iteF q⟩
    | some l =>
      obtain ⟨rfl, hl⟩ := hx
      refine ⟨_, rfl, _, _, _, _, true, rfl, .ty _, .base (.str (S l)), kit_ty kit_str, _, rfl, ?_⟩
      refine iteT (B := _) ?_
      have q' : Q (.bl (decide (l.length ≤ 12) && lowB l)) H := q
      have e1 : decide (((S l).length : Int) ≤ 12) = decide (l.length ≤ 12) := by
        rw [S_len]
        by_cases h : l.length ≤ 12
        · rw [decide_eq_true h, decide_eq_true (by omega)]
        · rw [decide_eq_false h, decide_eq_false (by omega)]
      refine ⟨_, rfl, S l, rfl, by rw [S_len]; exact Nat.le_trans hl (by decide), _, _, rfl, rfl, _, rfl, ?_⟩
      rw [e1]
      cases h : decide (l.length ≤ 12) with
      | true =>
        rw [h] at q'
        refine iteT (B := _) ?_
        exact ⟨_, rfl, l, rfl, q'⟩
      | false =>
        rw [h] at q'
        exact iteF q'
theorem StrIs.ext {K : PySem.W.Frag} {H H' : Hp} {x : V} {o : Option (List Nat)} (e : ExtN H H') (h : StrIs K H x o) : StrIs K H' x o := by
  cases o with
  | none =>
    obtain ⟨n, h1, h2⟩ := h
    exact ⟨n, tyx_ext e h1, h2⟩
  | some l => exact h
def sp_is_text (K : PySem.W.Frag) : Sp := fun vs H Q _ => ∃ (x : V) (o : Option (List Nat)), vs = [x] ∧ StrIs K H x o ∧ Q (.bl (o.elim false textB)) H
theorem ok_is_text : FnOk P w K mg base CX0 2 T.f_is_text T.fd_is_text ["value"] (sp_is_text K) := by
  refine okT T.F_is_text sc_is_text (by decide +kernel) (by decide) (fun vs H Q E h => ?_) (fun cdv A outer s H vs Q E hr h => ?_)
  · obtain ⟨x, o, rfl, _⟩ := h
    rfl
  · obtain ⟨x, o, rfl, hx, q⟩ := h
    refine ⟨_, (psst_cons (PST.of (ps_if (PW.pt (pw_or (pt_not (pt_val (pe_callB call_isi (by rfl) T.m_isinstance (by decide +kernel) (pa_cons (pv 0) (pa_cons (pe_bltn (v := .ty "str") (by rfl) T.m_str (by decide +kernel) rfl) pa_nil))))) (pw_or1 (pt_cmpR op_gt (pe_callB call_len_str (by rfl) T.m_len PySem.boot_len (pa_cons (pv 0) pa_nil)) (pe_glob (v := .int 200000) (by rfl) T.c_MOST_SIGNS ⟨_, rfl⟩) (nomark _)))))
      (pss_one (ps_ret pe_bl))
      pss_nil))
    (psst_cons (pst_set (i := 1) sc_is_text.nd rfl (.inl rfl) (CwR.pet_replC (pv 0)))
    (PSsT.of (pss_one (ps_ret (pe_or (pe_cmpR op_eq (pv 1) pe_str (nomark _)) (pe_one (pe_call (ok_are_letters T) (hr.mono (by decide)) (by rfl) T.g_are_letters T.F_are_letters.kp T.b_are_letters .nil pass0 (pa_cons (pv 1) pa_nil))))))))), ?_⟩
    cases o with
    | none =>
      obtain ⟨n, h1, h2⟩ := hx
      refine ⟨x, rfl, x, _, _, _, false, rfl, .ty _, h1, kit_ty h2, _, rfl, ?_⟩
      refine iteT (B := _) ?_
      refine iteT (B := _) ?_
      exact q
    | some l =>
      obtain ⟨rfl, hl⟩ := hx
      refine ⟨_, rfl, _, _, _, _, true, rfl, .ty _, .base (.str (S l)), kit_ty kit_str, _, rfl, ?_⟩
      refine iteF (A := _) ?_
      have q' : Q (.bl (decide (l.length ≤ 200000) && l.all sg)) H := q
      have e1 : decide ((200000 : Int) < ((S l).length : Int)) = !decide (l.length ≤ 200000) := by
        rw [S_len]
        by_cases h : l.length ≤ 200000
        · rw [decide_eq_true h, decide_eq_false (by omega)]
          rfl
        · rw [decide_eq_false h, decide_eq_true (by omega)]
          rfl
      refine ⟨_, rfl, S l, rfl, by rw [S_len]; exact Nat.le_trans hl (by decide), _, _, rfl, rfl, _, rfl, ?_⟩
      rw [e1]
      cases h : decide (l.length ≤ 200000) with
      | false =>
        rw [h] at q'
        refine iteT (B := _) ?_
        exact q'
      | true =>
        rw [h] at q'
        have h' : l.length ≤ 200000 := of_decide_eq_true h
        refine iteF (A := _) ?_
        refine ⟨_, rfl, S l, rfl, by rw [S_len]; show l.length + (l.length + 1) * 0 ≤ 16777216; omega, ?_⟩
        have eR : Txt.replace (S l) " " "" = S (l.filter (· != 32)) := replace_S l
        rw [eR]
        have q2 : Q (.bl ((l.filter (· != 32)).isEmpty || lowB (l.filter (· != 32)))) H := by
          rw [text_filter]
          exact q'
        refine ⟨_, rfl, rfl, _, rfl, ?_⟩
        rw [S_nil]
        cases hE : (l.filter (· != 32)).isEmpty with
        | true =>
          rw [hE] at q2
          refine iteT (B := _) ?_
          exact q2
        | false =>
          rw [hE] at q2
          refine iteF (A := _) ?_
          exact ⟨_, rfl, _, rfl, q2⟩
/-! ### books -/
def tx (l : List Nat) : V := .str (S l)
def txtV : V → Option (List Nat)
  | .str x => some x.cps.toList
  | _ => none
theorem txt_tx (l : List Nat) : txtV (tx l) = some l := by
  unfold txtV tx
  simp [S]
theorem tx_txt {v : V} {l : List Nat} (h : txtV v = some l) : v = tx l := by
  cases v with
  | str x =>
    have e : x.cps.toList = l := Option.some.inj h
    show V.str x = V.str (S l)
    rw [← e, S_of]
  | _ => cases h
theorem nodup_some {α : Type} : ∀ {l : List α}, l.Nodup → (l.map some).Nodup
  | [], _ => List.nodup_nil
  | a :: r, h => by
    rw [List.nodup_cons] at h
    rw [List.map_cons, List.nodup_cons]
    refine ⟨fun m => ?_, nodup_some h.2⟩
    obtain ⟨b, hb, e⟩ := List.mem_map.mp m
    exact h.1 (Option.some.inj e ▸ hb)
def wordV (v : V) : Bool := (txtV v).elim false wordB
theorem words_strs : ∀ (vs : List V), vs.all wordV = true → ∃ ls : List (List Nat), vs = ls.map tx ∧ vs.map txtV = ls.map some
  | [], _ => ⟨[], rfl, rfl⟩
  | v :: r, h => by
    rw [List.all_cons, Bool.and_eq_true] at h
    obtain ⟨ls, e1, e2⟩ := words_strs r h.2
    have h1 := h.1
    unfold wordV at h1
    cases ht : txtV v with
    | none =>
      rw [ht] at h1
      cases h1
    | some l => exact ⟨l :: ls, by rw [List.map_cons, ← e1, tx_txt ht], by rw [List.map_cons, List.map_cons, e2, ht]⟩
theorem nodup_map_S : ∀ (ls : List (List Nat)), (ls.map S).Nodup ↔ (ls.map some).Nodup
  | [] => by simp
  | l :: r => by
    rw [List.map_cons, List.map_cons, List.nodup_cons, List.nodup_cons, nodup_map_S r]
    have e : S l ∈ r.map S ↔ some l ∈ r.map some := by
      constructor
      · intro m
        obtain ⟨k, hk, e⟩ := List.mem_map.mp m
        have : k = l := by
          have := congrArg (fun z : Str => z.cps.toList) e
          simpa [S] using this
        rw [← this]
        exact List.mem_map.mpr ⟨k, hk, rfl⟩
      · intro m
        obtain ⟨k, hk, e⟩ := List.mem_map.mp m
        cases e
        exact List.mem_map.mpr ⟨l, hk, rfl⟩
    rw [e]
def wordsB (m : Nat) (os : List (Option (List Nat))) : Bool := decide (1 ≤ os.length) && decide (os.length ≤ m) && (os.all (fun o => o.elim false wordB) && decide os.Nodup)
/-- what is told as words, and which they are if they are any -/
def WArg (K : PySem.W.Frag) (H : Hp) (x : V) (m : Nat) (o : Option (List (List Nat))) : Prop :=
  (o = none ∧ ∃ n, TyX K H x (.type n) ∧ PySem.W.kitAny K (.type n) [.type "list", .type "tuple"] = some false) ∨
  ∃ (a : Addr) (vs : List V), x = .ref a ∧ SqQ K H a vs ∧ vs.length ≤ 4000 ∧ (∀ v ∈ vs, StrIs K H v (txtV v)) ∧ wordsB m (vs.map txtV) = o.isSome ∧ ∀ ws, o = some ws → vs = ws.map tx
theorem WArg.same {K : PySem.W.Frag} {H H' : Hp} {x : V} {m : Nat} {o : Option (List (List Nat))} (e : Same H H') (h : WArg K H x m o) : WArg K H' x m o := by
  rcases h with ⟨h1, n, h2, h3⟩ | ⟨a, vs, h1, h2, h3, h4, h5, h6⟩
  · exact .inl ⟨h1, n, tyx_same e h2, h3⟩
  · exact .inr ⟨a, vs, h1, Same.q e h2, h3, fun v m => (h4 v m).same e, h5, h6⟩
theorem WArg.ext {K : PySem.W.Frag} {H H' : Hp} {x : V} {m : Nat} {o : Option (List (List Nat))} (e : ExtN H H') (h : WArg K H x m o) : WArg K H' x m o := by
  rcases h with ⟨h1, n, h2, h3⟩ | ⟨a, vs, h1, h2, h3, h4, h5, h6⟩
  · exact .inl ⟨h1, n, tyx_ext e h2, h3⟩
  · exact .inr ⟨a, vs, h1, h2.imp (sqL_ext e) (sqT_ext e), h3, fun v m => (h4 v m).ext e, h5, h6⟩
theorem words_arg {K : PySem.W.Frag} {H : Hp} {a : Addr} {ws : List (List Nat)} {m : Nat} (h : SqQ K H a (ws.map tx)) (l1 : 1 ≤ ws.length) (l2 : ws.length ≤ m) (l3 : m ≤ 4000) (hw : ∀ w ∈ ws, wordB w = true) (nd : ws.Nodup) : WArg K H (.ref a) m (some ws) := by
  refine .inr ⟨a, _, rfl, h, by rw [List.length_map]; omega, fun v hv => ?_, ?_, fun ws' e => by cases e; rfl⟩
  · obtain ⟨w, hwm, rfl⟩ := List.mem_map.mp hv
    rw [txt_tx]
    refine ⟨rfl, ?_⟩
    have := hw w hwm
    unfold wordB at this
    rw [Bool.and_eq_true, decide_eq_true_eq] at this
    omega
  · have e : (ws.map tx).map txtV = ws.map some := by
      rw [List.map_map]
      refine List.map_congr_left fun w _ => ?_
      exact txt_tx w
    rw [e]
    unfold wordsB
    rw [List.length_map, decide_eq_true l1, decide_eq_true l2]
    simp only [Bool.true_and, Option.isSome_some, Bool.and_eq_true, decide_eq_true_eq]
    refine ⟨?_, ?_⟩
    · rw [List.all_map, List.all_eq_true]
      exact fun w hwm => hw w hwm
    · exact nodup_some nd
def sp_are_words (K : PySem.W.Frag) : Sp := fun vs H Q _ => ∃ (x : V) (m : Nat) (o : Option (List (List Nat))), vs = [x, .int m] ∧ WArg K H x m o ∧ ∀ H', Same H H' → Q (.bl o.isSome) H'
theorem ok_are_words : FnOk P w K mg base CX0 3 T.f_are_words T.fd_are_words ["value", "most"] (sp_are_words K) := by
  refine T.F_are_words.ok sc_are_words (fun vs H Q E h => ?_) (fun cdv A outer s H vs Q E hr h => ?_)
  · obtain ⟨x, m, o, rfl, _⟩ := h
    rfl
  · obtain ⟨x, m, o, rfl, h, q⟩ := h
    refine ⟨_, (pss_cons (ps_if (PW.pt (pw_or (pt_not (pt_val (pe_call (ok_is_list T) (hr.mono (by decide)) (by rfl) T.g_is_list T.F_is_list.kp T.b_is_list .nil pass0 (pa_cons (pv 0) pa_nil)))) (pw_or1 (pt_not (pt_chain op_le op_le pe_int (pe_callB call_len_seq (by rfl) T.m_len PySem.boot_len (pa_cons (pv 0) pa_nil)) (pv 1))))))
      (pss_one (ps_ret pe_bl))
      pss_nil)
    (pss_one (ps_ret (pe_and (pe_callB (cr_all rfl) (by rfl) T.m_all (by decide +kernel) (pa_cons (pe_lc (own := [("word", 2)]) rfl sc_are_words.nd (pi_seq (pv 0)) (blkOk_by (own := [("word", 2)]) (N := ["value", "most", "word"]) (sc := defScope s_are_words) (by decide +kernel)) (fun _ _ _ _ _ => (pg_name (i := 2) sc_are_words.nd rfl (.inl rfl))) (fun _ _ _ _ _ => pts_nil) (fun _ _ _ _ _ => (pe_call (ok_is_word T) (hr.mono (by decide)) (by rfl) T.g_is_word T.F_is_word.kp T.b_is_word .nil pass0 (pa_cons (pv 2) pa_nil)))) pa_nil)) (pe_one (pe_cmpR op_eq (pe_lenSetN (by rfl) T.m_len (by rfl) T.m_set (pv 0)) (pe_callB call_len_seq (by rfl) T.m_len PySem.boot_len (pa_cons (pv 0) pa_nil)) (nomark _))))))), ?_⟩
    rcases h with ⟨rfl, n, ht, hk⟩ | ⟨a, ws, rfl, hq, hl, hw, hb, _⟩
    · refine go_seq (go_if (go_or2 (go_not (go_b ⟨x, rfl, x, n, false, rfl, ht, hk, fun H1 e1 => ⟨_, rfl, iteT (B := _) (iteT (B := _) (go_ret (q H1 e1)))⟩⟩))))
    · obtain ⟨n, ht, hk⟩ := isl_q hq
      refine go_seq (go_if (go_or2 (go_not (go_b ⟨_, rfl, _, n, true, rfl, ht, hk, fun H1 e1 => ⟨_, rfl, iteF (A := _) ?_⟩⟩))))
      have hb' : (decide (1 ≤ ws.length) && decide (ws.length ≤ m) && (ws.all wordV && decide (ws.map txtV).Nodup)) = o.isSome := by
        rw [← hb]
        unfold wordsB
        rw [List.length_map, List.all_map]
        rfl
      have f1 : decide ((1 : Int) ≤ (ws.length : Int)) = decide (1 ≤ ws.length) := by
        by_cases h : 1 ≤ ws.length
        · rw [decide_eq_true h, decide_eq_true (by omega)]
        · rw [decide_eq_false h, decide_eq_false (by omega)]
      have f2 : decide ((ws.length : Int) ≤ (m : Int)) = decide (ws.length ≤ m) := by
        by_cases h : ws.length ≤ m
        · rw [decide_eq_true h, decide_eq_true (by omega)]
        · rw [decide_eq_false h, decide_eq_false (by omega)]
      refine go_not (go_test (go_chain (go_c (go_cb (go_cons (go_var rfl (go_nil ⟨a, ws, rfl, Same.q e1 hq, ?_⟩)))))))
      refine ⟨_, _, rfl, rfl, _, rfl, ?_⟩
      rw [f1]
      refine iteC (fun h1 => ?_) (fun h1 => ?_)
      · refine go_var rfl ⟨_, _, rfl, rfl, _, rfl, ?_⟩
        rw [f2]
        rw [h1, Bool.true_and] at hb'
        refine iteC (fun h2 => ?_) (fun h2 => ?_)
        · have h2 : decide (ws.length ≤ m) = false := by simpa using h2
          rw [h2, Bool.false_and] at hb'
          rw [← hb'] at q
          exact go_ret (q H1 e1)
        · have h2 : decide (ws.length ≤ m) = true := by simpa using h2
          rw [h2, Bool.true_and] at hb'
          dsimp only [tNext]
          refine go_ret (go_and (go_cb (go_cons (lc_seqmap (a := a) (xs := ws) (fun v => .bl (wordV v)) (by exact rfl) (Same.q e1 hq) (by omega) (fun i v Hc Q' R' hv e2 q' => ?_) (fun D Hc e2 hD => ?_)))))
          · refine ⟨rfl, ?_⟩
            refine iteT (B := True) ?_
            exact ⟨_, rfl, v, txtV v, rfl, ((hw v (List.mem_of_getElem? hv)).same e1).same e2, q' Hc (Same.refl _)⟩
          · refine ⟨D, ws.map wordV, rfl, .inl (.inl (by rw [hD, List.map_map]; rfl)), ?_⟩
            rw [List.all_map]
            refine ⟨_, rfl, iteC (fun h3 => ?_) (fun h3 => ?_)⟩
            · have h3 : ws.all wordV = true := h3
              rw [h3, Bool.true_and] at hb'
              obtain ⟨ls, e3, e4⟩ := words_strs ws h3
              refine go_op ⟨_, rfl, a, ls.map S, rfl, ?_, ?_, ?_⟩
              · have : (ls.map S).map V.str = ws := by
                  rw [List.map_map, e3]
                  rfl
                rw [this]
                exact Same.q (e1.trans e2) hq
              · rw [List.length_map]
                rw [e3, List.length_map] at hl
                exact hl
              refine go_cb (go_cons (go_var rfl (go_nil ⟨a, ws, rfl, Same.q (e1.trans e2) hq, rfl, ?_⟩)))
              have e5 : decide (V.int ((onceS (ls.map S)).length : Nat) = V.int (ws.length : Nat)) = o.isSome := by
                rw [← hb', e4]
                have hz : ws.length = (ls.map S).length := by rw [e3, List.length_map, List.length_map]
                have h := (onceS_nodup (ls.map S)).trans (nodup_map_S ls)
                by_cases hd : (ls.map some).Nodup
                · rw [decide_eq_true hd, decide_eq_true]
                  rw [h.mpr hd, hz]
                · rw [decide_eq_false hd, decide_eq_false]
                  intro e
                  injection e with e
                  exact hd (h.mp (by omega))
              rw [e5]
              exact q _ (e1.trans e2)
            · have h3 : ws.all wordV = false := h3
              rw [h3, Bool.false_and] at hb'
              rw [← hb'] at q
              exact q _ (e1.trans e2)
      · rw [h1, Bool.false_and, Bool.false_and] at hb'
        rw [← hb'] at q
        exact ⟨_, rfl, iteT (B := _) (go_ret (q H1 e1))⟩
/-! ### Book -/
def BookAt (K : PySem.W.Frag) (C : Addr) (H : Hp) (p : Addr) (ws : List (List Nat)) : Prop := ∃ dx t, H p = some (.ins C dx [("words", .ref t)]) ∧ SqT K H t (ws.map tx) ∧ TupN K H t
theorem BookAt.same {C : Addr} {H H' : Hp} {p : Addr} {ws : List (List Nat)} (e : Same H H') (h : BookAt K C H p ws) : BookAt K C H' p ws := by
  obtain ⟨dx, t, h1, h2, h3⟩ := h
  exact ⟨dx, t, e _ _ h1, Same.t e h2, h3.same e⟩
theorem BookAt.ext {C : Addr} {H H' : Hp} {p : Addr} {ws : List (List Nat)} (e : ExtN H H') (h : BookAt K C H p ws) : BookAt K C H' p ws := by
  obtain ⟨dx, t, h1, h2, h3⟩ := h
  exact ⟨dx, t, ext_at e h1, sqT_ext e h2, h3.ext e⟩
def WSeq (K : PySem.W.Frag) (H : Hp) (x : V) (ws : List (List Nat)) : Prop := ∃ a, x = .ref a ∧ (SqL K H a (ws.map tx) ∨ (SqT K H a (ws.map tx) ∧ TupN K H a))
theorem WSeq.same {H H' : Hp} {x : V} {ws : List (List Nat)} (e : Same H H') (h : WSeq K H x ws) : WSeq K H' x ws := by
  obtain ⟨a, h1, h2 | ⟨h2, h3⟩⟩ := h
  · exact ⟨a, h1, .inl (e.seq h2)⟩
  · exact ⟨a, h1, .inr ⟨Same.t e h2, h3.same e⟩⟩
theorem BookAt.put {C : Addr} {H : Hp} {p q : Addr} {ws : List (List Nat)} {xs : List V} {o : HO} (hq : H q = some (.lst xs)) (h : BookAt K C H p ws) : BookAt K C (upd H q o) p ws := by
  obtain ⟨dx, t, h1, h2, h3⟩ := h
  refine ⟨dx, t, by rw [upd_ne (ne_of_two h1 hq (fun z => by cases z))]; exact h1, ?_, ?_⟩
  · rcases h2 with (h | ⟨ob, h⟩) | h
    · exact .inl (.inl (by rw [upd_ne (ne_of_two h hq (fun z => by cases z))]; exact h))
    · exact .inl (.inr ⟨ob, by rw [upd_ne (ne_of_two h hq (fun z => by cases z))]; exact h⟩)
    · exact .inr h
  · rcases h3 with ⟨ob, ys, h, d⟩ | h
    · exact .inl ⟨ob, ys, by rw [upd_ne (ne_of_two h hq (fun z => by cases z))]; exact h, d⟩
    · exact .inr h
def sp_Book_init (K : PySem.W.Frag) (C CB : Addr) : Sp := fun vs H Q E => ∃ (p dx : Addr) (x : V) (o : Option (List (List Nat))), vs = [.ref p, x] ∧ H p = some (.ins C dx []) ∧ WArg K H x 40 o ∧ (∀ ws, o = some ws → WSeq K H x ws) ∧ (o = none → RaisedPart E CB H "words") ∧
  ∀ ws, o = some ws → ∀ H', (∀ b u, H b = some u → b ≠ p → H' b = some u) → BookAt K C H' p ws → Q .non H'
theorem ok_Book_init : FnOk P w K mg base (L2.CX P w) 6 T.f_Book_init T.fd_Book_init ["self", "words"] (sp_Book_init K T.C_Book T.e_BadBook.C) := by
  refine T.F_Book_init.okX sc_Book_init (fun vs H Q E h => ?_) (fun cdv A outer s H vs Q E hr h => ?_)
  · obtain ⟨p, dx, x, o, rfl, _⟩ := h
    rfl
  · obtain ⟨p, dx, x, o, rfl, hp, hW, hN, he, q⟩ := h
    refine ⟨_, (pss_cons (ps_if (pt_not (pt_val (pe_call (ok_are_words T) (hr.mono (by decide)) (by rfl) T.g_are_words T.F_are_words.kp T.b_are_words .nil pass0 (pa_cons (pv 1) (pa_cons (pe_glob (v := .int 40) (by rfl) T.c_MOST_WORDS ⟨_, rfl⟩) pa_nil)))))
      (pss_one (ps_raise rfl (takes_of rfl rfl rfl rfl) (pmk_oex T.e_BadBook.oex T.e_BadBook.iC T.e_BadBook.tI (ok_init T.e_BadBook in_BadBook) (hr.mono (by decide)) T.e_BadBook.b .nil pass0 (by rfl) T.e_BadBook.gC (pa_cons pe_str pa_nil))))
      pss_nil)
    (pss_one (ps_fld (pv 0) (pe_callTy call_tuple_frz (by rfl) T.m_tuple (by decide +kernel) (pa_cons (pv 1) pa_nil)) rfl))), ?_⟩
    refine go_seq (go_if (go_not (go_b ⟨x, rfl, x, 40, o, rfl, hW, fun H1 e1 => ⟨_, rfl, ?_⟩⟩)))
    cases o with
    | none =>
      refine iteT (B := _) ?_
      exact mk_part T.e_BadBook.oex T.e_BadBook.np fun d H' e2 hd => he rfl d H' (e1.trans e2) hd
    | some ws =>
      refine iteF (A := _) ?_
      dsimp only [tNext]
      obtain ⟨a, rfl, hq⟩ := hN ws rfl
      have hp1 := e1 _ _ hp
      rcases hq with hq | ⟨hq, hn⟩
      · refine ⟨_, rfl, a, _, rfl, .inl ⟨e1.seq hq, fun t ob nt hd => ?_⟩⟩
        have hpt : p ≠ t := ne_of_none hp1 nt
        refine ⟨_, rfl, p, T.C_Book, dx, [], rfl, by rw [upd_ne hpt]; exact hp1, T.cl_Book, T.na_Book_words, by show 0 < 1000; decide, ?_⟩
        refine q ws rfl _ (fun b u hb hne => ?_) ⟨dx, t, upd_same, .inl (.inr ⟨ob, by rw [upd_ne (Ne.symm hpt), upd_same]⟩), .inl ⟨ob, _, by rw [upd_ne (Ne.symm hpt), upd_same], hd⟩⟩
        have hb1 := e1 _ _ hb
        rw [upd_ne hne, upd_ne (ne_of_none hb1 nt)]
        exact hb1
      · have hn := hn.same e1
        have hq1 := Same.t e1 hq
        refine ⟨_, rfl, a, _, rfl, .inr ⟨hq1, ?_⟩⟩
        refine ⟨_, rfl, p, T.C_Book, dx, [], rfl, hp1, T.cl_Book, T.na_Book_words, by show 0 < 1000; decide, ?_⟩
        refine q ws rfl _ (fun b u hb hne => ?_) ⟨dx, a, upd_same, sqT_put hp1 hq1, tupN_put hp1 hn⟩
        rw [upd_ne hne]
        exact e1 _ _ hb
/-- Book(x), x right words -/
theorem book_new {E : XK} {C CB x dx : Addr} {H : Hp} {v : V} {ws : List (List Nat)} {P : VK} (nx : H x = none) (ndx : H dx = none) (hW : WArg K H v 40 (some ws)) (hS : WSeq K H v ws) (q : ∀ H', Same H H' → BookAt K C H' x ws → P .non H') :
    sp_Book_init K C CB [.ref x, v] (upd (upd H dx (.own x)) x (.ins C dx [])) P E := by
  have s1 : Same H (upd (upd H dx (.own x)) x (.ins C dx [])) := fun b u h => by
    rw [upd_ne (ne_of_none h nx), upd_ne (ne_of_none h ndx)]
    exact h
  refine ⟨x, dx, v, some ws, rfl, upd_same, hW.same s1, fun ws' e => ?_, (fun e => by cases e), fun ws' e H' keep hb => q H' (fun b u h => keep b u (s1 _ _ h) (ne_of_none h nx)) ?_⟩
  · cases e
    exact hS.same s1
  · cases e
    exact hb
/-- Book(x), x no words -/
theorem book_none {E : XK} {C CB x dx : Addr} {H : Hp} {v : V} {P : VK} (nx : H x = none) (ndx : H dx = none) (hW : WArg K H v 40 none) (he : ∀ d H', Same H H' → H' d = some (.xd [("part", .str "words")]) → E (.ref CB) (some d) H') :
    sp_Book_init K C CB [.ref x, v] (upd (upd H dx (.own x)) x (.ins C dx [])) P E := by
  have s1 : Same H (upd (upd H dx (.own x)) x (.ins C dx [])) := fun b u h => by
    rw [upd_ne (ne_of_none h nx), upd_ne (ne_of_none h ndx)]
    exact h
  exact ⟨x, dx, v, none, rfl, upd_same, hW.same s1, fun ws' e => (by cases e), fun _ d H' e hd => he d H' (s1.trans e) hd, fun ws' e => by cases e⟩
/-! ### the plain words -/
def plainT : List Str := ["outset", "uplift", "advance", "prepare", "augment", "lessen", "multiply", "portion", "exchange", "inquire", "proclaim", "obtain", "cipher", "single", "couple", "tripled", "quarter", "fivefold", "hexagon", "weekday", "nothing", "duplicate", "deposit", "whether", "negative", "granted", "otherwise", "anyway", "journey", "finish"]
def plainL : List (List Nat) := plainT.map fun s => s.cps.toList
theorem plain_tx : plainT.map V.str = plainL.map tx := by
  unfold plainL tx
  rw [List.map_map]
  exact List.map_congr_left fun s _ => by
    show V.str s = V.str (S s.cps.toList)
    rw [S_of]
theorem plain_len : plainL.length = 30 := by decide +kernel
theorem plain_word : ∀ w ∈ plainL, wordB w = true := by decide +kernel
theorem plain_nodup : plainL.Nodup := by decide +kernel
theorem plain_cd : ∀ w ∈ plainL, cdC w := by
  have h : plainL.all (fun l => l.all fun c => decide (c < 1114112)) = true := by decide +kernel
  exact fun w hw => List.all_eq_true.mp h w hw
theorem plain_at (H : Hp) : SqT K H T.D_PLAIN_WORDS (plainL.map tx) := by
  rw [← plain_tx]
  exact T.tD_PLAIN_WORDS H
def sp_plain_book (K : PySem.W.Frag) (CB : Addr) : Sp := fun vs H Q _ => vs = [] ∧ ∀ (p : Addr) (H' : Hp), Same H H' → BookAt K CB H' p plainL → Q (.ref p) H'
theorem ok_plain_book : FnOk P w K mg base CX0 8 T.f_plain_book T.fd_plain_book [] (sp_plain_book K T.C_Book) := by
  refine T.F_plain_book.ok sc_plain_book (fun vs H Q E h => ?_) (fun cdv A outer s H vs Q E hr h => ?_)
  · obtain ⟨rfl, _⟩ := h
    rfl
  · obtain ⟨rfl, q⟩ := h
    refine ⟨_, (pss_one (ps_ret (pe_make T.mk_Book (ok_Book_init T) (hr.mono (by decide)) (by rfl) T.gC_Book T.b_Book_init .nil passF (pa_cons (pe_glob (v := .ref T.D_PLAIN_WORDS) (by rfl) T.gD_PLAIN_WORDS rfl) pa_nil)))), ?_⟩
    refine go_ret (go_make (go_cons (go_c (go_nil fun x dx nx ndx _ => ?_))))
    have hT := plain_at T H
    have h30 := plain_len
    refine book_new nx ndx (words_arg (.inr hT) (by omega) (by omega) (by decide) plain_word plain_nodup) ⟨_, rfl, .inr ⟨hT, ?_⟩⟩ fun H' e hb => ⟨rfl, q x H' e hb⟩
    exact .inr T.nD_PLAIN_WORDS
/-! ### read -/
/-- the dict of a book's words -/
def kvN : Nat → List (List Nat) → List (Key × V)
  | _, [] => []
  | i, w :: r => (.inr (S w), .int (i : Nat)) :: kvN (i + 1) r
theorem kvN_snoc : ∀ (i : Nat) (ws : List (List Nat)) (w : List Nat), kvN i (ws ++ [w]) = kvN i ws ++ [(.inr (S w), .int ((i + ws.length : Nat) : Int))]
  | i, [], w => rfl
  | i, x :: r, w => by
    show _ :: kvN (i + 1) (r ++ [w]) = _ :: (kvN (i + 1) r ++ _)
    rw [kvN_snoc (i + 1) r w, show i + 1 + r.length = i + (x :: r).length by rw [List.length_cons]; omega]
theorem S_inj {a b : List Nat} (h : S a = S b) : a = b := by
  have := congrArg (fun z : Str => z.cps.toList) h
  simpa [S] using this
theorem kvN_any : ∀ (i : Nat) (ws : List (List Nat)) (w : List Nat), w ∉ ws → ((kvN i ws).any fun kv => decide (kv.1 = (.inr (S w) : Key))) = false
  | _, [], _, _ => rfl
  | i, x :: r, w, h => by
    show (decide ((Sum.inr (S x) : Key) = .inr (S w)) || (kvN (i + 1) r).any fun kv => decide (kv.1 = (.inr (S w) : Key))) = false
    rw [kvN_any (i + 1) r w (fun m => h (List.mem_cons_of_mem _ m)), decide_eq_false fun e => h (by injection e with e; rw [S_inj e]; exact List.mem_cons_self)]
    rfl
theorem kvN_put {i : Nat} {ws : List (List Nat)} {w : List Nat} (h : w ∉ ws) : putK (kvN i ws) (.inr (S w)) (.int ((i + ws.length : Nat) : Int)) = kvN i (ws ++ [w]) := by
  unfold putK
  rw [kvN_any i ws w h, kvN_snoc]
  rfl
theorem kvN_len : ∀ (i : Nat) (ws : List (List Nat)), (kvN i ws).length = ws.length
  | _, [] => rfl
  | i, x :: r => by
    show (kvN (i + 1) r).length + 1 = _
    rw [kvN_len (i + 1) r, List.length_cons]
/-- the number of a word -/
def numOf : Nat → List (List Nat) → List Nat → Option Nat
  | _, [], _ => none
  | i, w :: r, x => if w = x then some i else numOf (i + 1) r x
theorem kvN_val : ∀ (i : Nat) (ws : List (List Nat)) (x : List Nat), valV (kvN i ws) (.inr (S x)) = (numOf i ws x).map fun k : Nat => V.int k
  | _, [], _ => rfl
  | i, w :: r, x => by
    have ih := kvN_val (i + 1) r x
    rw [show numOf i (w :: r) x = if w = x then some i else numOf (i + 1) r x from rfl]
    unfold valV at *
    show ((((Sum.inr (S w) : Key), V.int (i : Nat)) :: kvN (i + 1) r).find? fun kv => decide (kv.1 = (.inr (S x) : Key))).map (·.2) = _
    rw [List.find?_cons]
    by_cases e : w = x
    · rw [if_pos e, e]
      simp
    · rw [if_neg e, decide_eq_false fun z => e (by injection z with z; exact S_inj z)]
      exact ih
/-- the numbers that are read of a text -/
def readN (ws : List (List Nat)) (l : List Nat) : List Nat := (itemsA [] l).filterMap (numOf 0 ws)
def sp_read (K : PySem.W.Frag) (CB ET : Addr) : Sp := fun vs H Q E => ∃ (bk : Addr) (ws : List (List Nat)) (y : V) (o : Option (List Nat)), vs = [.ref bk, y] ∧ BookAt K CB H bk ws ∧ ws.length ≤ 40 ∧ ws.Nodup ∧ StrIs K H y o ∧
  (o.elim false textB = false → RaisedPart E ET H "text") ∧ ∀ l, o = some l → textB l = true → ∀ p H', H' p = some (.tup ((readN ws l).map fun s : Nat => V.int s)) → Same H H' → Q (.ref p) H'
theorem ok_read : FnOk P w K mg base (L2.CX P w) 6 T.f_read T.fd_read ["book", "text"] (sp_read K T.C_Book T.e_BadText.C) := by
  refine T.F_read.okX sc_read (fun vs H Q E h => ?_) (fun cdv A outer s H vs Q E hr h => ?_)
  · obtain ⟨bk, ws, y, o, rfl, _⟩ := h
    rfl
  · obtain ⟨bk, ws, y, o, rfl, ⟨dx, t, hb, ht, htn⟩, l2, nd, hy, hE, q⟩ := h
    refine ⟨_, (pss_cons (ps_if (pt_not (pt_val (pe_callB call_isi (by rfl) T.m_isinstance (by decide +kernel) (pa_cons (pv 0) (pa_cons (pe_glob (v := .ref T.C_Book) (by rfl) T.gC_Book rfl) pa_nil)))))
      (pss_one (ps_raise rfl (takes_of rfl rfl rfl rfl) (pmk_oex T.e_BadBook.oex T.e_BadBook.iC T.e_BadBook.tI (ok_init T.e_BadBook in_BadBook) (hr.mono (by decide)) T.e_BadBook.b .nil pass0 (by rfl) T.e_BadBook.gC (pa_cons pe_str pa_nil))))
      pss_nil)
    (pss_cons (ps_if (pt_not (pt_val (pe_call (ok_is_text T) (hr.mono (by decide)) (by rfl) T.g_is_text T.F_is_text.kp T.b_is_text .nil pass0 (pa_cons (pv 1) pa_nil))))
      (pss_one (ps_raise rfl (takes_of rfl rfl rfl rfl) (pmk_oex T.e_BadText.oex T.e_BadText.iC T.e_BadText.tI (ok_init T.e_BadText in_BadText) (hr.mono (by decide)) T.e_BadText.b .nil pass0 (by rfl) T.e_BadText.gC (pa_cons pe_str pa_nil))))
      pss_nil)
    (pss_cons (ps_set (i := 4) sc_read.nd rfl (.inr rfl) (pe_dc (own := [("number", 2), ("word", 3)]) rfl sc_read.nd (pi_enumT (by rfl) T.m_enumerate (pa_cons (pe_fld (pv 0) rfl) pa_nil)) (blkOk_by (own := [("number", 2), ("word", 3)]) (N := ["book", "text", "number", "word", "numbers", "item"]) (sc := defScope s_read) (by decide +kernel)) (fun _ _ _ _ _ => (inK_pg_tup (K := K) (n := 2) (t := (gCons (gName 2) (gCons (gName 3) gNil))) rfl rfl (pgs_cons (pg_name (i := 2) sc_read.nd rfl (.inl rfl)) (pgs_cons (pg_name (i := 3) sc_read.nd rfl (.inl rfl)) pgs_nil)))) (fun _ _ _ _ _ => pts_nil) (fun _ _ _ _ _ => (pv 3)) (fun _ _ _ _ _ => (pv 2))))
    (pss_one (ps_ret (pe_callTy call_tuple_of (by rfl) T.m_tuple (by decide +kernel) (pa_cons (pe_lc (own := [("item", 5)]) rfl sc_read.nd (pi_list (pe_split (pv 1) pe_str)) (blkOk_by (own := [("item", 5)]) (N := ["book", "text", "number", "word", "numbers", "item"]) (sc := defScope s_read) (by decide +kernel)) (fun _ _ _ _ _ => (pg_name (i := 5) sc_read.nd rfl (.inl rfl))) (fun _ _ _ _ _ => pts_one (pt_cmp (pc_din (Nat.lt_of_le_of_lt (Nat.add_le_add_left (show 1 ≤ 64 by decide) _) hr.units) (pv 5) (pv 4)) rfl)) (fun _ _ _ _ _ => (pe_dget (Nat.lt_of_le_of_lt (Nat.add_le_add_left (show 1 ≤ 64 by decide) _) hr.units) (pv 4) (pv 5) (fun _ _ => rfl)))) pa_nil))))))), ?_⟩
    refine go_seq (go_if (go_not (go_b ⟨_, rfl, .ref bk, .ref T.C_Book, _, _, true, rfl, .own _, .base (.ins hb T.cl_Book T.oc_Book T.on_Book T.ot_Book T.ob_Book), kitOne_self, _, rfl, iteF (A := _) ?_⟩)))
    dsimp only [tNext]
    refine go_seq (go_if (go_not (go_b ⟨_, rfl, y, o, rfl, hy, _, rfl, ?_⟩)))
    cases hbt : o.elim false textB with
    | false =>
      refine iteT (B := _) ?_
      exact mk_part T.e_BadText.oex T.e_BadText.np (hE hbt)
    | true =>
      refine iteF (A := _) ?_
      cases o with
      | none => cases hbt
      | some l =>
        obtain ⟨rfl, hl⟩ := hy
        dsimp only [tNext]
        have lt : (ws.map tx).length = ws.length := List.length_map ..
        refine go_seq (go_asg ⟨_, rfl, bk, T.C_Book, dx, _, .ref t, rfl, hb, T.cl_Book, T.na_Book_words, rfl, t, _, rfl, ht, fun D nD => dc_it (walk_enumT (xs := ws.map tx)) (fun i H' => H' D = some (.dK (kvN 0 (ws.take i))) ∧ Same H H') ⟨upd_same, same_new nD⟩ (fun i Hc _ h => Same.t h.2 ht) (fun i x Hc Hx hi h y => ?_) (fun Hc h => ?_)⟩)
        · obtain ⟨t', x', rfl, nt, rfl, hx⟩ := y
          obtain ⟨w, hw, rfl⟩ := map_at hx
          obtain ⟨hD, e⟩ := h
          have hi' : i < ws.length := by omega
          have hDt : D ≠ t' := ne_of_none hD nt
          refine ⟨t', _, rfl, .inl (.inl upd_same), rfl, _, _, rfl, _, _, rfl, rfl, rfl, ?_⟩
          refine iteT (B := True) ?_
          refine ⟨_, rfl, _, rfl, kvN 0 (ws.take i), .inr (S w), rfl, by rw [upd_ne hDt]; exact hD, ?_, ?_, ?_⟩
          · rw [kvN_len, List.length_take]
            exact Nat.lt_of_le_of_lt (Nat.min_le_left _ _) (Nat.lt_of_lt_of_le (show i < 41 by omega) (by decide))
          · have hwi : ws[i] = w := by
              rw [List.getElem?_eq_getElem hi'] at hw
              exact Option.some.inj hw
            have hn : w ∉ ws.take i := fun m => by
              have nd2 := nd
              rw [← List.take_append_drop i ws, List.drop_eq_getElem_cons hi', hwi, List.nodup_append] at nd2
              exact nd2.2.2 w m w List.mem_cons_self rfl
            have ln : (ws.take i).length = i := by rw [List.length_take]; omega
            have := kvN_put (i := 0) hn
            rw [ln, Nat.zero_add] at this
            rw [upd_same, this, List.take_add_one, hw]
            rfl
          · exact same_set (e.trans (same_new nt)) nD
        obtain ⟨hD, e⟩ := h
        rw [lt, List.take_length] at hD
        dsimp only [gName]
        refine go_ret (go_cb (go_cons ⟨_, rfl, ⟨_, rfl⟩, S l, " ", rfl, rfl, rfl, by rw [S_len]; exact Nat.le_trans (Nat.add_le_add_right hl 2) (by decide : 1000000 + 2 ≤ sizeLine), fun p np => ?_⟩))
        rw [split_items]
        have eV : ((itemsA [] l).map S).map V.str = (itemsA [] l).map fun it => V.str (S it) := by
          rw [List.map_map]
          rfl
        rw [eV]
        have il : (itemsA [] l).length ≤ 1000000 := by
          have h1 : textB l = true := hbt
          unfold textB at h1
          rw [Bool.and_eq_true, decide_eq_true_eq] at h1
          have h3 := List.count_le_length (a := 32) (l := l)
          rw [items_length]
          omega
        have hD1 := same_new (o := HO.lst ((itemsA [] l).map fun it => V.str (S it))) np _ _ hD
        have e1 := e.trans (same_new (o := HO.lst ((itemsA [] l).map fun it => V.str (S it))) np)
        have hp1 := upd_same (H := Hc) (a := p) (o := HO.lst ((itemsA [] l).map fun it => V.str (S it)))
        generalize upd Hc p (HO.lst ((itemsA [] l).map fun it => V.str (S it))) = H1 at hD1 e1 hp1 ⊢
        refine ⟨p, rfl, ⟨_, .inl (.inl hp1)⟩, fun D2 nD2 => lc_keep (walk_list (xs := (itemsA [] l).map fun it => V.str (S it))) ((itemsA [] l).map fun it => (numOf 0 ws it).map fun k : Nat => V.int k) (by rw [List.length_map, List.length_map]) nD2 (by rw [List.length_map]; exact il) (fun Hd e2 => .inl (.inl (e2 _ _ hp1))) (fun i x z Hd Hx Q' R' _ hzi e2 y q' r' => ?_) (fun Hd e2 hD2 => ?_)⟩
        · obtain ⟨rfl, hx⟩ := y
          obtain ⟨it, hit, rfl⟩ := map_at hx
          obtain ⟨it2, hit2, rfl⟩ := map_at hzi
          rw [hit] at hit2
          cases hit2
          have hDd := e2 _ _ hD1
          have gd := DGet.k (k := .inr (S it)) hDd
          rw [kvN_val] at gd
          refine ⟨rfl, ?_⟩
          refine ⟨_, rfl, _, rfl, D, _, rfl, gd, _, rfl, ?_⟩
          cases hk : numOf 0 ws it with
          | none =>
            refine iteF (A := _) ?_
            exact r' _ (by rw [hk]; rfl) (Same.refl _)
          | some k =>
            rw [hk] at gd
            refine iteT (B := _) ?_
            exact ⟨_, rfl, _, rfl, D, _, rfl, gd, q' _ _ (by rw [hk]; rfl) (Same.refl _)⟩
        · have eR : (((itemsA [] l).map fun it => (numOf 0 ws it).map fun k : Nat => V.int k).filterMap id) = (readN ws l).map fun s : Nat => V.int s := by
            unfold readN
            rw [List.filterMap_map, List.map_filterMap]
            rfl
          rw [eR] at hD2
          refine go_nil ⟨D2, _, rfl, .inl ⟨.inl (.inl hD2), fun t2 nt => ?_⟩⟩
          exact q l rfl hbt t2 _ upd_same ((e1.trans e2).trans (same_new nt))
end
end K54
namespace K54
open PySem PySem.Spec PyProof.Rows L2 Kx SX LamX Ms
section
variable {P : Program} {w : World} {K : PySem.W.Frag} {mg : Str → Option Value} {base : Heap} (T : Tx K mg)
/-! ### draws -/
def sp_law_tine (K : PySem.W.Frag) : Sp := fun vs H Q _ => ∃ (a c : Addr) (m : Int) (n : Nat), vs = [.ref a, .int m] ∧ 0 < m ∧ m ≤ 1000000 ∧ Wh H a c n ∧ n < 1000000 ∧ ∀ (r : Int) (H' : Hp), 0 ≤ r → r < m → Mv a H H' → Wh H' a c (n + 1) → Q (.int r) H'
theorem ok_law_tine : FnOk P w K mg base CX0 1 T.f_law_tine T.fd_law_tine ["fork", "many"] (sp_law_tine K) := by
  refine T.F_law_tine.ok sc_law_tine (fun vs H Q E h => ?_) (fun cdv A outer s H vs Q E hr h => ?_)
  · obtain ⟨a, c, m, n, rfl, _⟩ := h
    rfl
  · obtain ⟨a, c, m, n, rfl, hm, hM, ⟨cs, t, l, h1, h2, h3, h4, h5⟩, hn, q⟩ := h
    refine ⟨_, (pss_cons (ps_if (pt_cmpR (op_eqE hr.units) (pe_ix ix_list (pv 0) pe_int (fun _ _ => rfl)) (pe_lst pa_nil) (nomark _))
      (pss_one (ps_ret pe_int))
      pss_nil)
    (pss_cons (ps_if (pt_cmpR op_gt (pe_ix ix_list (pv 0) pe_int (fun _ _ => rfl)) pe_int (nomark _))
      (pss_cons (ps_set (i := 2) sc_law_tine.nd rfl (.inl rfl) (pe_callTy call_int1 (by rfl) T.m_int (by decide +kernel) (pa_cons (pe_ix ix_list (pv 0) pe_int (fun _ _ => rfl)) pa_nil)))
      (pss_cons (ps_asg (pe_op op_fdivN (pv 2) (pv 1)) (pg_sub (pv 0) pe_int set_list))
      (pss_one (ps_ret (pe_op op_modN (pe_callTy call_int1 (by rfl) T.m_int (by decide +kernel) (pa_cons (pv 2) pa_nil)) (pv 1))))))
      pss_nil)
    (pss_cons (ps_set (i := 3) sc_law_tine.nd rfl (.inl rfl) (pe_ix ix_list (pv 0) pe_int (fun _ _ => rfl)))
    (pss_cons (ps_asg (pe_op op_add (pv 3) pe_int) (pg_sub (pv 0) pe_int set_list))
    (pss_cons (ps_set (i := 4) sc_law_tine.nd rfl (.inl rfl) (pe_ix ix_list (pe_ix ix_list (pv 0) pe_int (fun _ _ => rfl)) (pe_op op_modN (pe_callTy call_int1 (by rfl) T.m_int (by decide +kernel) (pa_cons (pv 3) pa_nil)) (pe_callB call_len_seq (by rfl) T.m_len PySem.boot_len (pa_cons (pe_ix ix_list (pv 0) pe_int (fun _ _ => rfl)) pa_nil))) (fun _ _ => rfl)))
    (pss_cons (ps_if (PW.pt (pw_and (pt_cmpR op_lt (pv 3) (pe_callB call_len_seq (by rfl) T.m_len PySem.boot_len (pa_cons (pe_ix ix_list (pv 0) pe_int (fun _ _ => rfl)) pa_nil)) (nomark _)) (pw_and1 (pt_cmpR op_ge (pe_callB call_abs (by rfl) T.m_abs (by decide +kernel) (pa_cons (pv 4) pa_nil)) (pe_op op_pow pe_int pe_int) (nomark _)))))
      (pss_cons (ps_set (i := 2) sc_law_tine.nd rfl (.inl rfl) (pe_op op_add (pe_op op_mul pe_int (pe_op op_sub (pe_callB call_abs (by rfl) T.m_abs (by decide +kernel) (pa_cons (pv 4) pa_nil)) (pe_op op_pow pe_int pe_int))) (pe_callTy call_int1 (by rfl) T.m_int (by decide +kernel) (pa_cons (pe_cmpR op_lt (pv 4) pe_int (nomark _)) pa_nil))))
      (pss_cons (ps_asg (pe_op op_fdivN (pe_callTy call_int1 (by rfl) T.m_int (by decide +kernel) (pa_cons (pv 2) pa_nil)) (pv 1)) (pg_sub (pv 0) pe_int set_list))
      (pss_one (ps_ret (pe_op op_modN (pe_callTy call_int1 (by rfl) T.m_int (by decide +kernel) (pa_cons (pv 2) pa_nil)) (pv 1))))))
      pss_nil)
    (pss_cons (ps_set (i := 5) sc_law_tine.nd rfl (.inl rfl) (pe_op op_modN (pe_callTy call_int1 (by rfl) T.m_int (by decide +kernel) (pa_cons (pe_op op_pow (pe_op op_add (pe_op op_add (pe_op op_modN (pe_callTy call_int1 (by rfl) T.m_int (by decide +kernel) (pa_cons (pv 4) pa_nil)) pe_int) (pe_op op_mul pe_int (pv 3))) pe_int) pe_int) pa_nil)) pe_int))
    (pss_cons (ps_set (i := 5) sc_law_tine.nd rfl (.inl rfl) (pe_op op_modN (pe_callTy call_int1 (by rfl) T.m_int (by decide +kernel) (pa_cons (pe_op op_pow (pe_op op_add (pe_op op_add (pe_op op_mul (pv 5) (pe_op op_add (pe_op op_mul pe_int (pv 3)) pe_int)) (pe_op op_mul (pe_op op_mul pe_int (pv 3)) (pv 3))) pe_int) pe_int) pa_nil)) pe_int))
    (pss_one (ps_ret (pe_op op_modN (pe_callTy call_int1 (by rfl) T.m_int (by decide +kernel) (pa_cons (pe_op op_fdivN (pv 5) pe_int) pa_nil)) (pv 1)))))))))))), ?_⟩
    have hac := wh_ac h1 h2
    have m0 : m ≠ 0 := by omega
    have mS : m.natAbs < 1073741824 := by omega
    have fin : ∀ (x y z : Int) (H' : Hp), Mv a H H' → H' a = some (.lst [.ref c, .int y, .int z]) → 0 ≤ y → y ≤ n + 1 → Q (.int (x.fmod m)) H' := fun x y z H' mv ha y0 y1 =>
      q _ _ (Int.fmod_nonneg_of_pos _ hm) (Int.fmod_lt_of_pos _ hm) mv ⟨cs, y, z, ha, mv c _ (fun e => hac e.symm) h2, h3, y0, by omega⟩
    refine ⟨_, rfl, a, _, 0, .ref c, rfl, rfl, .inl (.inl h1), rfl, Nat.zero_le _, fun p np => ⟨c, p, _, rfl, rfl, same_new np _ _ h2, upd_same, _, rfl, iteC (fun e => ?_) (fun e => ?_)⟩⟩
    · exact q 0 _ (Int.le_refl _) hm (Mv.of (same_new np)) ⟨cs, t, l, same_new np _ _ h1, same_new np _ _ h2, h3, h4, by omega⟩
    have cs0 : cs ≠ [] := fun z => by
      rw [z] at e
      cases e
    have s0 := same_new (o := HO.lst []) np
    have mv0 : Mv a H (upd H p (HO.lst [])) := Mv.of s0
    have h1 := s0 _ _ h1
    have h2' := s0 _ _ h2
    generalize upd H p (HO.lst []) = H0 at mv0 h1 h2' ⊢
    clear e s0 np
    dsimp only [tNext]
    refine ⟨_, rfl, a, _, 2, .int l, rfl, rfl, .inl (.inl h1), rfl, _, _, rfl, rfl, _, rfl, iteC (fun e => ?_) (fun e => ?_)⟩
    · refine ⟨_, rfl, a, _, 2, .int l, rfl, rfl, .inl (.inl h1), rfl, .inl ⟨l, rfl, ?_⟩⟩
      refine ⟨_, rfl, _, rfl, l, m, rfl, rfl, ⟨m0, mS⟩, _, rfl, a, _, 2, 2, rfl, rfl, h1, rfl, ?_⟩
      refine ⟨_, rfl, .inl ⟨l, rfl, _, rfl, l, m, rfl, rfl, m0, ?_⟩⟩
      exact fin _ t (l.fdiv m) _ (mv0.trans (Mv.upd _ _ _)) upd_same h4 (by omega)
    clear e
    refine ⟨_, rfl, a, _, 1, .int t, rfl, rfl, .inl (.inl h1), rfl, ?_⟩
    refine ⟨_, rfl, t, 1, rfl, rfl, _, rfl, a, _, 1, 1, rfl, rfl, h1, rfl, ?_⟩
    generalize hH1 : upd H0 a (HO.lst ([V.ref c, .int t, .int l].set 1 (.int (t + 1)))) = H2
    have a2 : H2 a = some (.lst [.ref c, .int (t + 1), .int l]) := by rw [← hH1]; exact upd_same
    have c2 : H2 c = some (.lst (cs.map V.int)) := by rw [← hH1, upd_ne (fun e => hac e.symm)]; exact h2'
    have mv2 : Mv a H H2 := by rw [← hH1]; exact mv0.trans (Mv.upd _ _ _)
    have z0 : (0 : Int) < (cs.map V.int).length := by
      cases cs with
      | nil => exact absurd rfl cs0
      | cons x xs => simp
    obtain ⟨v, hv, ev⟩ : ∃ v, v ∈ cs.map V.int ∧ atI (cs.map V.int) (t.fmod ((cs.map V.int).length : Int)) = some v := at_lt (Int.fmod_nonneg_of_pos _ z0) (Int.fmod_lt_of_pos _ z0)
    obtain ⟨i, _, rfl⟩ := List.mem_map.mp hv
    have z : ((cs.map V.int).length : Int) ≠ 0 := by omega
    refine ⟨_, rfl, a, _, 0, .ref c, rfl, rfl, .inl (.inl a2), rfl, ?_⟩
    refine ⟨_, rfl, .inl ⟨t, rfl, ?_⟩⟩
    refine ⟨_, rfl, a, _, 0, .ref c, rfl, rfl, .inl (.inl a2), rfl, c, _, rfl, .inl (.inl (.inl c2)), ?_⟩
    refine ⟨t, _, rfl, rfl, z, c, _, _, _, rfl, rfl, .inl (.inl c2), ev, ?_⟩
    refine genI (P := fun v => gName 4 v _ _ _) (fun cell => ?_)
    refine ⟨_, rfl, _, rfl, a, _, 0, .ref c, rfl, rfl, .inl (.inl a2), rfl, c, _, rfl, .inl (.inl (.inl c2)), _, _, rfl, rfl, _, rfl, cutP (fun _ r => iteF r) (fun r e => ?_) ?_⟩
    · refine ⟨_, rfl, cell, rfl, _, _, rfl, rfl, ⟨by decide, by decide, by decide⟩, _, _, rfl, rfl, _, rfl, iteC (fun e2 => ?_) (fun e2 => r)⟩
      refine ⟨_, rfl, cell, rfl, _, _, rfl, rfl, ⟨by decide, by decide, by decide⟩, _, _, rfl, rfl, _, _, rfl, rfl, .inl ⟨by decide, by decide⟩, _, rfl, _, _, rfl, rfl, .inr ⟨_, rfl, _, _, rfl, rfl, ?_⟩⟩
      refine genI (P := fun v => gName 2 v _ _ _) (fun rest => ?_)
      refine ⟨_, rfl, .inl ⟨rest, rfl, _, rfl, _, _, rfl, rfl, ⟨m0, mS⟩, _, rfl, a, _, 2, 2, rfl, rfl, a2, rfl, ?_⟩⟩
      refine ⟨_, rfl, .inl ⟨rest, rfl, _, rfl, _, _, rfl, rfl, m0, ?_⟩⟩
      exact fin _ (t + 1) _ _ (mv2.trans (Mv.upd _ _ _)) upd_same (by omega) (by omega)
    · refine ⟨_, rfl, .inl ⟨cell, rfl, _, _, rfl, rfl, (by show (_ : Int) ≠ 0; decide), _, rfl, _, _, rfl, rfl, .inl ⟨by decide, by decide⟩, _, _, rfl, rfl, _, _, rfl, rfl, _, _, rfl, rfl, ⟨by decide, by decide, bnd5 (by decide) (by decide) h4 (by omega) (by decide) (by decide) (by decide) (by decide)⟩, .inl ⟨_, rfl, _, _, rfl, rfl, (by show (_ : Int) ≠ 0; decide), ?_⟩⟩⟩
      refine genIB (P := fun v => gName 5 v _ _ _) (by decide) (fun m1 m1a m1b => ?_)
      have m1c : m1 ≤ 4294967296 := Int.le_trans (Int.le_of_lt m1b) (by decide)
      refine ⟨_, rfl, _, rfl, _, _, rfl, rfl, .inl ⟨by decide, by decide⟩, _, _, rfl, rfl, _, _, rfl, rfl, .inl ⟨by omega, by omega⟩, _, rfl, _, _, rfl, rfl, .inl ⟨by decide, by decide⟩, _, rfl, _, _, rfl, rfl, .inr ⟨by omega, by omega⟩, _, _, rfl, rfl, _, _, rfl, rfl, _, _, rfl, rfl, ⟨by decide, by decide, bnd3 m1a m1c h4 (by omega) (by decide) (by decide) (by decide) (by decide) (by decide) (by decide)⟩, .inl ⟨_, rfl, _, _, rfl, rfl, (by show (_ : Int) ≠ 0; decide), ?_⟩⟩
      refine genI (P := fun v => gName 5 v _ _ _) (fun m2 => ?_)
      refine ⟨_, rfl, _, _, rfl, rfl, ⟨by decide, by decide⟩, .inl ⟨_, rfl, _, rfl, _, _, rfl, rfl, m0, ?_⟩⟩
      exact fin _ (t + 1) _ _ mv2 a2 (by omega) (by omega)
/-- one of some things -/
def sp_law_one_of (K : PySem.W.Frag) : Sp := fun vs H Q _ => ∃ (a b c : Addr) (xs : List V) (n : Nat), vs = [.ref a, .ref b] ∧ SqL K H b xs ∧ xs ≠ [] ∧ xs.length ≤ 1000000 ∧ Wh H a c n ∧ n < 1000000 ∧ (∀ H', Mv a H H' → SqL K H' b xs) ∧ ∀ (v : V) (H' : Hp), v ∈ xs → Mv a H H' → Wh H' a c (n + 1) → Q v H'
theorem ok_law_one_of : FnOk P w K mg base CX0 2 T.f_law_one_of T.fd_law_one_of ["fork", "some"] (sp_law_one_of K) := by
  refine T.F_law_one_of.ok sc_law_one_of (fun vs H Q E h => ?_) (fun cdv A outer s H vs Q E hr h => ?_)
  · obtain ⟨a, b, c, xs, n, rfl, _⟩ := h
    rfl
  · obtain ⟨a, b, c, xs, n, rfl, hs, hx, hl, hw, hn, hm, q⟩ := h
    refine ⟨_, (pss_one (ps_ret (pe_ix ix_list (pv 1) (pe_call (ok_law_tine T) (hr.mono (by decide)) (by rfl) T.g_law_tine T.F_law_tine.kp T.b_law_tine .nil pass0 (pa_cons (pv 0) (pa_cons (pe_callB call_len_seq (by rfl) T.m_len PySem.boot_len (pa_cons (pv 1) pa_nil)) pa_nil))) (fun _ _ => rfl)))), ?_⟩
    have z : 0 < xs.length := by
      cases xs with
      | nil => exact absurd rfl hx
      | cons x t => simp
    refine ⟨_, rfl, _, rfl, _, rfl, b, xs, rfl, .inl hs, a, c, _, n, rfl, by omega, by omega, hw, hn, fun r H' r0 r1 mv w' => ?_⟩
    obtain ⟨v, hv, ev⟩ := at_lt r0 r1
    exact ⟨b, xs, r, v, rfl, rfl, hm _ mv, ev, q v H' hv mv w'⟩
def sp_law_fork (K : PySem.W.Frag) : Sp := fun vs H Q _ => ∃ (b : Addr) (xs : List Int), vs = [.ref b] ∧ SqL K H b (xs.map V.int) ∧ ∀ (a c : Addr) (H' : Hp), H a = none → Same H H' → Wh H' a c 0 → Q (.ref a) H'
theorem ok_law_fork : FnOk P w K mg base CX0 1 T.f_law_fork T.fd_law_fork ["script"] (sp_law_fork K) := by
  refine T.F_law_fork.ok sc_law_fork (fun vs H Q E h => ?_) (fun cdv A outer s H vs Q E hr h => ?_)
  · obtain ⟨b, xs, rfl, _⟩ := h
    rfl
  · obtain ⟨b, xs, rfl, hs, q⟩ := h
    refine ⟨_, (pss_one (ps_ret (pe_lst (pa_cons (pe_lc (own := [("cell", 1)]) rfl sc_law_fork.nd (pi_list (pe_slice sl_list (pv 0) po_none (po_some pe_int))) (blkOk_by (own := [("cell", 1)]) (N := ["script", "cell"]) (sc := defScope s_law_fork) (by decide +kernel)) (fun _ _ _ _ _ => (pg_name (i := 1) sc_law_fork.nd rfl (.inl rfl))) (fun _ _ _ _ _ => pts_nil) (fun _ _ _ _ _ => (pe_callTy call_int1 (by rfl) T.m_int (by decide +kernel) (pa_cons (pv 1) pa_nil)))) (pa_cons pe_int (pa_cons pe_int pa_nil)))))), ?_⟩
    refine ⟨_, rfl, _, rfl, b, _, rfl, hs, fun p np => ?_⟩
    have hc : cutV (xs.map V.int) none (some 60) = (xs.take 60).map V.int := by
      rw [List.map_take]
      exact cut_to _ 60
    rw [hc]
    refine ⟨p, rfl, ⟨_, .inl (.inl upd_same)⟩, fun D nD => lc_mapL id (.inl (.inl upd_same)) nD (by rw [List.length_map, List.length_take]; omega) (fun i x Hc Q' R' hx e1 q' => ?_) (fun Hc e1 hD => ?_)⟩
    · obtain ⟨j, _, rfl⟩ := List.mem_map.mp (List.mem_of_getElem? hx)
      refine ⟨rfl, ?_⟩
      refine iteT (B := True) ?_
      exact ⟨_, rfl, .inl ⟨j, rfl, q' Hc (Same.refl _)⟩⟩
    · rw [List.map_id] at hD
      have s0 := (same_new np).trans e1
      refine ⟨by show 3 ≤ sizeLine; decide, fun a na => q a D _ (s0.free na) (s0.trans (same_new na)) ⟨xs.take 60, 0, 0, upd_same, (same_new na) _ _ hD, ?_, by omega, by omega⟩⟩
      rw [List.length_take]
      omega
end
end K54
namespace K54
open PySem PySem.Spec PyProof.Rows L2 Kx SX LamX Ms
section
variable {P : Program} {w : World} {K : PySem.W.Frag} {mg : Str → Option Value} {base : Heap} (T : Tx K mg)
def sp_Work_init (K : PySem.W.Frag) (CW : Addr) : Sp := fun vs H Q _ => ∃ (p dx nl : Addr), vs = [.ref p, .ref nl] ∧ H p = some (.ins CW dx []) ∧
  ∀ (H' : Hp) (pc ps : Addr), H pc = none → H ps = none → Mv p H H' → H' p = some (.ins CW dx (workF startM nl pc ps)) → H' pc = some (.dK []) → H' ps = some (.lst []) → Q .non H'
theorem ok_Work_init : FnOk P w K mg base CX0 1 T.f_Work_init T.fd_Work_init ["self", "numbers"] (sp_Work_init K T.C_Work) := by
  refine T.F_Work_init.ok sc_Work_init (fun vs H Q E h => ?_) (fun cdv A outer s H vs Q E hr h => ?_)
  · obtain ⟨p, dx, nl, rfl, _⟩ := h
    rfl
  · obtain ⟨p, dx, nl, rfl, hp, q⟩ := h
    refine ⟨_, (pss_cons (ps_fld (pv 0) (pv 1) rfl)
    (pss_cons (ps_fld (pv 0) (pe_un un_neg pe_int) rfl)
    (pss_cons (ps_fld (pv 0) pe_int rfl)
    (pss_cons (ps_fld (pv 0) pe_bl rfl)
    (pss_cons (ps_fld (pv 0) pe_bl rfl)
    (pss_cons (ps_fld (pv 0) pe_bl rfl)
    (pss_cons (ps_fld (pv 0) (pe_glob (v := .int 2) (by rfl) T.c_MODE_ANYWAY ⟨_, rfl⟩) rfl)
    (pss_cons (ps_fld (pv 0) pe_int rfl)
    (pss_cons (ps_fld (pv 0) pe_int rfl)
    (pss_cons (ps_fld (pv 0) pe_dnewK rfl)
    (pss_cons (ps_fld (pv 0) pe_int rfl)
    (pss_cons (ps_fld (pv 0) (pe_lst pa_nil) rfl)
    (pss_one (ps_fld (pv 0) pe_bl rfl)))))))))))))), ?_⟩
    refine go_seq (go_sfld (go_var rfl (set_end (K := K) rfl hp (Mv.refl p H) T.cl_Work T.na_Work_numbers (by show 0 < 1000; decide) fun H0 m0 h0 => ?_)))
    dsimp only
    refine go_seq (go_sfld ⟨_, rfl, set_end (K := K) rfl h0 (m0) T.cl_Work T.na_Work_block (by show 1 < 1000; decide) fun H1 m1 h1 => ?_⟩)
    dsimp only
    refine go_seq (go_sfld (set_end (K := K) rfl h1 (m1) T.cl_Work T.na_Work_room (by show 2 < 1000; decide) fun H2 m2 h2 => ?_))
    dsimp only
    refine go_seq (go_sfld (set_end (K := K) rfl h2 (m2) T.cl_Work T.na_Work_tick (by show 3 < 1000; decide) fun H3 m3 h3 => ?_))
    dsimp only
    refine go_seq (go_sfld (set_end (K := K) rfl h3 (m3) T.cl_Work T.na_Work_flag (by show 4 < 1000; decide) fun H4 m4 h4 => ?_))
    dsimp only
    refine go_seq (go_sfld (set_end (K := K) rfl h4 (m4) T.cl_Work T.na_Work_test (by show 5 < 1000; decide) fun H5 m5 h5 => ?_))
    dsimp only
    refine go_seq (go_sfld (set_end (K := K) rfl h5 (m5) T.cl_Work T.na_Work_mode (by show 6 < 1000; decide) fun H6 m6 h6 => ?_))
    dsimp only
    refine go_seq (go_sfld (set_end (K := K) rfl h6 (m6) T.cl_Work T.na_Work_first (by show 7 < 1000; decide) fun H7 m7 h7 => ?_))
    dsimp only
    refine go_seq (go_sfld (set_end (K := K) rfl h7 (m7) T.cl_Work T.na_Work_second (by show 8 < 1000; decide) fun H8 m8 h8 => ?_))
    dsimp only
    refine go_seq (go_sfld fun pc npc => set_end (K := K) rfl (same_new npc _ _ h8) (Mv.refl p _) T.cl_Work T.na_Work_cells (by show 9 < 1000; decide) fun H9 m9 h9 => ?_)
    have pcp : pc ≠ p := fun e => by
      rw [e, h8] at npc
      cases npc
    have c9 := m9 _ _ pcp (upd_same (H := H8) (a := pc) (o := HO.dK []))
    have t9 : Mv p H H9 := m8.trans ((Mv.of (same_new npc)).trans m9)
    have n0 := m8.none pcp npc
    clear m9
    dsimp only
    refine go_seq (go_sfld (set_end (K := K) rfl h9 (Mv.refl p _) T.cl_Work T.na_Work_heard (by show 10 < 1000; decide) fun H10 m10 h10 => ?_))
    have c10 := m10 _ _ pcp c9
    have t10 := t9.trans m10
    dsimp only
    refine go_seq (go_sfld (go_lst (go_nil ⟨Nat.zero_le _, fun ps nps => set_end (K := K) rfl (same_new nps _ _ h10) (Mv.refl p _) T.cl_Work T.na_Work_said (by show 11 < 1000; decide) fun H11 m11 h11 => ?_⟩)))
    have psp : ps ≠ p := fun e => by
      rw [e, h10] at nps
      cases nps
    have s11 := m11 _ _ psp (upd_same (H := H10) (a := ps) (o := HO.lst []))
    have c11 := m11 _ _ pcp (same_new nps _ _ c10)
    have t11 : Mv p H H11 := t10.trans ((Mv.of (same_new nps)).trans m11)
    have n1 := t10.none psp nps
    dsimp only
    exact go_sfld (set_end (K := K) rfl h11 (Mv.refl p _) T.cl_Work T.na_Work_is_done (by show 12 < 1000; decide) fun H12 m12 h12 => q H12 pc ps n0 n1 (t11.trans m12) h12 (m12 _ _ pcp c11) (m12 _ _ psp s11))
def sp_deed (K : PySem.W.Frag) (CW : Addr) (n : Nat) : Sp := fun vs H Q _ => ∃ (w nl : Addr) (ns : List Int) (s : Mst) (m b : Nat) (dx pc ps : Addr) (es : List (Int × Int)) (H0 : Hp), vs = [.ref w] ∧ WorkAt K CW H0 H w nl ns s m dx pc ps es ∧ Bd b s ∧ b ≤ 4000 ∧ m < 90000 ∧
  ∀ H' es', WorkAt K CW H0 H' w nl ns (rawW ns s n) (m + 1) dx pc ps es' → Q .non H'
theorem ok_outset : FnOk P w K mg base CX0 1 T.f_outset T.fd_outset ["work"] (sp_deed K T.C_Work 0) := by
  refine T.F_outset.ok sc_outset (fun vs H Q E h => ?_) (fun cdv A outer s H vs Q E hr h => ?_)
  · obtain ⟨w, nl, ns, s, m, b, dx, pc, ps, es, H0, rfl, _⟩ := h
    rfl
  · obtain ⟨w, nl, ns, s, m, b, dx, pc, ps, es, H0, rfl, hw, hb, b4, m9, q⟩ := h
    refine ⟨_, (pss_one (ps_fld (pv 0) (pe_un un_neg pe_int) rfl)), ?_⟩
    exact go_sfld ⟨_, rfl, stW (K := K) (t := rawW ns s 0) rfl hw T.cl_Work T.na_Work_block rfl rfl rfl fun H' h' => q H' _ (h'.mono (Nat.le_succ _))⟩
theorem ok_uplift : FnOk P w K mg base CX0 1 T.f_uplift T.fd_uplift ["work"] (sp_deed K T.C_Work 1) := by
  refine T.F_uplift.ok sc_uplift (fun vs H Q E h => ?_) (fun cdv A outer s H vs Q E hr h => ?_)
  · obtain ⟨w, nl, ns, s, m, b, dx, pc, ps, es, H0, rfl, _⟩ := h
    rfl
  · obtain ⟨w, nl, ns, s, m, b, dx, pc, ps, es, H0, rfl, hw, hb, b4, m9, q⟩ := h
    refine ⟨_, (pss_one (ps_fld (pv 0) pe_bl rfl)), ?_⟩
    exact go_sfld (stW (K := K) (t := rawW ns s 1) rfl hw T.cl_Work T.na_Work_tick rfl rfl rfl fun H' h' => q H' _ (h'.mono (Nat.le_succ _)))
theorem ok_prepare : FnOk P w K mg base CX0 1 T.f_prepare T.fd_prepare ["work"] (sp_deed K T.C_Work 3) := by
  refine T.F_prepare.ok sc_prepare (fun vs H Q E h => ?_) (fun cdv A outer s H vs Q E hr h => ?_)
  · obtain ⟨w, nl, ns, s, m, b, dx, pc, ps, es, H0, rfl, _⟩ := h
    rfl
  · obtain ⟨w, nl, ns, s, m, b, dx, pc, ps, es, H0, rfl, hw, hb, b4, m9, q⟩ := h
    refine ⟨_, (pss_one (ps_fld (pv 0) pe_bl rfl)), ?_⟩
    exact go_sfld (stW (K := K) (t := rawW ns s 3) rfl hw T.cl_Work T.na_Work_flag rfl rfl rfl fun H' h' => q H' _ (h'.mono (Nat.le_succ _)))
theorem ok_augment : FnOk P w K mg base CX0 1 T.f_augment T.fd_augment ["work"] (sp_deed K T.C_Work 4) := by
  refine T.F_augment.ok sc_augment (fun vs H Q E h => ?_) (fun cdv A outer s H vs Q E hr h => ?_)
  · obtain ⟨w, nl, ns, s, m, b, dx, pc, ps, es, H0, rfl, _⟩ := h
    rfl
  · obtain ⟨w, nl, ns, s, m, b, dx, pc, ps, es, H0, rfl, hw, hb, b4, m9, q⟩ := h
    refine ⟨_, (pss_one (ps_fld (pv 0) (pe_op op_add (pe_fld (pv 0) rfl) (pe_fld (pv 0) rfl)) rfl)), ?_⟩
    exact go_sfld (go_op (rdW (K := K) rfl hw T.cl_Work T.na_Work_first rfl (rdW (K := K) rfl hw T.cl_Work T.na_Work_second rfl (⟨_, _, rfl, rfl, stW (K := K) (t := rawW ns s 4) rfl hw T.cl_Work T.na_Work_first rfl rfl rfl fun H' h' => q H' _ (h'.mono (Nat.le_succ _))⟩))))
theorem ok_lessen : FnOk P w K mg base CX0 1 T.f_lessen T.fd_lessen ["work"] (sp_deed K T.C_Work 5) := by
  refine T.F_lessen.ok sc_lessen (fun vs H Q E h => ?_) (fun cdv A outer s H vs Q E hr h => ?_)
  · obtain ⟨w, nl, ns, s, m, b, dx, pc, ps, es, H0, rfl, _⟩ := h
    rfl
  · obtain ⟨w, nl, ns, s, m, b, dx, pc, ps, es, H0, rfl, hw, hb, b4, m9, q⟩ := h
    refine ⟨_, (pss_one (ps_fld (pv 0) (pe_op op_sub (pe_fld (pv 0) rfl) (pe_fld (pv 0) rfl)) rfl)), ?_⟩
    exact go_sfld (go_op (rdW (K := K) rfl hw T.cl_Work T.na_Work_first rfl (rdW (K := K) rfl hw T.cl_Work T.na_Work_second rfl (⟨_, _, rfl, rfl, stW (K := K) (t := rawW ns s 5) rfl hw T.cl_Work T.na_Work_first rfl rfl rfl fun H' h' => q H' _ (h'.mono (Nat.le_succ _))⟩))))
theorem ok_multiply : FnOk P w K mg base CX0 1 T.f_multiply T.fd_multiply ["work"] (sp_deed K T.C_Work 6) := by
  refine T.F_multiply.ok sc_multiply (fun vs H Q E h => ?_) (fun cdv A outer s H vs Q E hr h => ?_)
  · obtain ⟨w, nl, ns, s, m, b, dx, pc, ps, es, H0, rfl, _⟩ := h
    rfl
  · obtain ⟨w, nl, ns, s, m, b, dx, pc, ps, es, H0, rfl, hw, hb, b4, m9, q⟩ := h
    refine ⟨_, (pss_one (ps_fld (pv 0) (pe_op op_mulW (pe_fld (pv 0) rfl) (pe_fld (pv 0) rfl)) rfl)), ?_⟩
    exact go_sfld (go_op (rdW (K := K) rfl hw T.cl_Work T.na_Work_first rfl (rdW (K := K) rfl hw T.cl_Work T.na_Work_second rfl (⟨_, _, rfl, rfl, cmulW hb.first hb.second (by omega), stW (K := K) (t := rawW ns s 6) rfl hw T.cl_Work T.na_Work_first rfl rfl rfl fun H' h' => q H' _ (h'.mono (Nat.le_succ _))⟩))))
theorem ok_nothing : FnOk P w K mg base CX0 1 T.f_nothing T.fd_nothing ["work"] (sp_deed K T.C_Work 20) := by
  refine T.F_nothing.ok sc_nothing (fun vs H Q E h => ?_) (fun cdv A outer s H vs Q E hr h => ?_)
  · obtain ⟨w, nl, ns, s, m, b, dx, pc, ps, es, H0, rfl, _⟩ := h
    rfl
  · obtain ⟨w, nl, ns, s, m, b, dx, pc, ps, es, H0, rfl, hw, hb, b4, m9, q⟩ := h
    refine ⟨_, (pss_one (ps_fld (pv 0) pe_int rfl)), ?_⟩
    exact go_sfld (stW (K := K) (t := rawW ns s 20) rfl hw T.cl_Work T.na_Work_first rfl rfl rfl fun H' h' => q H' _ (h'.mono (Nat.le_succ _)))
theorem ok_duplicate : FnOk P w K mg base CX0 1 T.f_duplicate T.fd_duplicate ["work"] (sp_deed K T.C_Work 21) := by
  refine T.F_duplicate.ok sc_duplicate (fun vs H Q E h => ?_) (fun cdv A outer s H vs Q E hr h => ?_)
  · obtain ⟨w, nl, ns, s, m, b, dx, pc, ps, es, H0, rfl, _⟩ := h
    rfl
  · obtain ⟨w, nl, ns, s, m, b, dx, pc, ps, es, H0, rfl, hw, hb, b4, m9, q⟩ := h
    refine ⟨_, (pss_one (ps_fld (pv 0) (pe_fld (pv 0) rfl) rfl)), ?_⟩
    exact go_sfld (rdW (K := K) rfl hw T.cl_Work T.na_Work_first rfl (stW (K := K) (t := rawW ns s 21) rfl hw T.cl_Work T.na_Work_second rfl rfl rfl fun H' h' => q H' _ (h'.mono (Nat.le_succ _))))
theorem ok_finish : FnOk P w K mg base CX0 1 T.f_finish T.fd_finish ["work"] (sp_deed K T.C_Work 29) := by
  refine T.F_finish.ok sc_finish (fun vs H Q E h => ?_) (fun cdv A outer s H vs Q E hr h => ?_)
  · obtain ⟨w, nl, ns, s, m, b, dx, pc, ps, es, H0, rfl, _⟩ := h
    rfl
  · obtain ⟨w, nl, ns, s, m, b, dx, pc, ps, es, H0, rfl, hw, hb, b4, m9, q⟩ := h
    refine ⟨_, (pss_one (ps_fld (pv 0) pe_bl rfl)), ?_⟩
    exact go_sfld (stW (K := K) (t := rawW ns s 29) rfl hw T.cl_Work T.na_Work_is_done rfl rfl rfl fun H' h' => q H' _ (h'.mono (Nat.le_succ _)))
theorem ok_advance : FnOk P w K mg base CX0 1 T.f_advance T.fd_advance ["work"] (sp_deed K T.C_Work 2) := by
  refine T.F_advance.ok sc_advance (fun vs H Q E h => ?_) (fun cdv A outer s H vs Q E hr h => ?_)
  · obtain ⟨w, nl, ns, s, m, b, dx, pc, ps, es, H0, rfl, _⟩ := h
    rfl
  · obtain ⟨w, nl, ns, s, m, b, dx, pc, ps, es, H0, rfl, hw, hb, b4, m9, q⟩ := h
    refine ⟨_, (pss_one (ps_if (pt_val (pe_fld (pv 0) rfl))
      (pss_cons (ps_fld (pv 0) (pe_op op_add (pe_fld (pv 0) rfl) pe_int) rfl)
      (pss_one (ps_fld (pv 0) pe_bl rfl)))
      pss_nil)), ?_⟩
    refine go_if (go_b (rdW (K := K) rfl hw T.cl_Work T.na_Work_tick rfl (⟨_, rfl, iteC (fun e => ?_) (fun e => ?_)⟩)))
    · have e2 : rawW ns s 2 = { s with block := s.block + 1, tick := false } := by
        show ({ s with block := if s.tick = true then s.block + 1 else s.block, tick := false } : Mst) = _
        rw [if_pos e]
      refine go_seq (go_sfld (go_op (rdW (K := K) rfl hw T.cl_Work T.na_Work_block rfl (⟨_, _, rfl, rfl, stW (K := K) (t := { s with block := s.block + 1 }) rfl hw T.cl_Work T.na_Work_block rfl rfl rfl fun H' h' => ?_⟩))))
      dsimp only
      exact go_sfld (stW (K := K) (t := { s with block := s.block + 1, tick := false }) rfl h' T.cl_Work T.na_Work_tick rfl rfl rfl fun H2 h2 => q H2 _ (e2 ▸ h2.mono (Nat.le_succ _)))
    · have e2 : rawW ns s 2 = s := by
        show ({ s with block := if s.tick = true then s.block + 1 else s.block, tick := false } : Mst) = _
        rw [if_neg (by rw [e]; decide)]
        cases s
        cases e
        rfl
      exact q H _ (e2.symm ▸ hw.mono (Nat.le_succ _))
theorem ok_portion : FnOk P w K mg base CX0 1 T.f_portion T.fd_portion ["work"] (sp_deed K T.C_Work 7) := by
  refine T.F_portion.ok sc_portion (fun vs H Q E h => ?_) (fun cdv A outer s H vs Q E hr h => ?_)
  · obtain ⟨w, nl, ns, s, m, b, dx, pc, ps, es, H0, rfl, _⟩ := h
    rfl
  · obtain ⟨w, nl, ns, s, m, b, dx, pc, ps, es, H0, rfl, hw, hb, b4, m9, q⟩ := h
    refine ⟨_, (pss_one (ps_fld (pv 0) (pe_ifExp (pt_cmpR op_eq (pe_fld (pv 0) rfl) pe_int (nomark _)) pe_int (pe_op op_fdivA (pe_fld (pv 0) rfl) (pe_fld (pv 0) rfl))) rfl)), ?_⟩
    refine go_sfld (go_ife (go_test (go_op (rdW (K := K) rfl hw T.cl_Work T.na_Work_second rfl (⟨rfl, _, rfl, ?_⟩)))))
    rw [decI]
    by_cases z : s.second = 0
    · have e2 : rawW ns s 7 = { s with first := 0 } := by
        show ({ s with first := if s.second = 0 then 0 else s.first.fdiv s.second } : Mst) = _
        rw [if_pos z]
      rw [decide_eq_true z]
      exact iteT (B := _) (stW (K := K) (t := { s with first := 0 }) rfl hw T.cl_Work T.na_Work_first rfl rfl rfl fun H' h' => q _ _ (e2 ▸ h'.mono (Nat.le_succ _)))
    · have e2 : rawW ns s 7 = { s with first := s.first.fdiv s.second } := by
        show ({ s with first := if s.second = 0 then 0 else s.first.fdiv s.second } : Mst) = _
        rw [if_neg z]
      rw [decide_eq_false z]
      exact iteF (A := _) (go_op (rdW (K := K) rfl hw T.cl_Work T.na_Work_first rfl (rdW (K := K) rfl hw T.cl_Work T.na_Work_second rfl (⟨_, _, rfl, rfl, cdivA hb.second z (by omega), stW (K := K) (t := { s with first := s.first.fdiv s.second }) rfl hw T.cl_Work T.na_Work_first rfl rfl rfl fun H' h' => q _ _ (e2 ▸ h'.mono (Nat.le_succ _))⟩))))
theorem ok_exchange : FnOk P w K mg base CX0 1 T.f_exchange T.fd_exchange ["work"] (sp_deed K T.C_Work 8) := by
  refine T.F_exchange.ok sc_exchange (fun vs H Q E h => ?_) (fun cdv A outer s H vs Q E hr h => ?_)
  · obtain ⟨w, nl, ns, s, m, b, dx, pc, ps, es, H0, rfl, _⟩ := h
    rfl
  · obtain ⟨w, nl, ns, s, m, b, dx, pc, ps, es, H0, rfl, hw, hb, b4, m9, q⟩ := h
    refine ⟨_, (pss_one (ps_asg (pe_tup (pa_cons (pe_fld (pv 0) rfl) (pa_cons (pe_fld (pv 0) rfl) pa_nil))) (pg_tup rfl (pgs_cons (pg_fld (pv 0)) (pgs_cons (pg_fld (pv 0)) pgs_nil))))), ?_⟩
    refine go_asg (go_tup (go_cons (rdW (K := K) rfl hw T.cl_Work T.na_Work_second rfl (go_cons (rdW (K := K) rfl hw T.cl_Work T.na_Work_first rfl (go_nil ⟨sz2, fun p np => ?_⟩))))))
    have hw1 := hw.same (same_new (o := HO.tup [V.int s.second, V.int s.first]) np)
    refine ⟨p, _, rfl, .inl (.inl upd_same), rfl, _, _, rfl, ?_⟩
    exact stG (K := K) (t := { s with first := s.second }) rfl hw1 T.cl_Work T.na_Work_first rfl rfl rfl fun H1 h1 => ⟨_, _, rfl, stG (K := K) (t := rawW ns s 8) rfl h1 T.cl_Work T.na_Work_second rfl rfl rfl fun H2 h2 => ⟨rfl, q H2 _ (h2.mono (Nat.le_succ _))⟩⟩
theorem ok_inquire : FnOk P w K mg base CX0 1 T.f_inquire T.fd_inquire ["work"] (sp_deed K T.C_Work 9) := by
  refine T.F_inquire.ok sc_inquire (fun vs H Q E h => ?_) (fun cdv A outer s H vs Q E hr h => ?_)
  · obtain ⟨w, nl, ns, s, m, b, dx, pc, ps, es, H0, rfl, _⟩ := h
    rfl
  · obtain ⟨w, nl, ns, s, m, b, dx, pc, ps, es, H0, rfl, hw, hb, b4, m9, q⟩ := h
    refine ⟨_, (pss_one (ps_if (pt_cmpR op_lt (pe_fld (pv 0) rfl) (pe_callB call_len_seq (by rfl) T.m_len PySem.boot_len (pa_cons (pe_fld (pv 0) rfl) pa_nil)) (nomark _))
      (pss_cons (ps_fld (pv 0) (pe_ix ix_seq (pe_fld (pv 0) rfl) (pe_fld (pv 0) rfl) (fun _ _ => rfl)) rfl)
      (pss_one (ps_fld (pv 0) (pe_op op_add (pe_fld (pv 0) rfl) pe_int) rfl)))
      (pss_one (ps_fld (pv 0) pe_int rfl)))), ?_⟩
    refine go_if (go_test (go_op (rdW (K := K) rfl hw T.cl_Work T.na_Work_heard rfl (go_cb (go_cons (rdW (K := K) rfl hw T.cl_Work T.na_Work_numbers rfl (go_nil ⟨nl, _, rfl, hw.nums, _, _, rfl, rfl, _, rfl, iteC (fun e => ?_) (fun e => ?_)⟩)))))))
    · have e := of_decide_eq_true e
      rw [List.length_map] at e
      have e : s.heard < ns.length := by omega
      have e2 : rawW ns s 9 = { s with first := ns.getD s.heard 0, heard := s.heard + 1 } := by
        show ({ s with first := if s.heard < ns.length then ns.getD s.heard 0 else 0, heard := if s.heard < ns.length then s.heard + 1 else s.heard } : Mst) = _
        rw [if_pos e, if_pos e]
      refine go_seq (go_sfld (go_op (rdW (K := K) rfl hw T.cl_Work T.na_Work_numbers rfl (rdW (K := K) rfl hw T.cl_Work T.na_Work_heard rfl (ix_q hw.nums (num_at e) (stW (K := K) (t := { s with first := ns.getD s.heard 0 }) rfl hw T.cl_Work T.na_Work_first rfl rfl rfl fun H' h' => ?_))))))
      dsimp only
      refine go_sfld (go_op (rdW (K := K) rfl h' T.cl_Work T.na_Work_heard rfl ⟨_, _, rfl, rfl, ?_⟩))
      exact stW (K := K) (t := { s with first := ns.getD s.heard 0, heard := s.heard + 1 }) rfl h' T.cl_Work T.na_Work_heard rfl rfl rfl fun H2 h2 => q H2 _ (e2 ▸ h2.mono (Nat.le_succ _))
    · have e := of_decide_eq_false e
      rw [List.length_map] at e
      have e : ¬ s.heard < ns.length := by omega
      have e2 : rawW ns s 9 = { s with first := 0 } := by
        show ({ s with first := if s.heard < ns.length then ns.getD s.heard 0 else 0, heard := if s.heard < ns.length then s.heard + 1 else s.heard } : Mst) = _
        rw [if_neg e, if_neg e]
      exact go_sfld (stW (K := K) (t := { s with first := 0 }) rfl hw T.cl_Work T.na_Work_first rfl rfl rfl fun H' h' => q _ _ (e2 ▸ h'.mono (Nat.le_succ _)))
theorem ok_proclaim : FnOk P w K mg base CX0 1 T.f_proclaim T.fd_proclaim ["work"] (sp_deed K T.C_Work 10) := by
  refine T.F_proclaim.ok sc_proclaim (fun vs H Q E h => ?_) (fun cdv A outer s H vs Q E hr h => ?_)
  · obtain ⟨w, nl, ns, s, m, b, dx, pc, ps, es, H0, rfl, _⟩ := h
    rfl
  · obtain ⟨w, nl, ns, s, m, b, dx, pc, ps, es, H0, rfl, hw, hb, b4, m9, q⟩ := h
    refine ⟨_, (pss_one (ps_expr (pe_bm PySem.F.plainAttrs_list PySem.F.slot_list_append PySem.F.type_list_append mt_append (pe_fld (pv 0) rfl) (pa_cons (pe_fld (pv 0) rfl) pa_nil)))), ?_⟩
    refine go_drop (go_bm (rdW (K := K) rfl hw T.cl_Work T.na_Work_said rfl (⟨.inl ⟨rfl, _, .inl (.inl hw.sat)⟩, ?_⟩)))
    refine go_cons (rdW (K := K) rfl hw T.cl_Work T.na_Work_first rfl (go_nil ⟨ps, _, _, rfl, rfl, hw.sat, ?_, ?_⟩))
    · rw [List.length_map]
      exact Nat.lt_of_le_of_lt hw.sn (Nat.lt_trans m9 (by decide))
    · exact q _ _ (hw.say (t := rawW ns s 10) rfl rfl rfl)
theorem ok_obtain : FnOk P w K mg base CX0 1 T.f_obtain T.fd_obtain ["work"] (sp_deed K T.C_Work 11) := by
  refine T.F_obtain.ok sc_obtain (fun vs H Q E h => ?_) (fun cdv A outer s H vs Q E hr h => ?_)
  · obtain ⟨w, nl, ns, s, m, b, dx, pc, ps, es, H0, rfl, _⟩ := h
    rfl
  · obtain ⟨w, nl, ns, s, m, b, dx, pc, ps, es, H0, rfl, hw, hb, b4, m9, q⟩ := h
    refine ⟨_, (pss_one (ps_fld (pv 0) (pe_dget2 (Nat.lt_of_le_of_lt (Nat.add_le_add_left (show 1 ≤ 64 by decide) _) hr.units) (pe_fld (pv 0) rfl) (pe_fld (pv 0) rfl) pe_int ⟨by rfl, by rfl, by rfl, by rfl⟩) rfl)), ?_⟩
    refine go_sfld (rdW (K := K) rfl hw T.cl_Work T.na_Work_cells rfl (⟨pc, rfl, .inl ⟨_, .inl hw.cat⟩, rdW (K := K) rfl hw T.cl_Work T.na_Work_first rfl (⟨_, DGet.k (k := .inl s.first) hw.cat, ?_⟩)⟩))
    rw [cell_get hw.cl]
    exact stW (K := K) (t := rawW ns s 11) rfl hw T.cl_Work T.na_Work_first rfl rfl rfl fun H' h' => q H' _ (h'.mono (Nat.le_succ _))
theorem ok_deposit : FnOk P w K mg base CX0 1 T.f_deposit T.fd_deposit ["work"] (sp_deed K T.C_Work 22) := by
  refine T.F_deposit.ok sc_deposit (fun vs H Q E h => ?_) (fun cdv A outer s H vs Q E hr h => ?_)
  · obtain ⟨w, nl, ns, s, m, b, dx, pc, ps, es, H0, rfl, _⟩ := h
    rfl
  · obtain ⟨w, nl, ns, s, m, b, dx, pc, ps, es, H0, rfl, hw, hb, b4, m9, q⟩ := h
    refine ⟨_, (pss_one (ps_if (pt_cmpR op_ne (pe_fld (pv 0) rfl) pe_int (nomark _))
      (pss_one (ps_dput (Nat.lt_of_le_of_lt (Nat.add_le_add_left (show 1 ≤ 64 by decide) _) hr.units) (pe_fld (pv 0) rfl) (pe_fld (pv 0) rfl) (pe_fld (pv 0) rfl) (by rfl)))
      (pss_one (ps_if (pt_cmp (pc_din (Nat.lt_of_le_of_lt (Nat.add_le_add_left (show 1 ≤ 64 by decide) _) hr.units) (pe_fld (pv 0) rfl) (pe_fld (pv 0) rfl)) rfl)
        (pss_one (ps_ddel (pe_fld (pv 0) rfl) (pe_fld (pv 0) rfl)))
        pss_nil)))), ?_⟩
    refine go_if (go_test (go_op (rdW (K := K) rfl hw T.cl_Work T.na_Work_first rfl (⟨rfl, _, rfl, ?_⟩))))
    rw [decI]
    by_cases z : s.first = 0
    · rw [decide_eq_true z]
      refine iteF (A := _) (go_if (go_b (rdW (K := K) rfl hw T.cl_Work T.na_Work_second rfl (rdW (K := K) rfl hw T.cl_Work T.na_Work_cells rfl (⟨pc, _, rfl, DGet.k (k := .inl s.second) hw.cat, _, rfl, ?_⟩)))))
      rw [valV_kvI]
      have e2 : (rawW ns s 22).cells = putC s.cells s.second 0 := by
        show putC s.cells s.second s.first = _
        rw [z]
      cases hk : lkp es s.second with
      | none => exact iteF (A := _) (q H es { hw with cl := e2 ▸ hw.cl.skip hk, cn := Nat.le_succ_of_le hw.cn, sn := Nat.le_succ_of_le hw.sn })
      | some v =>
        refine iteT (B := _) (rdW (K := K) rfl hw T.cl_Work T.na_Work_cells rfl (rdW (K := K) rfl hw T.cl_Work T.na_Work_second rfl (⟨pc, _, .inl s.second, rfl, hw.cat, rfl, ?_, ?_⟩)))
        · rw [valV_kvI, hk]
          rfl
        · rw [dropK_kvI]
          refine q _ _ (hw.cell rfl rfl (e2 ▸ hw.cl.drop s.second) ?_)
          exact Nat.le_trans (List.length_filter_le ..) (Nat.le_succ_of_le hw.cn)
    · rw [decide_eq_false z]
      refine iteT (B := _) (rdW (K := K) rfl hw T.cl_Work T.na_Work_first rfl (rdW (K := K) rfl hw T.cl_Work T.na_Work_cells rfl (rdW (K := K) rfl hw T.cl_Work T.na_Work_second rfl (⟨pc, _, rfl, DPut.k (k := .inl s.second) hw.cat ?_, ?_⟩))))
      · rw [kvI_len]
        exact Nat.lt_of_le_of_lt hw.cn (Nat.lt_trans m9 (by decide))
      · rw [putK_kvI]
        exact q _ _ (hw.cell (t := rawW ns s 22) rfl rfl (hw.cl.put s.second z) (Nat.le_trans (putI_len ..) (Nat.succ_le_succ hw.cn)))
theorem ok_whether : FnOk P w K mg base CX0 1 T.f_whether T.fd_whether ["work"] (sp_deed K T.C_Work 23) := by
  refine T.F_whether.ok sc_whether (fun vs H Q E h => ?_) (fun cdv A outer s H vs Q E hr h => ?_)
  · obtain ⟨w, nl, ns, s, m, b, dx, pc, ps, es, H0, rfl, _⟩ := h
    rfl
  · obtain ⟨w, nl, ns, s, m, b, dx, pc, ps, es, H0, rfl, hw, hb, b4, m9, q⟩ := h
    refine ⟨_, (pss_one (ps_fld (pv 0) (pe_cmpR op_eq (pe_fld (pv 0) rfl) pe_int (nomark _)) rfl)), ?_⟩
    refine go_sfld (go_op (rdW (K := K) rfl hw T.cl_Work T.na_Work_first rfl (⟨rfl, ?_⟩)))
    rw [decI]
    exact stW (K := K) (t := rawW ns s 23) rfl hw T.cl_Work T.na_Work_test rfl rfl rfl fun H' h' => q H' _ (h'.mono (Nat.le_succ _))
theorem ok_negative : FnOk P w K mg base CX0 1 T.f_negative T.fd_negative ["work"] (sp_deed K T.C_Work 24) := by
  refine T.F_negative.ok sc_negative (fun vs H Q E h => ?_) (fun cdv A outer s H vs Q E hr h => ?_)
  · obtain ⟨w, nl, ns, s, m, b, dx, pc, ps, es, H0, rfl, _⟩ := h
    rfl
  · obtain ⟨w, nl, ns, s, m, b, dx, pc, ps, es, H0, rfl, hw, hb, b4, m9, q⟩ := h
    refine ⟨_, (pss_one (ps_fld (pv 0) (pe_cmpR op_lt (pe_fld (pv 0) rfl) pe_int (nomark _)) rfl)), ?_⟩
    exact go_sfld (go_op (rdW (K := K) rfl hw T.cl_Work T.na_Work_first rfl (⟨_, _, rfl, rfl, stW (K := K) (t := rawW ns s 24) rfl hw T.cl_Work T.na_Work_test rfl rfl rfl fun H' h' => q H' _ (h'.mono (Nat.le_succ _))⟩)))
theorem ok_journey : FnOk P w K mg base CX0 1 T.f_journey T.fd_journey ["work"] (sp_deed K T.C_Work 28) := by
  refine T.F_journey.ok sc_journey (fun vs H Q E h => ?_) (fun cdv A outer s H vs Q E hr h => ?_)
  · obtain ⟨w, nl, ns, s, m, b, dx, pc, ps, es, H0, rfl, _⟩ := h
    rfl
  · obtain ⟨w, nl, ns, s, m, b, dx, pc, ps, es, H0, rfl, hw, hb, b4, m9, q⟩ := h
    refine ⟨_, (pss_one (ps_if (PW.pt (pw_or (pt_cmpR op_eq (pe_fld (pv 0) rfl) (pe_glob (v := .int 2) (by rfl) T.c_MODE_ANYWAY ⟨_, rfl⟩) (nomark _)) (pw_or1 (pt_cmpR op_eq (pe_fld (pv 0) rfl) (pe_cmpR op_eq (pe_fld (pv 0) rfl) (pe_glob (v := .int 0) (by rfl) T.c_MODE_IF_SO ⟨_, rfl⟩) (nomark _)) (nomark _)))))
      (pss_one (ps_fld (pv 0) (pe_fld (pv 0) rfl) rfl))
      pss_nil)), ?_⟩
    refine go_if (go_or1 (go_test (go_op (rdW (K := K) rfl hw T.cl_Work T.na_Work_mode rfl (⟨rfl, _, rfl, ?_⟩)))))
    rw [decI]
    have fin : (s.mode = 2 ∨ s.test = decide (s.mode = 0)) → sFld K (tVar 0) (tFld K (tVar 0) "first") "room" { nx := fun x H' => Q V.non H', rt := Q } (L2.start ["work"] [V.ref w]) H := fun hy => by
      have e2 : rawW ns s 28 = { s with room := s.first } := by
        show ({ s with room := if s.mode = 2 ∨ s.test = decide (s.mode = 0) then s.first else s.room } : Mst) = _
        rw [if_pos hy]
      exact go_sfld (rdW (K := K) rfl hw T.cl_Work T.na_Work_first rfl (stW (K := K) (t := { s with room := s.first }) rfl hw T.cl_Work T.na_Work_room rfl rfl rfl fun H' h' => q _ _ (e2 ▸ h'.mono (Nat.le_succ _))))
    by_cases z : s.mode = 2
    · rw [decide_eq_true z]
      exact iteT (B := _) (iteT (B := _) (fin (.inl z)))
    · rw [decide_eq_false z]
      refine iteF (A := _) (go_test (go_op (rdW (K := K) rfl hw T.cl_Work T.na_Work_test rfl (go_op (rdW (K := K) rfl hw T.cl_Work T.na_Work_mode rfl (⟨rfl, rfl, _, rfl, ?_⟩))))))
      rw [decI, decB]
      by_cases y : s.test = decide (s.mode = 0)
      · rw [decide_eq_true y]
        exact iteT (B := _) (fin (.inr y))
      · rw [decide_eq_false y]
        have e2 : rawW ns s 28 = s := by
          show ({ s with room := if s.mode = 2 ∨ s.test = decide (s.mode = 0) then s.first else s.room } : Mst) = _
          rw [if_neg (fun o => o.elim z y)]
        exact iteF (A := _) (q H _ (e2.symm ▸ hw.mono (Nat.le_succ _)))
end
end K54
namespace K54
open PySem PySem.Spec PyProof.Rows L2 Kx SX LamX Ms
def deedF {K : PySem.W.Frag} {mg : Str → Option Value} (T : Tx K mg) : Nat → Addr
  | 0 => T.f_outset
  | 1 => T.f_uplift
  | 2 => T.f_advance
  | 3 => T.f_prepare
  | 4 => T.f_augment
  | 5 => T.f_lessen
  | 6 => T.f_multiply
  | 7 => T.f_portion
  | 8 => T.f_exchange
  | 9 => T.f_inquire
  | 10 => T.f_proclaim
  | 11 => T.f_obtain
  | 20 => T.f_nothing
  | 21 => T.f_duplicate
  | 22 => T.f_deposit
  | 23 => T.f_whether
  | 24 => T.f_negative
  | 28 => T.f_journey
  | 29 => T.f_finish
  | _ => T.f_outset
def isDeed (n : Nat) : Prop := n ≤ 11 ∨ (20 ≤ n ∧ n ≤ 24) ∨ n = 28 ∨ n = 29
theorem deeds_run {X : Cx} (T : Tx X.K X.mg) (hr : Room 1 X.A) {E : XK} : ∀ n, isDeed n → RunF X (deedF T n) (sp_deed X.K T.C_Work n) E := fun n hn => by
  unfold isDeed at hn
  have : n = 0 ∨ n = 1 ∨ n = 2 ∨ n = 3 ∨ n = 4 ∨ n = 5 ∨ n = 6 ∨ n = 7 ∨ n = 8 ∨ n = 9 ∨ n = 10 ∨ n = 11 ∨ n = 20 ∨ n = 21 ∨ n = 22 ∨ n = 23 ∨ n = 24 ∨ n = 28 ∨ n = 29 := by omega
  rcases this with rfl | rfl | rfl | rfl | rfl | rfl | rfl | rfl | rfl | rfl | rfl | rfl | rfl | rfl | rfl | rfl | rfl | rfl | rfl
  · exact RunF.of (ok_outset T) (hr.mono (by decide)) T.F_outset.kp T.b_outset pass0
  · exact RunF.of (ok_uplift T) (hr.mono (by decide)) T.F_uplift.kp T.b_uplift pass0
  · exact RunF.of (ok_advance T) (hr.mono (by decide)) T.F_advance.kp T.b_advance pass0
  · exact RunF.of (ok_prepare T) (hr.mono (by decide)) T.F_prepare.kp T.b_prepare pass0
  · exact RunF.of (ok_augment T) (hr.mono (by decide)) T.F_augment.kp T.b_augment pass0
  · exact RunF.of (ok_lessen T) (hr.mono (by decide)) T.F_lessen.kp T.b_lessen pass0
  · exact RunF.of (ok_multiply T) (hr.mono (by decide)) T.F_multiply.kp T.b_multiply pass0
  · exact RunF.of (ok_portion T) (hr.mono (by decide)) T.F_portion.kp T.b_portion pass0
  · exact RunF.of (ok_exchange T) (hr.mono (by decide)) T.F_exchange.kp T.b_exchange pass0
  · exact RunF.of (ok_inquire T) (hr.mono (by decide)) T.F_inquire.kp T.b_inquire pass0
  · exact RunF.of (ok_proclaim T) (hr.mono (by decide)) T.F_proclaim.kp T.b_proclaim pass0
  · exact RunF.of (ok_obtain T) (hr.mono (by decide)) T.F_obtain.kp T.b_obtain pass0
  · exact RunF.of (ok_nothing T) (hr.mono (by decide)) T.F_nothing.kp T.b_nothing pass0
  · exact RunF.of (ok_duplicate T) (hr.mono (by decide)) T.F_duplicate.kp T.b_duplicate pass0
  · exact RunF.of (ok_deposit T) (hr.mono (by decide)) T.F_deposit.kp T.b_deposit pass0
  · exact RunF.of (ok_whether T) (hr.mono (by decide)) T.F_whether.kp T.b_whether pass0
  · exact RunF.of (ok_negative T) (hr.mono (by decide)) T.F_negative.kp T.b_negative pass0
  · exact RunF.of (ok_journey T) (hr.mono (by decide)) T.F_journey.kp T.b_journey pass0
  · exact RunF.of (ok_finish T) (hr.mono (by decide)) T.F_finish.kp T.b_finish pass0
theorem deeds_at {K : PySem.W.Frag} {mg : Str → Option Value} (T : Tx K mg) {n : Nat} (hn : isDeed n) {H : Hp} {Q : VK} (q : Q (.ref (deedF T n)) H) : rIxI K (.ref T.D_DEEDS) (.int (n : Int)) H Q := by
  unfold isDeed at hn
  have : n = 0 ∨ n = 1 ∨ n = 2 ∨ n = 3 ∨ n = 4 ∨ n = 5 ∨ n = 6 ∨ n = 7 ∨ n = 8 ∨ n = 9 ∨ n = 10 ∨ n = 11 ∨ n = 20 ∨ n = 21 ∨ n = 22 ∨ n = 23 ∨ n = 24 ∨ n = 28 ∨ n = 29 := by omega
  refine ⟨T.D_DEEDS, _, (n : Int), .ref (deedF T n), rfl, rfl, T.tD_DEEDS, ?_, q⟩
  rcases this with rfl | rfl | rfl | rfl | rfl | rfl | rfl | rfl | rfl | rfl | rfl | rfl | rfl | rfl | rfl | rfl | rfl | rfl | rfl <;> rfl
section
variable {P : Program} {w : World} {K : PySem.W.Frag} {mg : Str → Option Value} {base : Heap} (T : Tx K mg)
def sp_may_do (K : PySem.W.Frag) (CW : Addr) : Sp := fun vs H Q _ => ∃ (w nl : Addr) (ns : List Int) (s : Mst) (m n : Nat) (dx pc ps : Addr) (es : List (Int × Int)) (H0 : Hp), vs = [.ref w, .int (n : Int)] ∧ WorkAt K CW H0 H w nl ns s m dx pc ps es ∧
  ∀ H', WorkAt K CW H0 H' w nl ns (mayS s n) m dx pc ps es → Q (.bl (mayB s n)) H'
theorem ok_may_do : FnOk P w K mg base CX0 1 T.f_may_do T.fd_may_do ["work", "number"] (sp_may_do K T.C_Work) := by
  refine T.F_may_do.ok sc_may_do (fun vs H Q E h => ?_) (fun cdv A outer s H vs Q E hr h => ?_)
  · obtain ⟨w, nl, ns, s, m, n, dx, pc, ps, es, H0, rfl, _⟩ := h
    rfl
  · obtain ⟨w, nl, ns, s, m, n, dx, pc, ps, es, H0, rfl, hw, q⟩ := h
    refine ⟨_, (pss_cons (ps_if (pt_val (pe_fld (pv 0) rfl))
      (pss_one (ps_ret pe_bl))
      pss_nil)
    (pss_cons (ps_if (PW.pt (pw_and (pt_cmpR op_ge (pv 1) (pe_glob (v := .int 3) (by rfl) T.c_FIRST_HERE ⟨_, rfl⟩) (nomark _)) (pw_and1 (pt_cmpR op_ne (pe_fld (pv 0) rfl) (pe_fld (pv 0) rfl) (nomark _)))))
      (pss_one (ps_ret pe_bl))
      pss_nil)
    (pss_cons (ps_if (pt_chain op_le op_le (pe_glob (v := .int 4) (by rfl) T.c_FIRST_OF_FLAG ⟨_, rfl⟩) (pv 1) (pe_glob (v := .int 19) (by rfl) T.c_LAST_OF_FLAG ⟨_, rfl⟩))
      (pss_cons (ps_set (i := 2) sc_may_do.nd rfl (.inl rfl) (pe_fld (pv 0) rfl))
      (pss_cons (ps_fld (pv 0) pe_bl rfl)
      (pss_one (ps_ret (pv 2)))))
      pss_nil)
    (pss_one (ps_ret pe_bl))))), ?_⟩
    refine go_seq (go_if (go_b (rdW (K := K) rfl hw T.cl_Work T.na_Work_is_done rfl ⟨_, rfl, iteC (fun e => ?_) (fun e => ?_)⟩)))
    · have e1 : mayB s n = false := by unfold mayB; rw [e]; rfl
      have e2 : mayS s n = s := by unfold mayS; rw [e]; rfl
      rw [e1, e2] at q
      exact q H hw
    dsimp only [tNext]
    have late : (3 ≤ n → s.block = s.room) → (tSeq (tIfS (tTest (tChain (rI0 fun i j => V.bl (decide (i ≤ j))) (rI0 fun i j => V.bl (decide (i ≤ j))) (tC (V.int 4)) (tVar 1) (tC (V.int 19))))
                (tSeq (tAsg (tFld K (tVar 0) "flag") (gName 2)) (tSeq (sFld K (tVar 0) (tC (V.bl false)) "flag") (tRet (tVar 2)))) tNext) (tRet (tC (V.bl true))) { nx := fun x H' => Q V.non H', rt := Q }) (L2.start ["work", "number", "was_up"] [V.ref w, V.int (n : Int)]) H := fun hb => by
      refine go_seq (go_if (go_test (go_chain (go_c (go_var rfl ⟨_, _, rfl, rfl, _, rfl, iteC (fun e4 => ?_) (fun e4 => ?_)⟩)))))
      · have e4 : 4 ≤ n := by have := of_decide_eq_true e4; omega
        refine go_c ⟨_, _, rfl, rfl, _, rfl, iteC (fun e5 => ?_) (fun e5 => ?_)⟩
        · have e5 : n ≤ 19 := by have := of_decide_eq_true e5; omega
          have hbl := hb (by omega)
          have m1 : mayB s n = s.flag := by
            unfold mayB
            rw [e, decide_eq_true hbl, decide_eq_true e4, decide_eq_true e5]
            simp
          have m2 : mayS s n = { s with flag := false } := by
            unfold mayS
            rw [e, decide_eq_true hbl, decide_eq_true e4, decide_eq_true e5]
            rfl
          rw [m1, m2] at q
          refine go_seq (go_asg (rdW (K := K) rfl hw T.cl_Work T.na_Work_flag rfl ?_))
          dsimp only [gName]
          refine go_seq (go_sfld (stW (K := K) (t := { s with flag := false }) rfl hw T.cl_Work T.na_Work_flag rfl rfl rfl fun H' h' => ?_))
          exact go_ret (go_var rfl (q H' h'))
        · have e5 : ¬ n ≤ 19 := by have := of_decide_eq_false e5; omega
          have hbl := hb (by omega)
          have m1 : mayB s n = true := by
            unfold mayB
            rw [e, decide_eq_true hbl, decide_eq_false e5]
            simp
          have m2 : mayS s n = s := by
            unfold mayS
            rw [decide_eq_false e5, Bool.and_false, Bool.and_false]
            rfl
          rw [m1, m2] at q
          dsimp only [tNext]
          exact go_ret (go_c (q H hw))
      · have e4 : ¬ 4 ≤ n := by have := of_decide_eq_false e4; omega
        have m1 : mayB s n = true := by
          unfold mayB
          rw [e, decide_eq_false e4]
          by_cases z : n < 3
          · rw [decide_eq_true z]; rfl
          · rw [decide_eq_true (hb (by omega))]; simp
        have m2 : mayS s n = s := by
          unfold mayS
          rw [decide_eq_false e4, Bool.false_and, Bool.and_false]
          rfl
        rw [m1, m2] at q
        refine ⟨_, rfl, iteF (A := _) ?_⟩
        dsimp only [tNext]
        exact go_ret (go_c (q H hw))
    refine go_seq (go_if (go_andT (go_test (go_op (go_var rfl (go_c ⟨_, _, rfl, rfl, _, rfl, iteC (fun e3 => ?_) (fun e3 => ?_)⟩))))))
    · have e3 : 3 ≤ n := by have := of_decide_eq_true e3; omega
      refine go_test (go_op (rdW (K := K) rfl hw T.cl_Work T.na_Work_block rfl (rdW (K := K) rfl hw T.cl_Work T.na_Work_room rfl ⟨rfl, _, rfl, ?_⟩)))
      rw [decI]
      by_cases hb : s.block = s.room
      · rw [decide_eq_true hb]
        exact iteF (A := _) (late fun _ => hb)
      · rw [decide_eq_false hb]
        have m1 : mayB s n = false := by
          unfold mayB
          rw [decide_eq_false hb, decide_eq_false (show ¬ n < 3 by omega)]
          simp
        have m2 : mayS s n = s := by
          unfold mayS
          rw [decide_eq_false hb, Bool.and_false, Bool.false_and]
          rfl
        rw [m1, m2] at q
        exact iteT (B := _) (go_ret (go_c (q H hw)))
    · have e3 : ¬ 3 ≤ n := by have := of_decide_eq_false e3; omega
      exact iteF (A := _) (late fun z => absurd z e3)
def sp_do_word (K : PySem.W.Frag) (CW : Addr) : Sp := fun vs H Q _ => ∃ (w nl : Addr) (ns : List Int) (s : Mst) (m b n : Nat) (dx pc ps : Addr) (es : List (Int × Int)) (H0 : Hp), vs = [.ref w, .int (n : Int)] ∧ WorkAt K CW H0 H w nl ns s m dx pc ps es ∧ n < 30 ∧ Bd b s ∧ b ≤ 4000 ∧ m < 90000 ∧
  ∀ H' es', WorkAt K CW H0 H' w nl ns (doW ns s n) (m + 1) dx pc ps es' → Q .non H'
theorem ok_do_word : FnOk P w K mg base CX0 2 T.f_do_word T.fd_do_word ["work", "number"] (sp_do_word K T.C_Work) := by
  refine T.F_do_word.ok sc_do_word (fun vs H Q E h => ?_) (fun cdv A outer s H vs Q E hr h => ?_)
  · obtain ⟨w, nl, ns, s, m, b, n, dx, pc, ps, es, H0, rfl, _⟩ := h
    rfl
  · obtain ⟨w, nl, ns, s, m, b, n, dx, pc, ps, es, H0, rfl, hw, hn, hb, b4, m9, q⟩ := h
    refine ⟨_, (pss_cons (ps_if (pt_not (pt_val (pe_call (ok_may_do T) (hr.mono (by decide)) (by rfl) T.g_may_do T.F_may_do.kp T.b_may_do .nil pass0 (pa_cons (pv 0) (pa_cons (pv 1) pa_nil)))))
      (pss_one ps_retN)
      pss_nil)
    (pss_one (ps_if (pt_chain op_le op_le (pe_glob (v := .int 12) (by rfl) T.c_FIRST_DIGIT ⟨_, rfl⟩) (pv 1) (pe_glob (v := .int 19) (by rfl) T.c_LAST_DIGIT ⟨_, rfl⟩))
      (pss_one (ps_fld (pv 0) (pe_op op_sub (pe_op op_add (pe_op op_mulW pe_int (pe_fld (pv 0) rfl)) (pv 1)) (pe_glob (v := .int 12) (by rfl) T.c_FIRST_DIGIT ⟨_, rfl⟩)) rfl))
      (pss_one (ps_if (pt_chain op_le op_le (pe_glob (v := .int 25) (by rfl) T.c_FIRST_MODE ⟨_, rfl⟩) (pv 1) (pe_glob (v := .int 27) (by rfl) T.c_LAST_MODE ⟨_, rfl⟩))
        (pss_one (ps_fld (pv 0) (pe_op op_sub (pv 1) (pe_glob (v := .int 25) (by rfl) T.c_FIRST_MODE ⟨_, rfl⟩)) rfl))
        (pss_cons (ps_set (i := 2) sc_do_word.nd rfl (.inl rfl) (pe_ix ix_dctI (pe_glob (v := .ref T.D_DEEDS) (by rfl) T.gD_DEEDS rfl) (pv 1) (fun _ _ => rfl)))
        (pss_one (ps_expr (pe_callF (i := 2) (by rfl) (.inl rfl) (deeds_run T hr (E := C8.E0)) (pa_cons (pv 0) pa_nil)))))))))), ?_⟩
    have hb1 := bd_may (n := n) hb
    rw [doW_may] at q
    refine go_seq (go_if (go_not (go_b ⟨_, rfl, _, rfl, w, nl, ns, s, m, n, dx, pc, ps, es, H0, rfl, hw, fun H1 hw => ?_⟩)))
    generalize mayS s n = s1 at hw q hb1 ⊢
    refine ⟨_, rfl, ?_⟩
    cases hm : mayB s n with
    | false =>
      rw [hm] at q
      exact iteT (B := _) (q H1 es (hw.mono (Nat.le_succ _)))
    | true =>
      rw [hm] at q
      refine iteF (A := _) ?_
      dsimp only [tNext]
      rw [if_pos rfl] at q
      have far : ∀ {a b' c d : Int} {t u : TS} {D : Ends} {σ : L2.St}, σ[1]? = some (some (V.int (n : Int))) → ((a ≤ (n : Int) ∧ (n : Int) ≤ c) → t D σ H1) → (¬ (a ≤ (n : Int) ∧ (n : Int) ≤ c) → u D σ H1) →
          tIfS (tTest (tChain (rI0 fun i j => V.bl (decide (i ≤ j))) (rI0 fun i j => V.bl (decide (i ≤ j))) (tC (V.int a)) (tVar 1) (tC (V.int c)))) t u D σ H1 := fun {a b' c d t u D σ} hi ht hu => by
        refine go_if (go_test (go_chain (go_c (go_var hi ⟨_, _, rfl, rfl, _, rfl, iteC (fun e4 => ?_) (fun e4 => ?_)⟩))))
        · have e4 := of_decide_eq_true e4
          refine go_c ⟨_, _, rfl, rfl, _, rfl, iteC (fun e5 => ?_) (fun e5 => ?_)⟩
          · exact ht ⟨e4, of_decide_eq_true e5⟩
          · exact hu fun z => of_decide_eq_false e5 z.2
        · exact ⟨_, rfl, iteF (A := _) (hu fun z => of_decide_eq_false e4 z.1)⟩
      refine far (b' := 0) (d := 0) rfl (fun e => ?_) (fun e => ?_)
      · have e1 : 12 ≤ n := by omega
        have e2 : n ≤ 19 := by omega
        have ew : rawW ns s1 n = { s1 with first := 8 * s1.first + (n : Int) - 12 } := by
          unfold rawW flagW
          rw [if_neg (by omega), if_neg (by omega), if_neg (by omega), if_neg (by omega), if_pos (by omega), if_neg (by omega), if_neg (by omega), if_neg (by omega), if_neg (by omega), if_neg (by omega), if_neg (by omega), if_neg (by omega), if_neg (by omega)]
        have big : Bi 8 (8 : Int) := by show (8 : Int).natAbs < 2 ^ 8; decide
        refine go_sfld (go_op (go_op (go_op (go_c (rdW (K := K) rfl hw T.cl_Work T.na_Work_first rfl ⟨_, _, rfl, rfl, cmulW (b := b + 8) (big.mono (by omega)) (hb1.first.mono (by omega)) (by omega), go_var rfl ⟨_, _, rfl, rfl, go_c ⟨_, _, rfl, rfl, ?_⟩⟩⟩)))))
        exact stW (K := K) (t := { s1 with first := 8 * s1.first + (n : Int) - 12 }) rfl hw T.cl_Work T.na_Work_first rfl rfl rfl fun H' h' => q H' _ (ew ▸ h'.mono (Nat.le_succ _))
      · refine far (b' := 0) (d := 0) rfl (fun e => ?_) (fun e2 => ?_)
        · have ew : rawW ns s1 n = { s1 with mode := (n : Int) - 25 } := by
            unfold rawW bareW
            rw [if_neg (by omega), if_neg (by omega), if_neg (by omega), if_neg (by omega), if_neg (by omega), if_neg (by omega), if_neg (by omega), if_neg (by omega), if_neg (by omega), if_neg (by omega), if_pos (by omega)]
          refine go_sfld (go_op (go_var rfl (go_c ⟨_, _, rfl, rfl, ?_⟩)))
          exact stW (K := K) (t := { s1 with mode := (n : Int) - 25 }) rfl hw T.cl_Work T.na_Work_mode rfl rfl rfl fun H' h' => q H' _ (ew ▸ h'.mono (Nat.le_succ _))
        · have hD : isDeed n := by unfold isDeed; omega
          refine go_seq (go_asg (go_op (go_c (go_var rfl (deeds_at T hD ?_)))))
          dsimp only [gName]
          exact go_drop ⟨n, hD, rfl, go_cons (go_var rfl (go_nil ⟨w, nl, ns, s1, m, b, dx, pc, ps, es, H0, rfl, hw, hb1, b4, m9, q⟩))⟩
def sp_do_row (K : PySem.W.Frag) (CW : Addr) : Sp := fun vs H Q _ => ∃ (w nl r : Addr) (ns : List Int) (s : Mst) (m : Nat) (row : List Nat) (dx pc ps : Addr) (es : List (Int × Int)) (H0 : Hp), vs = [.ref w, .ref r] ∧ WorkAt K CW H0 H w nl ns s m dx pc ps es ∧ SqQ K H0 r (rowV row) ∧ (∀ n ∈ row, n < 30) ∧ (∀ k, Bd 4000 (doR ns s (row.take k))) ∧ m + row.length < 90000 ∧
  ∀ H' es', WorkAt K CW H0 H' w nl ns (doR ns s row) (m + row.length) dx pc ps es' → Q .non H'
theorem ok_do_row : FnOk P w K mg base CX0 3 T.f_do_row T.fd_do_row ["work", "row"] (sp_do_row K T.C_Work) := by
  refine T.F_do_row.ok sc_do_row (fun vs H Q E h => ?_) (fun cdv A outer s H vs Q E hr h => ?_)
  · obtain ⟨w, nl, r, ns, s, m, row, dx, pc, ps, es, H0, rfl, _⟩ := h
    rfl
  · obtain ⟨w, nl, r, ns, s, m, row, dx, pc, ps, es, H0, rfl, hw, hr0, hn, hb, m9, q⟩ := h
    refine ⟨_, (pss_one (ps_for PassesOwn.never rfl (pi_seq (pv 1)) (pg_name (i := 2) sc_do_row.nd rfl (.inl rfl))
      (pss_one (ps_expr (pe_call (ok_do_word T) (hr.mono (by decide)) (by rfl) T.g_do_word T.F_do_word.kp T.b_do_word .nil pass0 (pa_cons (pv 0) (pa_cons (pv 2) pa_nil))))))), ?_⟩
    refine for_seq (a := r) (xs := rowV row) (by exact rfl) hr0 hw.old (fun i σ H' => ∃ (o : Option V) (es' : List (Int × Int)), σ = [some (.ref w), some (.ref r), o] ∧ WorkAt K T.C_Work H0 H' w nl ns (doR ns s (row.take i)) (m + i) dx pc ps es') ⟨_, es, rfl, hw⟩ (fun i σ' H' _ h => ?_) (fun i v σ' Hd hv h => ?_) (fun σ' Hd h => ?_)
    · obtain ⟨_, _, _, h⟩ := h
      exact h.old
    · obtain ⟨o, es', rfl, h⟩ := h
      obtain ⟨n, hni, rfl⟩ := rowV_get hv
      have hi := (List.getElem?_eq_some_iff.mp hni).1
      dsimp only [gName]
      refine go_drop ⟨_, rfl, _, rfl, w, nl, ns, _, m + i, 4000, n, dx, pc, ps, es', H0, rfl, h, hn n (List.mem_of_getElem? hni), hb i, Nat.le_refl _, by omega, fun H' es2 h2 => ⟨_, es2, rfl, ?_⟩⟩
      rw [take_succ hni, doR_app]
      exact h2
    · obtain ⟨o, es', rfl, h⟩ := h
      rw [rowV_len, List.take_length] at h
      exact q Hd es' h
end
end K54
namespace K54
open PySem PySem.Spec PyProof.Rows L2 Kx SX LamX Ms PnX
section
variable {P : Program} {w : World} {K : PySem.W.Frag} {mg : Str → Option Value} {base : Heap} (T : Tx K mg)
/-- a tuple of an int and a truth -/
def PrAt (H : Hp) (t : Addr) (p : Pr) : Prop := H t = some (.tup [.int p.1, .bl p.2])
def PrsAt (H : Hp) (D : Addr) (ps : List Pr) : Prop := ∃ ts : List Addr, H D = some (.lst (ts.map V.ref)) ∧ Paired (PrAt H) ts ps
theorem PrsAt.same {H H' : Hp} {D : Addr} {ps : List Pr} (h : PrsAt H D ps) (e : Same H H') : PrsAt H' D ps := by
  obtain ⟨ts, h1, h2⟩ := h
  exact ⟨ts, e _ _ h1, Paired.mapP h2 fun _ _ z => e _ _ z⟩
theorem paired_snoc {α β : Type} {R : α → β → Prop} {xs : List α} {ys : List β} {x : α} {y : β} (h : Paired R xs ys) (k : R x y) : Paired R (xs ++ [x]) (ys ++ [y]) := by
  induction h with
  | nil => exact .cons k .nil
  | cons a _ ih => exact .cons a ih
theorem PrsAt.app {H : Hp} {D t : Addr} {ts : List Addr} {ps : List Pr} {p : Pr} (h1 : H D = some (.lst (ts.map V.ref))) (h2 : Paired (PrAt H) ts ps) (ht : H t = some (.tup [.int p.1, .bl p.2])) : PrsAt (upd H D (.lst (ts.map V.ref ++ [V.ref t]))) D (ps ++ [p]) := by
  refine ⟨ts ++ [t], by rw [upd_same, List.map_append]; rfl, paired_snoc (Paired.mapP h2 fun u q z => ?_) ?_⟩
  · unfold PrAt at z ⊢
    rw [upd_ne (ne_of_two z h1 (fun z => by cases z))]
    exact z
  · unfold PrAt
    rw [upd_ne (ne_of_two ht h1 (fun z => by cases z))]
    exact ht
def sp_behind_words (K : PySem.W.Frag) : Sp := fun vs H Q _ => ∃ (r : Addr) (row : List Nat), vs = [.ref r] ∧ SqQ K H r (rowV row) ∧ row.length ≤ 90000 ∧ ∀ (D : Addr) (H' : Hp), H D = none → Same H H' → PrsAt H' D (behindA p0 row) → Q (.ref D) H'
theorem ok_behind_words : FnOk P w K mg base CX0 1 T.f_behind_words T.fd_behind_words ["row"] (sp_behind_words K) := by
  refine T.F_behind_words.ok sc_behind_words (fun vs H Q E h => ?_) (fun cdv A outer s H vs Q E hr h => ?_)
  · obtain ⟨r, row, rfl, _⟩ := h
    rfl
  · obtain ⟨r, row, rfl, hq, hl, q⟩ := h
    refine ⟨_, (pss_cons (ps_set (i := 1) sc_behind_words.nd rfl (.inl rfl) (pe_un un_neg pe_int))
    (pss_cons (ps_set (i := 2) sc_behind_words.nd rfl (.inl rfl) pe_bl)
    (pss_cons (ps_set (i := 3) sc_behind_words.nd rfl (.inl rfl) (pe_lst pa_nil))
    (pss_cons (ps_for PassesOwn.never rfl (pi_seq (pv 0)) (pg_name (i := 4) sc_behind_words.nd rfl (.inl rfl))
      (pss_cons (ps_if (pt_cmpR op_eq (pv 4) (pe_glob (v := .int 0) (by rfl) T.c_OUTSET ⟨_, rfl⟩) (nomark _))
        (pss_one (ps_set (i := 1) sc_behind_words.nd rfl (.inl rfl) (pe_un un_neg pe_int)))
        (pss_one (ps_if (pt_cmpR op_eq (pv 4) (pe_glob (v := .int 1) (by rfl) T.c_UPLIFT ⟨_, rfl⟩) (nomark _))
          (pss_one (ps_set (i := 2) sc_behind_words.nd rfl (.inl rfl) pe_bl))
          (pss_one (ps_if (PW.pt (pw_and (pt_cmpR op_eq (pv 4) (pe_glob (v := .int 2) (by rfl) T.c_ADVANCE ⟨_, rfl⟩) (nomark _)) (pw_and1 (pt_val (pv 2)))))
            (pss_cons (ps_aug (i := 1) sc_behind_words.nd rfl (.inl rfl) pe_int ip_add)
            (pss_one (ps_set (i := 2) sc_behind_words.nd rfl (.inl rfl) pe_bl)))
            pss_nil)))))
      (pss_one (ps_expr (pe_bm PySem.F.plainAttrs_list PySem.F.slot_list_append PySem.F.type_list_append mt_append (pv 3) (pa_cons (pe_tup (pa_cons (pv 1) (pa_cons (pv 2) pa_nil))) pa_nil))))))
    (pss_one (ps_ret (pv 3))))))), ?_⟩
    refine go_seq (go_asg ⟨_, rfl, ?_⟩)
    dsimp only [gName]
    refine go_seq (go_asg (go_c ?_))
    dsimp only [gName]
    refine go_seq (go_asg (go_lst (go_nil ⟨Nat.zero_le _, fun D nD => ?_⟩)))
    have e1 := same_new (o := HO.lst []) nD
    have hD := upd_same (H := H) (a := D) (o := HO.lst [])
    generalize upd H D (HO.lst []) = H1 at e1 hD ⊢
    dsimp only [gName]
    refine go_seq ?_
    refine for_seq (a := r) (xs := rowV row) (H0 := H) (by exact rfl) hq e1 (fun i σ H' => ∃ (o : Option V) (ts : List Addr), σ = [some (.ref r), some (.int ((row.take i).foldl stepP p0).1), some (.bl ((row.take i).foldl stepP p0).2), some (.ref D), o] ∧
      H' D = some (.lst (ts.map V.ref)) ∧ Paired (PrAt H') ts (behindA p0 (row.take i)) ∧ Same H H') ⟨_, [], rfl, hD, .nil, e1⟩ (fun i σ' H' _ h => ?_) (fun i v σ' Hd hv h => ?_) (fun σ' Hd h => ?_)
    · obtain ⟨_, _, _, _, _, h⟩ := h
      exact h
    · obtain ⟨o, ts, rfl, hD, hP, e⟩ := h
      obtain ⟨n, hni, rfl⟩ := rowV_get hv
      have hi := (List.getElem?_eq_some_iff.mp hni).1
      have tk : (row.take (i + 1)).foldl stepP p0 = stepP ((row.take i).foldl stepP p0) n := by rw [take_succ hni, List.foldl_append]; rfl
      have bk : behindA p0 (row.take (i + 1)) = behindA p0 (row.take i) ++ [stepP ((row.take i).foldl stepP p0) n] := by rw [take_succ hni, behindA_snoc]
      rw [tk, bk]
      generalize hp : (row.take i).foldl stepP p0 = p
      have lt : ts.length = i := by
        rw [hP.length, behindA_len, List.length_take]
        omega
      dsimp only [gName]
      refine meetS (fun σ H' => σ = [some (.ref r), some (.int (stepP p n).1), some (.bl (stepP p n).2), some (.ref D), some (.int (n : Int))] ∧ H' = Hd) (fun nx k => ?_) ?_
      · refine ifEq rfl (fun e => ?_) (fun e0 => ?_)
        · obtain rfl : n = 0 := by omega
          exact go_asg ⟨_, rfl, k _ _ ⟨rfl, rfl⟩⟩
        refine ifEq rfl (fun e => ?_) (fun e1 => ?_)
        · obtain rfl : n = 1 := by omega
          exact go_asg (go_c (k _ _ ⟨rfl, rfl⟩))
        have n0 : n ≠ 0 := by omega
        have n1 : n ≠ 1 := by omega
        refine ifAndEq rfl (fun e => ?_) (fun e2 => ?_)
        · obtain rfl : n = 2 := by omega
          refine go_b (go_var rfl ⟨_, rfl, iteC (fun e => ?_) (fun e => ?_)⟩)
          · refine go_seq (go_aug rfl (go_c ?_))
            refine ⟨_, _, rfl, rfl, ?_⟩
            dsimp only
            refine go_asg (go_c ?_)
            refine k _ _ ⟨?_, rfl⟩
            have es : stepP p 2 = (p.1 + 1, false) := by unfold stepP; rw [if_neg (by decide), if_neg (by decide), if_pos ⟨rfl, e⟩]
            rw [es]
            rfl
          · refine k _ _ ⟨?_, rfl⟩
            have es : stepP p 2 = p := by unfold stepP; rw [if_neg (by decide), if_neg (by decide), if_neg (by rw [e]; rintro ⟨_, z⟩; cases z)]
            rw [es]
            rfl
        · have n2 : n ≠ 2 := by omega
          refine k _ _ ⟨?_, rfl⟩
          have es : stepP p n = p := by unfold stepP; rw [if_neg n0, if_neg n1, if_neg (fun z => n2 z.1)]
          rw [es]
          rfl
      · rintro σ Hx ⟨rfl, rfl⟩
        generalize stepP p n = p2
        refine go_drop (go_bm (go_var rfl ⟨.inl ⟨rfl, _, .inl (.inl hD)⟩, go_cons (go_tup (go_cons (go_var rfl (go_cons (go_var rfl (go_nil ⟨sz2, fun t nt => ?_⟩))))))⟩))
        have s1 := same_new (o := HO.tup [V.int p2.1, V.bl p2.2]) nt
        have hDt := s1 _ _ hD
        have hPt : Paired (PrAt (upd Hx t (.tup [.int p2.1, .bl p2.2]))) ts (behindA p0 (row.take i)) := Paired.mapP hP fun _ _ z => s1 _ _ z
        refine go_nil ⟨D, _, _, rfl, rfl, hDt, by rw [List.length_map, lt]; exact Nat.lt_of_le_of_lt (show i ≤ 90000 by omega) (by decide), ?_⟩
        obtain ⟨ts2, k1, k2⟩ := PrsAt.app (p := p2) hDt hPt upd_same
        exact ⟨_, ts2, rfl, k1, k2, same_set (e.trans s1) nD⟩
    · obtain ⟨o, ts, rfl, hD, hP, e⟩ := h
      rw [rowV_len, List.take_length] at hP
      dsimp only
      exact go_ret (go_var rfl (q D Hd nD e ⟨ts, hD, hP⟩))
theorem row_get {row : List Nat} {i : Nat} (h : i < row.length) : (rowV row)[i]? = some (.int ((row.getD i 0 : Nat) : Int)) := by
  unfold rowV
  rw [List.getElem?_map, List.getElem?_eq_getElem h, List.getD_eq_getElem?_getD, List.getElem?_eq_getElem h]
  rfl
def sp_thinned (K : PySem.W.Frag) : Sp := fun vs H Q _ => ∃ (r : Addr) (row : List Nat), vs = [.ref r] ∧ SqT K H r (rowV row) ∧ row.length ≤ 90000 ∧ ∀ (D : Addr) (H' : Hp), H D = none → Same H H' → H' D = some (.lst (rowV (thinI row))) → Q (.ref D) H'
theorem ok_thinned : FnOk P w K mg base CX0 1 T.f_thinned T.fd_thinned ["row"] (sp_thinned K) := by
  refine T.F_thinned.ok sc_thinned (fun vs H Q E h => ?_) (fun cdv A outer s H vs Q E hr h => ?_)
  · obtain ⟨r, row, rfl, _⟩ := h
    rfl
  · obtain ⟨r, row, rfl, hq, hl, q⟩ := h
    refine ⟨_, (pss_one (ps_ret (pe_lc (own := [("at", 1), ("number", 2)]) rfl sc_thinned.nd (pi_enumT (by rfl) T.m_enumerate (pa_cons (pv 0) pa_nil)) (blkOk_by (own := [("at", 1), ("number", 2)]) (N := ["row", "at", "number"]) (sc := defScope s_thinned) (by decide +kernel)) (fun _ _ _ _ _ => (inK_pg_tup (K := K) (n := 2) (t := (gCons (gName 1) (gCons (gName 2) gNil))) rfl rfl (pgs_cons (pg_name (i := 1) sc_thinned.nd rfl (.inl rfl)) (pgs_cons (pg_name (i := 2) sc_thinned.nd rfl (.inl rfl)) pgs_nil)))) (fun _ _ _ _ _ => pts_one (PW.pt (pw_or (pt_cmpR op_eq (pv 1) pe_int (nomark _)) (pw_or1 (pt_cmpR op_ne (pe_ix (inK_ix_tup (K := K) rfl) (pv 0) (pe_op op_sub (pv 1) pe_int) (fun _ _ => rfl)) (pv 2) (nomark _)))))) (fun _ _ _ _ _ => (pv 2))))), ?_⟩
    refine go_ret ?_
    have lz : (thinZ row).length = row.length := by unfold thinZ; rw [List.length_map, List.length_range]
    refine ⟨_, rfl, r, _, rfl, hq, fun D nD => lc_keep (walk_enumT (xs := rowV row)) ((thinZ row).map fun o => o.map fun n : Nat => V.int (n : Int)) (by rw [List.length_map, lz, rowV_len]) nD (by rw [rowV_len]; omega) (fun Hd e2 => Same.t e2 hq) (fun i x z Hd Hx Q' R' hi hzi e2 y q' r' => ?_) (fun Hd e2 hD2 => ?_)⟩
    · obtain ⟨t, x', rfl, nt, rfl, hx⟩ := y
      obtain ⟨n, hni, rfl⟩ := rowV_get hx
      have hi' := (List.getElem?_eq_some_iff.mp hni).1
      have en : row.getD i 0 = n := by rw [List.getD_eq_getElem?_getD, hni]; rfl
      have ez : z = if keepAt row i = true then some (V.int (n : Int)) else none := by
        obtain ⟨o, ho, rfl⟩ := map_at hzi
        unfold thinZ at ho
        obtain ⟨j, hj, rfl⟩ := map_at ho
        rw [List.getElem?_range hi'] at hj
        cases hj
        rw [en]
        split <;> rfl
      have s1 := same_new (o := HO.tup [V.int (i : Nat), V.int (n : Int)]) nt
      refine ⟨t, _, rfl, .inl (.inl upd_same), rfl, _, _, rfl, _, _, rfl, rfl, rfl, ?_⟩
      refine go_or2 (go_test (go_op (go_var rfl (go_c ⟨rfl, _, rfl, ?_⟩))))
      rw [decI]
      by_cases h0 : i = 0
      · rw [decide_eq_true (show ((i : Nat) : Int) = 0 by omega)]
        refine iteT (B := True) (iteT (B := True) (go_var rfl (q' _ _ ?_ s1)))
        rw [ez, if_pos (by unfold keepAt; rw [decide_eq_true h0]; rfl)]
      · rw [decide_eq_false (show ¬ ((i : Nat) : Int) = 0 by omega)]
        refine iteF (A := True) ?_
        have hg : atI (rowV row) ((i : Int) - 1) = some (.int ((row.getD (i - 1) 0 : Nat) : Int)) := by
          rw [show ((i : Int) - 1) = ((i - 1 : Nat) : Int) by omega, at_nat (by rw [rowV_len]; omega)]
          exact (List.getElem?_eq_getElem _).symm.trans (row_get (by omega))
        refine go_test (go_op (go_op (go_var rfl (go_op (go_var rfl (go_c ⟨_, _, rfl, rfl, r, _, _, _, rfl, rfl, Same.t (e2.trans s1) hq, hg, go_var rfl ⟨rfl, _, rfl, ?_⟩⟩))))))
        rw [decI]
        have ek : keepAt row i = !decide (row.getD (i - 1) 0 = n) := by unfold keepAt; rw [decide_eq_false h0, en]; rfl
        by_cases h1 : row.getD (i - 1) 0 = n
        · rw [decide_eq_true (show ((row.getD (i - 1) 0 : Nat) : Int) = (n : Int) by omega)]
          refine iteF (A := True) (r' _ ?_ s1)
          rw [ez, if_neg (by rw [ek, decide_eq_true h1]; decide)]
        · rw [decide_eq_false (show ¬ ((row.getD (i - 1) 0 : Nat) : Int) = (n : Int) by omega)]
          refine iteT (B := True) (go_var rfl (q' _ _ ?_ s1))
          rw [ez, if_pos (by rw [ek, decide_eq_false h1]; rfl)]
    · refine q D Hd nD e2 ?_
      rw [hD2]
      unfold thinI rowV
      rw [List.filterMap_map, List.map_filterMap]
      rfl
end
end K54
namespace K54
open PySem PySem.Spec PyProof.Rows L2 Kx SX LamX Ms PnX
section
variable {P : Program} {w : World} {K : PySem.W.Frag} {mg : Str → Option Value} {base : Heap} (T : Tx K mg)
def sp_stretches_of (K : PySem.W.Frag) : Sp := fun vs H Q _ => ∃ (r : Addr) (row : List Nat), vs = [.ref r] ∧ SqL K H r (rowV row) ∧ row.length ≤ 90000 ∧ ∀ (D : Addr) (tus : List (Addr × Addr)) (H' : Hp), H D = none → GrpsAt H H' D tus (grps row) → Q (.ref D) H'
theorem grps_len : ∀ (l : List (Nat × Pr)) (acc : List Grp), (grpsA acc l).length ≤ acc.length + l.length
  | [], acc => Nat.le_refl _
  | x :: l, acc => by
    have h := grps_len l (addG acc x.2 x.1)
    have h2 : (addG acc x.2 x.1).length ≤ acc.length + 1 := by
      unfold addG
      split
      · omega
      · cases hl : acc.getLast? with
        | none => dsimp only; rw [List.length_append]; exact Nat.le_refl _
        | some g =>
          dsimp only
          split
          · rw [List.length_append, List.length_dropLast]; show _ - 1 + 1 ≤ _; omega
          · rw [List.length_append]; exact Nat.le_refl _
    show (grpsA (addG acc x.2 x.1) l).length ≤ _
    rw [List.length_cons]
    omega
def wordsN (gs : List Grp) : Nat := (flatG gs).length
theorem grp_short {gs : List Grp} {b : Int} {k : Bool} {ws : List Nat} : ws.length ≤ wordsN (gs ++ [(b, k, ws)]) := by
  unfold wordsN
  rw [flatG_app, List.length_append, flatG_cons, List.length_append, List.length_map]
  show ws.length ≤ _ + (ws.length + _)
  omega
theorem ok_stretches_of : FnOk P w K mg base CX0 2 T.f_stretches_of T.fd_stretches_of ["row"] (sp_stretches_of K) := by
  refine T.F_stretches_of.ok sc_stretches_of (fun vs H Q E h => ?_) (fun cdv A outer s H vs Q E hr h => ?_)
  · obtain ⟨r, row, rfl, _⟩ := h
    rfl
  · obtain ⟨r, row, rfl, hq, hl, q⟩ := h
    refine ⟨_, (pss_cons (ps_set (i := 1) sc_stretches_of.nd rfl (.inl rfl) (pe_lst pa_nil))
    (pss_cons (ps_for PassesOwn.never rfl (pi_zip (by rfl) T.m_zip (pa_cons (pv 0) (pa_cons (pe_call (ok_behind_words T) (hr.mono (by decide)) (by rfl) T.g_behind_words T.F_behind_words.kp T.b_behind_words .nil pass0 (pa_cons (pv 0) pa_nil)) pa_nil))) (pg_tup rfl (pgs_cons (pg_name (i := 2) sc_stretches_of.nd rfl (.inl rfl)) (pgs_cons (pg_tup rfl (pgs_cons (pg_name (i := 3) sc_stretches_of.nd rfl (.inl rfl)) (pgs_cons (pg_name (i := 4) sc_stretches_of.nd rfl (.inl rfl)) pgs_nil))) pgs_nil)))
      (pss_cons (ps_if (pt_cmpR op_lt (pv 2) (pe_glob (v := .int 3) (by rfl) T.c_FIRST_HERE ⟨_, rfl⟩) (nomark _))
        (pss_one ps_continue)
        pss_nil)
      (pss_one (ps_if (PW.pt (pw_and (pt_truth (pv 1) (fun _ => rfl)) (pw_and (pt_cmpR op_eq (pe_ix ix_tup (pe_ix ix_list (pv 1) (pe_un un_neg pe_int) (fun _ _ => rfl)) pe_int (fun _ _ => rfl)) (pv 3) (nomark _)) (pw_and1 (pt_cmpR op_eq (pe_ix ix_tup (pe_ix ix_list (pv 1) (pe_un un_neg pe_int) (fun _ _ => rfl)) pe_int (fun _ _ => rfl)) (pv 4) (nomark _))))))
        (pss_one (ps_expr (pe_bm PySem.F.plainAttrs_list PySem.F.slot_list_append PySem.F.type_list_append mt_append (pe_ix ix_tup (pe_ix ix_list (pv 1) (pe_un un_neg pe_int) (fun _ _ => rfl)) pe_int (fun _ _ => rfl)) (pa_cons (pv 2) pa_nil))))
        (pss_one (ps_expr (pe_bm PySem.F.plainAttrs_list PySem.F.slot_list_append PySem.F.type_list_append mt_append (pv 1) (pa_cons (pe_tup (pa_cons (pv 3) (pa_cons (pv 4) (pa_cons (pe_lst (pa_cons (pv 2) pa_nil)) pa_nil)))) pa_nil))))))))
    (pss_one (ps_ret (pv 1))))), ?_⟩
    refine go_seq (go_asg (go_lst (go_nil ⟨Nat.zero_le _, fun D nD => ?_⟩)))
    have e1 := same_new (o := HO.lst []) nD
    have hD := upd_same (H := H) (a := D) (o := HO.lst [])
    generalize upd H D (HO.lst []) = H1 at e1 hD ⊢
    dsimp only [gName]
    refine go_seq ?_
    refine ⟨_, rfl, _, rfl, r, row, rfl, .inl (e1.seq hq), hl, fun D2 H2 nD2 e2 hP => ?_⟩
    obtain ⟨ts, hD2, hP⟩ := hP
    have hDD : D2 ≠ D := fun e => by
      rw [e, hD] at nD2
      cases nD2
    have e12 := e1.trans e2
    have eb : Same H (rest3 D D D H2) := fun b o z => rest3_at (e12 b o z) (ne_of_none z nD) (ne_of_none z nD) (ne_of_none z nD)
    have bD : rest3 D D D H2 D = none := rest3_none (.inl rfl)
    have b2 : rest3 D D D H2 D2 = some (.lst (ts.map V.ref)) := rest3_at hD2 hDD hDD hDD
    have hDx := e2 _ _ hD
    have bP : Paired (PrAt (rest3 D D D H2)) ts (behindA p0 row) := Paired.mapP hP fun t p z => by
      unfold PrAt at z ⊢
      have nt := ne_of_two z hDx (fun z => by cases z)
      exact rest3_at z nt nt nt
    have bS : Same (rest3 D D D H2) H2 := rest3_sub
    have lt : ts.length = row.length := by rw [hP.length, behindA_len]
    generalize rest3 D D D H2 = B at eb bD b2 bP bS
    clear hP hD2 hDD e1 nD2 hD
    have ln : (rowV row).length = (ts.map V.ref).length := by rw [rowV_len, List.length_map, lt]
    obtain ⟨zs, hzs⟩ : ∃ zs, zs = row.zip (behindA p0 row) := ⟨_, rfl⟩
    have lz : zs.length = row.length := by rw [hzs, List.length_zip, behindA_len]; exact Nat.min_self _
    refine ⟨r, D2, _, _, rfl, e12.seq hq, .inl (.inl (bS _ _ b2)), for_it (walk_zip (xs := rowV row) (ys := ts.map V.ref) (n := row.length) (by rw [← ln, rowV_len, Nat.min_self])) (fun i σ H' => ∃ (o2 o3 o4 : Option V) (tus : List (Addr × Addr)), σ = [some (.ref r), some (.ref D), o2, o3, o4] ∧ GrpsAt B H' D tus (grpsA [] (zs.take i))) ⟨_, _, _, [], rfl, GrpsAt.none bD hDx bS⟩ (fun i σ H' _ h => ?_) (fun i v σ' Hd Hv hi0 h yv => ?_) (fun σ' Hd h => ?_)⟩
    · obtain ⟨_, _, _, _, _, h⟩ := h
      exact ⟨(eb.trans h.old).seq hq, .inl (.inl (h.old _ _ b2))⟩
    · obtain ⟨o2, o3, o4, tus, rfl, h⟩ := h
      obtain ⟨t, x, y, rfl, nt, rfl, hx, hy⟩ := yv
      obtain ⟨n, hni, rfl⟩ := rowV_get hx
      obtain ⟨a, ha, rfl⟩ := map_at hy
      have hi := (List.getElem?_eq_some_iff.mp hni).1
      obtain ⟨p, hp⟩ : ∃ p, (behindA p0 row)[i]? = some p := ⟨_, List.getElem?_eq_getElem (by rw [behindA_len]; exact hi)⟩
      have hz : zs[i]? = some (n, p) := by rw [hzs, List.getElem?_zip_eq_some]; exact ⟨hni, hp⟩
      have hpa := paired_at bP ha hp
      have gl := grps_len (zs.take i) []
      rw [List.length_take, List.length_nil] at gl
      have ek : grpsA [] (zs.take (i + 1)) = addG (grpsA [] (zs.take i)) p n := by rw [take_succ hz, grpsA_snoc]
      have fl : wordsN (grpsA [] (zs.take i)) ≤ i := by
        unfold wordsN
        rw [flat_grpsA]
        show (_ ++ here _).length ≤ i
        unfold here
        rw [List.length_append]
        have := List.length_filterMap_le (fun x : Nat × Pr => if x.1 < 3 then none else some (x.2, x.1)) (zs.take i)
        rw [List.length_take] at this
        show 0 + _ ≤ i
        omega
      rw [ek]
      generalize grpsA [] (zs.take i) = gs at h gl fl
      have h := h.same (same_new (o := HO.tup [V.int (n : Int), V.ref a]) nt)
      have hT := upd_same (H := Hd) (a := t) (o := HO.tup [V.int (n : Int), V.ref a])
      generalize upd Hd t (HO.tup [V.int (n : Int), V.ref a]) = H3 at h hT ⊢
      clear nt ek hx hy
      have hpa3 : H3 a = some (.tup [.int p.1, .bl p.2]) := h.old _ _ hpa
      refine ⟨t, _, rfl, .inl (.inl hT), rfl, _, _, rfl, _, _, rfl, a, _, rfl, .inl (.inl hpa3), rfl, _, _, rfl, _, _, rfl, rfl, rfl, ?_⟩
      refine go_seq (go_if (go_test (go_op (go_var rfl (go_c ⟨_, _, rfl, rfl, _, rfl, iteC (fun e => ?_) (fun e => ?_)⟩)))))
      · have e := of_decide_eq_true e
        have eg : addG gs p n = gs := by unfold addG; rw [if_pos (by omega)]
        rw [eg]
        exact ⟨_, _, _, tus, rfl, h⟩
      have e := of_decide_eq_false e
      have n3 : ¬ n < 3 := by omega
      dsimp only [tNext]
      have put : addG gs p n = gs ++ [(p.1, p.2, [n])] → tDrop (tBM K "list" rAppend (tVar 1) (tCons (tTup (tCons (tVar 3) (tCons (tVar 4) (tCons (tLst (tCons (tVar 2) tNil)) tNil)))) tNil)) { nx := fun σ H' => ∃ (o2 o3 o4 : Option V) (tus : List (Addr × Addr)), σ = [some (.ref r), some (.ref D), o2, o3, o4] ∧ GrpsAt B H' D tus (addG gs p n), rt := Q, bk := tRet (tVar 1) { nx := fun x H' => Q V.non H', rt := Q }, ct := fun σ H' => ∃ (o2 o3 o4 : Option V) (tus : List (Addr × Addr)), σ = [some (.ref r), some (.ref D), o2, o3, o4] ∧ GrpsAt B H' D tus (addG gs p n) } [some (.ref r), some (.ref D), some (.int (n : Int)), some (.int p.1), some (.bl p.2)] H3 := by
        intro eg
        rw [eg]
        refine go_drop (go_bm (go_var rfl ⟨.inl ⟨rfl, _, .inl (.inl h.at_)⟩, go_cons (go_tup (go_cons (go_var rfl (go_cons (go_var rfl (go_cons (go_lst (go_cons (go_var rfl (go_nil ⟨sz1, fun u nu => ?_⟩))))))))))⟩))
        refine go_nil ⟨sz3, fun t2 nt2 => ?_⟩
        have k := h.app (p := p) (n := n) bD nu nt2
        have lt2 := h.all.length
        refine go_nil ⟨D, _, _, rfl, rfl, ((same_new nu).trans (same_new nt2)) _ _ h.at_, ?_, ⟨_, _, _, _, rfl, k⟩⟩
        rw [List.length_map, lt2]
        exact Nat.lt_of_le_of_lt (show gs.length ≤ 90000 by omega) (by decide)
      refine go_if (go_and2 ⟨_, rfl, _, .inl ⟨_, .inl (.inl h.at_), rfl⟩, ?_⟩)
      cases hg : gs.getLast? with
      | none =>
        have g0 : gs = [] := List.getLast?_eq_none_iff.mp hg
        have eg : addG gs p n = gs ++ [(p.1, p.2, [n])] := by unfold addG; rw [if_neg n3, hg]
        have t0 : tus = [] := List.eq_nil_of_length_eq_zero (by rw [h.all.length, g0]; rfl)
        have et : (!(tus.map fun x => V.ref x.1).isEmpty) = false := by rw [t0]; rfl
        rw [et]
        exact iteF (A := True) (iteF (A := True) (put eg))
      | some g =>
        obtain ⟨b, k, ws⟩ := g
        obtain ⟨gs', rfl⟩ : ∃ gs', gs = gs' ++ [(b, k, ws)] := by
          have h0 : gs ≠ [] := fun z => by rw [z] at hg; cases hg
          have := List.dropLast_concat_getLast h0
          rw [List.getLast?_eq_some_getLast h0] at hg
          rw [Option.some.inj hg] at this
          exact ⟨_, this.symm⟩
        obtain ⟨tus', t2, u2, rfl, ht2, hu2⟩ := h.last
        have et : (!((tus' ++ [(t2, u2)]).map fun x => V.ref x.1).isEmpty) = true := by rw [List.map_append]; simp
        rw [et]
        refine iteT (B := True) ?_
        have hL : SqL K H3 D ((tus'.map fun x => V.ref x.1) ++ [V.ref t2]) := .inl (.inl (by rw [h.at_, List.map_append]; rfl))
        have hT2 : SqT K H3 t2 [.int b, .bl k, .ref u2] := .inl (.inl ht2)
        refine go_and2 (go_test (go_op (go_op (go_op (go_var rfl ⟨_, rfl, D, _, -1, .ref t2, rfl, rfl, hL, at_last, go_c ⟨t2, _, 0, .int b, rfl, rfl, hT2, rfl, go_var rfl ⟨rfl, _, rfl, ?_⟩⟩⟩)))))
        rw [decI]
        by_cases hb : b = p.1
        · rw [decide_eq_true hb]
          refine iteT (B := True) ?_
          refine go_test (go_op (go_op (go_op (go_var rfl ⟨_, rfl, D, _, -1, .ref t2, rfl, rfl, hL, at_last, go_c ⟨t2, _, 1, .bl k, rfl, rfl, hT2, rfl, go_var rfl ⟨rfl, _, rfl, ?_⟩⟩⟩))))
          rw [decB]
          by_cases hk : k = p.2
          · rw [decide_eq_true hk]
            refine iteT (B := True) ?_
            have eg : addG (gs' ++ [(b, k, ws)]) p n = gs' ++ [(b, k, ws ++ [n])] := by
              unfold addG
              rw [if_neg n3, hg]
              dsimp only
              rw [if_pos ⟨hb, hk⟩, List.dropLast_concat]
            rw [eg]
            have lw : ws.length ≤ 90000 := Nat.le_trans (grp_short (gs := gs') (b := b) (k := k)) (by omega)
            refine go_drop (go_bm (go_op (go_op (go_var rfl ⟨_, rfl, D, _, -1, .ref t2, rfl, rfl, hL, at_last, go_c ⟨t2, _, 2, .ref u2, rfl, rfl, hT2, rfl, .inl ⟨rfl, _, .inl (.inl hu2)⟩, go_cons (go_var rfl (go_nil ⟨u2, _, _, rfl, rfl, hu2, by rw [rowV_len]; exact Nat.lt_of_le_of_lt lw (by decide), ⟨_, _, _, _, rfl, h.more⟩⟩))⟩⟩))))
          · rw [decide_eq_false hk]
            have eg : addG (gs' ++ [(b, k, ws)]) p n = gs' ++ [(b, k, ws)] ++ [(p.1, p.2, [n])] := by
              unfold addG
              rw [if_neg n3, hg]
              dsimp only
              rw [if_neg fun z => hk z.2]
            exact iteF (A := True) (put eg)
        · rw [decide_eq_false hb]
          have eg : addG (gs' ++ [(b, k, ws)]) p n = gs' ++ [(b, k, ws)] ++ [(p.1, p.2, [n])] := by
            unfold addG
            rw [if_neg n3, hg]
            dsimp only
            rw [if_neg fun z => hb z.1]
          exact iteF (A := True) (iteF (A := True) (put eg))
    · obtain ⟨o2, o3, o4, tus, rfl, h⟩ := h
      rw [← lz, List.take_length, hzs] at h
      refine go_ret (go_var rfl (q D tus Hd nD ⟨h.at_, h.all, h.nd, h.nD, fun x m => ?_, eb.trans h.old⟩))
      have z := h.new x m
      cases e : H x.2 with
      | none => rfl
      | some o =>
        rw [eb _ _ e] at z
        cases z
end
end K54
namespace K54
open PySem PySem.Spec PyProof.Rows L2 Kx SX LamX Ms PnX
section
variable {P : Program} {w : World} {K : PySem.W.Frag} {mg : Str → Option Value} {base : Heap} (T : Tx K mg)
def crsF (r st lp : Addr) (b : Bool) : List (Str × V) := [("row", .ref r), ("is_steady", .bl b), ("stretches", .ref st), ("last_pair", .ref lp)]
theorem eq_ints {H : Hp} {a b : Addr} {xs ys : List Int} {Q : VK} (h1 : SqL K H a (xs.map V.int)) (h2 : SqL K H b (ys.map V.int)) (q : Q (.bl (decide (xs = ys))) H) : rEqD K (.ref a) (.ref b) H Q :=
  ⟨_, _, dp_ints h1, dp_ints h2, (pl_ints xs).shaped (by decide), (pl_ints ys).shaped (by decide), by rw [eqv_ints]; exact q⟩
theorem steady_dec (tr : List Nat) : decide (((tr.take 2).map fun n : Nat => (n : Int)) = [0, 1]) = steadyB tr := by
  unfold steadyB
  by_cases h : tr.take 2 = [0, 1]
  · rw [decide_eq_true h, h]
    rfl
  · rw [decide_eq_false h, decide_eq_false]
    intro z
    apply h
    generalize tr.take 2 = l at z
    match l, z with
    | [a, b], z =>
      have e1 : (a : Int) = 0 := by injection z
      have e2 : (b : Int) = 1 := by
        injection z with _ z
        injection z
      have e1 : a = 0 := by omega
      have e2 : b = 1 := by omega
      rw [e1, e2]
    | [], z => cases z
    | [a], z =>
      injection z with _ z
      cases z
    | a :: b :: c :: r, z =>
      injection z with _ z
      injection z with _ z
      cases z
/-- a course of a row, made behind B -/
def CrsAt (CC : Addr) (B H : Hp) (p : Addr) (row : List Nat) : Prop := ∃ (dx r st lp : Addr) (b : Bool) (tus : List (Addr × Addr)), H p = some (.ins CC dx (crsF r st lp b)) ∧ H r = some (.lst (rowV (thinI row))) ∧ b = steadyB (thinI row) ∧ B p = none ∧ B r = none ∧
  (b = true → (H st = some (.lst (tus.map fun x => V.ref x.1)) ∧ Paired (GrpAt H) tus (grps (thinI row))) ∧ H lp = some (.tup [.int (lastP (thinI row)).1, .bl (lastP (thinI row)).2]) ∧ B st = none ∧ ∀ x ∈ tus, B x.2 = none)
theorem CrsAt.same {CC : Addr} {B H H' : Hp} {p : Addr} {row : List Nat} (h : CrsAt CC B H p row) (e : Same H H') : CrsAt CC B H' p row := by
  obtain ⟨dx, r, st, lp, b, tus, h1, h2, h3, b1, b2, h4⟩ := h
  refine ⟨dx, r, st, lp, b, tus, e _ _ h1, e _ _ h2, h3, b1, b2, fun hb => ?_⟩
  obtain ⟨⟨k1, k2⟩, k3, b3⟩ := h4 hb
  exact ⟨⟨e _ _ k1, Paired.mapP k2 fun _ _ z => z.same e⟩, e _ _ k3, b3⟩
/-- what stood before is not of it -/
theorem CrsAt.rest {CC : Addr} {B H : Hp} {p : Addr} {row : List Nat} (h : CrsAt CC B H p row) {a c d : Addr} {C dx : Addr} {fs : List (Str × V)} {kk : List (Key × V)} {xs : List V} (ha : B a = some (.ins C dx fs)) (hc : B c = some (.dK kk)) (hd : B d = some (.lst xs)) (e : Same B H) : CrsAt CC B (rest3 a c d H) p row := by
  obtain ⟨dx, r, st, lp, b, tus, h1, h2, h3, b1, b2, h4⟩ := h
  have ne : ∀ {x y : Addr} {o : HO}, B x = none → B y = some o → x ≠ y := fun n s z => by rw [z, s] at n; cases n
  have all : ∀ {x : Addr} {o : HO}, H x = some o → B x = none → rest3 a c d H x = some o := fun h n => rest3_at h (ne n ha) (ne n hc) (ne n hd)
  have tup : ∀ {x : Addr} {xs : List V}, H x = some (.tup xs) → rest3 a c d H x = some (.tup xs) := fun h => rest3_at h (ne_of_two h (e _ _ ha) (fun z => by cases z)) (ne_of_two h (e _ _ hc) (fun z => by cases z)) (ne_of_two h (e _ _ hd) (fun z => by cases z))
  refine ⟨_, r, st, lp, b, tus, all h1 b1, all h2 b2, h3, b1, b2, fun hb => ?_⟩
  obtain ⟨⟨k1, k2⟩, k3, b3, b4⟩ := h4 hb
  exact ⟨⟨all k1 b3, paired_mapM k2 fun x m g z => ⟨tup z.1, all z.2 (b4 x m)⟩⟩, tup k3, b3, b4⟩
def sp_Course_init (K : PySem.W.Frag) (CC : Addr) : Sp := fun vs H Q _ => ∃ (p dx r : Addr) (row : List Nat) (B : Hp), vs = [.ref p, .ref r] ∧ H p = some (.ins CC dx []) ∧ SqT K H r (rowV row) ∧ row.length ≤ 90000 ∧ Same B H ∧ B p = none ∧
  ∀ H', Mv p H H' → CrsAt CC B H' p row → Q .non H'
theorem ok_Course_init : FnOk P w K mg base CX0 3 T.f_Course_init T.fd_Course_init ["self", "row"] (sp_Course_init K T.C_Course) := by
  refine T.F_Course_init.ok sc_Course_init (fun vs H Q E h => ?_) (fun cdv A outer s H vs Q E hr h => ?_)
  · obtain ⟨p, dx, r, row, B, rfl, _⟩ := h
    rfl
  · obtain ⟨p, dx, r, row, B, rfl, hp, hq, hl, eB, bp, q⟩ := h
    have bN : ∀ {x : Addr} {H' : Hp}, Mv p H H' → H' x = none → x ≠ p → B x = none := fun {x H'} m n ne => by
      cases z : B x with
      | none => rfl
      | some o =>
        have := m _ _ ne (eB _ _ z)
        rw [n] at this
        cases this
    refine ⟨_, (pss_cons (ps_fld (pv 0) (pe_call (ok_thinned T) (hr.mono (by decide)) (by rfl) T.g_thinned T.F_thinned.kp T.b_thinned .nil pass0 (pa_cons (pv 1) pa_nil)) rfl)
    (pss_cons (ps_fld (pv 0) (pe_cmpR (op_eqD hr.units) (pe_slice sl_list (pe_fld (pv 0) rfl) po_none (po_some pe_int)) (pe_lst (pa_cons (pe_glob (v := .int 0) (by rfl) T.c_OUTSET ⟨_, rfl⟩) (pa_cons (pe_glob (v := .int 1) (by rfl) T.c_UPLIFT ⟨_, rfl⟩) pa_nil))) (nomark _)) rfl)
    (pss_cons (ps_fld (pv 0) (pe_ifExp (pt_val (pe_fld (pv 0) rfl)) (pe_call (ok_stretches_of T) (hr.mono (by decide)) (by rfl) T.g_stretches_of T.F_stretches_of.kp T.b_stretches_of .nil pass0 (pa_cons (pe_fld (pv 0) rfl) pa_nil)) (pe_lst pa_nil)) rfl)
    (pss_one (ps_fld (pv 0) (pe_ifExp (pt_val (pe_fld (pv 0) rfl)) (pe_ix ix_list (pe_call (ok_behind_words T) (hr.mono (by decide)) (by rfl) T.g_behind_words T.F_behind_words.kp T.b_behind_words .nil pass0 (pa_cons (pe_fld (pv 0) rfl) pa_nil)) (pe_un un_neg pe_int) (fun _ _ => rfl)) (pe_tup (pa_cons (pe_un un_neg pe_int) (pa_cons pe_bl pa_nil)))) rfl))))), ?_⟩
    refine go_seq (go_sfld (go_call (go_cons (go_var rfl (go_nil ⟨r, row, rfl, hq, hl, fun D H1 nD e1 hD => ?_⟩)))))
    refine set_end (K := K) rfl (e1 _ _ hp) (Mv.refl p H1) T.cl_Course T.na_Course_row (by show 0 < 1000; decide) fun H2 m2 h2 => ?_
    have Dp : D ≠ p := ne_of_two hD (e1 _ _ hp) (fun z => by cases z)
    have hD2 := m2 _ _ Dp hD
    have bD : B D = none := bN (Mv.refl p H) nD Dp
    have m12 : Mv p H H2 := (Mv.of e1).trans m2
    clear e1 hD m2
    have lt := thin_len row
    obtain ⟨tr, htr⟩ : ∃ tr, tr = thinI row := ⟨_, rfl⟩
    have fin : ∀ (st lp : Addr) (b : Bool) (tus : List (Addr × Addr)) (H' : Hp), Mv p H H' → H' p = some (.ins T.C_Course dx (crsF D st lp b)) → H' D = some (.lst (rowV tr)) → b = steadyB tr → (b = true → (H' st = some (.lst (tus.map fun x => V.ref x.1)) ∧ Paired (GrpAt H') tus (grps tr)) ∧ H' lp = some (.tup [.int (lastP tr).1, .bl (lastP tr).2]) ∧ B st = none ∧ ∀ x ∈ tus, B x.2 = none) → Q .non H' :=
      fun st lp b tus H' m hp hD hb h => q H' m ⟨dx, D, st, lp, b, tus, hp, by rw [← htr]; exact hD, by rw [← htr]; exact hb, bp, bD, by rw [← htr]; exact h⟩
    rw [← htr] at lt hD2
    clear htr q
    dsimp only
    refine go_seq (go_sfld (go_op ?_))
    refine ⟨_, rfl, p, T.C_Course, dx, _, .ref D, rfl, h2, T.cl_Course, T.na_Course_row, rfl, _, rfl, D, _, rfl, .inl (.inl hD2), fun l1 nl1 => ?_⟩
    have ec : cutV (rowV tr) none (some 2) = ((tr.take 2).map fun n : Nat => (n : Int)).map V.int := by
      rw [show (2 : Int) = ((2 : Nat) : Int) from rfl, cut_to]
      unfold rowV
      rw [List.map_map, ← List.map_take]
      rfl
    rw [ec]
    have s1 := same_new (o := HO.lst (((tr.take 2).map fun n : Nat => (n : Int)).map V.int)) nl1
    have hl1 := upd_same (H := H2) (a := l1) (o := HO.lst (((tr.take 2).map fun n : Nat => (n : Int)).map V.int))
    generalize upd H2 l1 (HO.lst (((tr.take 2).map fun n : Nat => (n : Int)).map V.int)) = H3 at s1 hl1 ⊢
    refine go_lst (go_cons (go_c (go_cons (go_c (go_nil ⟨sz2, fun l2 nl2 => ?_⟩)))))
    have s2 := same_new (o := HO.lst [V.int 0, V.int 1]) nl2
    refine eq_ints (xs := (tr.take 2).map fun n : Nat => (n : Int)) (ys := [0, 1]) (.inl (.inl (s2 _ _ hl1))) (.inl (.inl upd_same)) ?_
    rw [steady_dec]
    have s12 := s1.trans s2
    have h2 := s12 _ _ h2
    have hD2 := s12 _ _ hD2
    have m12 := m12.trans (Mv.of s12)
    generalize upd H3 l2 (HO.lst [V.int 0, V.int 1]) = H4 at h2 hD2 m12 ⊢
    clear s1 hl1 s2 s12 nl1 nl2 ec
    refine set_end (K := K) rfl h2 (Mv.refl p H4) T.cl_Course T.na_Course_is_steady (by show 1 < 1000; decide) fun H5 m5 h5 => ?_
    have hD5 := m5 _ _ Dp hD2
    have m5 := m12.trans m5
    clear m12 h2 hD2
    generalize hb : steadyB tr = b at h5 fin ⊢
    dsimp only
    have hlt : tr.length ≤ 90000 := by omega
    refine go_seq (go_sfld (go_ife (go_b ⟨_, rfl, p, T.C_Course, dx, _, .bl b, rfl, h5, T.cl_Course, T.na_Course_is_steady, rfl, _, rfl, ?_⟩)))
    cases b with
    | false =>
      refine iteF (A := True) (go_lst (go_nil ⟨Nat.zero_le _, fun st nst => ?_⟩))
      have s6 := same_new (o := HO.lst []) nst
      refine set_end (K := K) rfl (s6 _ _ h5) (Mv.refl p _) T.cl_Course T.na_Course_stretches (by show 2 < 1000; decide) fun H7 m7 h7 => ?_
      have hD7 := m7 _ _ Dp (s6 _ _ hD5)
      have m7 := (m5.trans (Mv.of s6)).trans m7
      clear m5 h5 hD5 s6
      dsimp only
      refine go_sfld (go_ife (go_b ⟨_, rfl, p, T.C_Course, dx, _, .bl false, rfl, h7, T.cl_Course, T.na_Course_is_steady, rfl, _, rfl, ?_⟩))
      refine iteF (A := True) (go_tup (go_cons ⟨_, rfl, go_cons (go_c (go_nil ⟨sz2, fun lp nlp => ?_⟩))⟩))
      have s8 := same_new (o := HO.tup [V.int (-1), V.bl false]) nlp
      refine set_end (K := K) rfl (s8 _ _ h7) (Mv.refl p _) T.cl_Course T.na_Course_last_pair (by show 3 < 1000; decide) fun H9 m9 h9 => ?_
      exact fin st lp false [] H9 ((m7.trans (Mv.of s8)).trans m9) h9 (m9 _ _ Dp (s8 _ _ hD7)) rfl fun z => by cases z
    | true =>
      have tne : tr ≠ [] := fun z => by rw [z] at hb; cases hb
      refine iteT (B := True) (go_call (go_cons ⟨_, rfl, p, T.C_Course, dx, _, .ref D, rfl, h5, T.cl_Course, T.na_Course_row, rfl, go_nil ⟨D, tr, rfl, .inl (.inl hD5), hlt, fun st tus H6 nst hG => ?_⟩⟩))
      have p5 : H5 p ≠ none := fun z => by rw [h5] at z; cases z
      have stp : st ≠ p := fun e => p5 (e ▸ nst)
      have up : ∀ x ∈ tus, x.2 ≠ p := fun x m e => p5 (e ▸ hG.new x m)
      refine set_end (K := K) rfl (hG.old _ _ h5) (Mv.refl p _) T.cl_Course T.na_Course_stretches (by show 2 < 1000; decide) fun H7 m7 h7 => ?_
      have hD7 := m7 _ _ Dp (hG.old _ _ hD5)
      have st7 := m7 _ _ stp hG.at_
      have gp7 : Paired (GrpAt H7) tus (grps tr) := paired_mapM hG.all fun x m g z => ⟨m7 _ _ (ne_of_two z.1 (hG.old _ _ h5) (fun z => by cases z)) z.1, m7 _ _ (up x m) z.2⟩
      have bst : B st = none := bN m5 nst stp
      have bu : ∀ x ∈ tus, B x.2 = none := fun x m => bN m5 (hG.new x m) (up x m)
      have m7 := (m5.trans (Mv.of hG.old)).trans m7
      clear m5 h5 hD5 hG nst p5
      dsimp only
      refine go_sfld (go_ife (go_b ⟨_, rfl, p, T.C_Course, dx, _, .bl true, rfl, h7, T.cl_Course, T.na_Course_is_steady, rfl, _, rfl, ?_⟩))
      refine iteT (B := True) (go_op (go_call (go_cons ⟨_, rfl, p, T.C_Course, dx, _, .ref D, rfl, h7, T.cl_Course, T.na_Course_row, rfl, go_nil ⟨D, tr, rfl, .inl (.inl (.inl hD7)), hlt, fun B H8 nB e8 hP => ?_⟩⟩)))
      obtain ⟨ts, hB, hP⟩ := hP
      have bl := behindA_last p0 tr tne
      obtain ⟨ps', eps⟩ : ∃ ps', behindA p0 tr = ps' ++ [lastP tr] := by
        have hne : behindA p0 tr ≠ [] := fun z => by rw [z] at bl; cases bl
        have h := List.dropLast_concat_getLast hne
        rw [List.getLast?_eq_some_getLast hne] at bl
        rw [Option.some.inj bl] at h
        exact ⟨_, h.symm⟩
      rw [eps] at hP
      obtain ⟨ts', lp, rfl, _, hlp⟩ := paired_snocI hP
      refine ⟨_, rfl, B, _, -1, .ref lp, rfl, rfl, .inl (.inl (by rw [hB, List.map_append]; rfl)), at_last, ?_⟩
      refine set_end (K := K) rfl (e8 _ _ h7) (Mv.refl p _) T.cl_Course T.na_Course_last_pair (by show 3 < 1000; decide) fun H9 m9 h9 => ?_
      have lpp : lp ≠ p := ne_of_two hlp (e8 _ _ h7) (fun z => by cases z)
      refine fin st lp true tus H9 ((m7.trans (Mv.of e8)).trans m9) h9 (m9 _ _ Dp (e8 _ _ hD7)) rfl fun _ => ⟨⟨m9 _ _ stp (e8 _ _ st7), ?_⟩, m9 _ _ lpp hlp, bst, bu⟩
      exact paired_mapM gp7 fun x m g z => ⟨m9 _ _ (ne_of_two z.1 h7 (fun z => by cases z)) (e8 _ _ z.1), m9 _ _ (up x m) (e8 _ _ z.2)⟩
end
end K54
namespace K54
open PySem PySem.Spec PyProof.Rows L2 Kx SX LamX Ms PnX
section
variable {P : Program} {w : World} {K : PySem.W.Frag} {mg : Str → Option Value} {base : Heap} (T : Tx K mg)
def sp_do_pass (K : PySem.W.Frag) (CW CC : Addr) : Sp := fun vs H Q _ => ∃ (w c nl : Addr) (ns : List Int) (s : Mst) (m : Nat) (row : List Nat) (dx pc ps : Addr) (es : List (Int × Int)) (H0 B : Hp), vs = [.ref w, .ref c] ∧ WorkAt K CW H0 H w nl ns s m dx pc ps es ∧ CrsAt CC B H0 c row ∧ s.isd = false ∧
  (∀ n ∈ row, n < 30) ∧ (∀ k, Bd 4000 (doR ns s (row.take k))) ∧ m + row.length < 90000 ∧ ∀ H' es', WorkAt K CW H0 H' w nl ns (doR ns s row) (m + row.length) dx pc ps es' → Q .non H'
theorem ok_do_pass : FnOk P w K mg base CX0 4 T.f_do_pass T.fd_do_pass ["work", "course"] (sp_do_pass K T.C_Work T.C_Course) := by
  refine T.F_do_pass.ok sc_do_pass (fun vs H Q E h => ?_) (fun cdv A outer s H vs Q E hr h => ?_)
  · obtain ⟨w, c, nl, ns, s, m, row, dx, pc, ps, es, H0, B, rfl, _⟩ := h
    rfl
  · obtain ⟨w, c, nl, ns, s, m, row, dx, pc, ps, es, H0, B, rfl, hw, ⟨cx, r, st, lp, b, tus, hc, hrw, hb, _, _, hG⟩, hd, h30, hB, m9, q⟩ := h
    refine ⟨_, (pss_cons (ps_if (pt_not (pt_val (pe_fld (pv 1) rfl)))
      (pss_cons (ps_expr (pe_call (ok_do_row T) (hr.mono (by decide)) (by rfl) T.g_do_row T.F_do_row.kp T.b_do_row .nil pass0 (pa_cons (pv 0) (pa_cons (pe_fld (pv 1) rfl) pa_nil))))
      (pss_one ps_retN))
      pss_nil)
    (pss_cons (ps_for PassesOwn.never rfl (pi_list (pe_fld (pv 1) rfl)) (pg_tup rfl (pgs_cons (pg_name (i := 2) sc_do_pass.nd rfl (.inl rfl)) (pgs_cons (pg_name (i := 3) sc_do_pass.nd rfl (.inl rfl)) (pgs_cons (pg_name (i := 4) sc_do_pass.nd rfl (.inl rfl)) pgs_nil))))
      (pss_one (ps_if (pt_cmpR op_eq (pv 2) (pe_fld (pv 0) rfl) (nomark _))
        (pss_cons (ps_fld (pv 0) (pv 2) rfl)
        (pss_cons (ps_fld (pv 0) (pv 3) rfl)
        (pss_cons (ps_expr (pe_call (ok_do_row T) (hr.mono (by decide)) (by rfl) T.g_do_row T.F_do_row.kp T.b_do_row .nil pass0 (pa_cons (pv 0) (pa_cons (pv 4) pa_nil))))
        (pss_one (ps_if (pt_val (pe_fld (pv 0) rfl))
          (pss_one ps_retN)
          pss_nil)))))
        pss_nil)))
    (pss_one (ps_asg (pe_fld (pv 1) rfl) (pg_tup rfl (pgs_cons (pg_fld (pv 0)) (pgs_cons (pg_fld (pv 0)) pgs_nil))))))), ?_⟩
    have tl := thin_len row
    have t30 : ∀ n ∈ thinI row, n < 30 := fun n m => h30 n (thin_mem m)
    have tB : ∀ k, Bd 4000 (doR ns s ((thinI row).take k)) := fun k => by
      obtain ⟨j, e⟩ := thin_take row k
      rw [e, thin_same ns s _ fun n m => h30 n (List.mem_of_mem_take m)]
      exact hB j
    rw [← thin_same ns s row h30] at q
    generalize thinI row = tr at tl t30 tB hrw hb hG q
    refine go_seq (go_if (go_not (go_b ⟨_, rfl, c, T.C_Course, cx, _, .bl b, rfl, hw.old _ _ hc, T.cl_Course, T.na_Course_is_steady, rfl, _, rfl, ?_⟩)))
    cases b with
    | false =>
      refine iteT (B := True) (go_seq (go_drop (go_call (go_cons (go_var rfl (go_cons ⟨_, rfl, c, T.C_Course, cx, _, .ref r, rfl, hw.old _ _ hc, T.cl_Course, T.na_Course_row, rfl, go_nil ⟨w, nl, r, ns, s, m, tr, dx, pc, ps, es, H0, rfl, hw, .inl (.inl (.inl hrw)), t30, tB, by omega, fun H' es' h' => ?_⟩⟩))))))
      exact q H' es' (h'.mono (by omega))
    | true =>
      refine iteF (A := True) ?_
      dsimp only [tNext]
      obtain ⟨⟨hst, hgs⟩, hlp, _⟩ := hG rfl
      obtain ⟨kF, k1, k2⟩ := steady (R := Bd 4000) hb.symm tB hd
      have gsh := grps_short tr
      have gmem : ∀ g ∈ grps tr, ∀ n ∈ g.2.2, 3 ≤ n ∧ n ∈ tr := fun g hg n hn => grp_mem hg hn
      have gne := grps_ne tr
      generalize grps tr = gs at hgs kF k1 k2 gsh gmem gne
      have lg := hgs.length
      refine go_seq ?_
      refine ⟨_, rfl, c, T.C_Course, cx, _, .ref st, rfl, hw.old _ _ hc, T.cl_Course, T.na_Course_stretches, rfl, st, rfl, ⟨_, .inl (.inl (hw.old _ _ hst))⟩, for_list (xs := tus.map fun x => V.ref x.1) (fun i σ H' => ∃ (o2 o3 o4 : Option V) (es' : List (Int × Int)), σ = [some (.ref w), some (.ref c), o2, o3, o4] ∧
        WorkAt K T.C_Work H0 H' w nl ns (runF ns s (flatG (gs.take i))) (m + (flatG (gs.take i)).length) dx pc ps es' ∧ (runF ns s (flatG (gs.take i))).isd = false) ⟨_, _, _, es, rfl, hw, hd⟩ (fun i σ' H' _ h => ?_) (fun i v σ' Hd hv h => ?_) (fun σ' Hd h => ?_)⟩
      · obtain ⟨_, _, _, _, _, h, _⟩ := h
        exact .inl (.inl (h.old _ _ hst))
      · obtain ⟨o2, o3, o4, es', rfl, h, hnd⟩ := h
        obtain ⟨x, hx, rfl⟩ := map_at hv
        obtain ⟨g, hg⟩ : ∃ g, gs[i]? = some g := ⟨_, List.getElem?_eq_getElem (by have := (List.getElem?_eq_some_iff.mp hx).1; omega)⟩
        have gm := List.mem_of_getElem? hg
        have hxg := paired_at hgs hx hg
        have e1 := flatG_take_succ hg
        have e2 := flatG_split hg
        have lF : (flatG (gs.take i)).length + g.2.2.length ≤ tr.length := by
          have := congrArg List.length e2
          rw [List.length_append, List.length_append, List.length_map] at this
          omega
        rw [e2] at kF
        obtain ⟨_, kF⟩ := okF_app ns _ _ _ _ kF
        obtain ⟨kg, _⟩ := okF_app ns _ _ _ _ kF
        have rs : runF ns s (flatG gs) = runF ns (runF ns (runF ns s (flatG (gs.take i))) (g.2.2.map fun n => ((g.1, g.2.1), n))) (flatG (gs.drop (i + 1))) := by rw [e2, runF_app, runF_app]
        rw [e1, runF_app]
        generalize runF ns s (flatG (gs.take i)) = v at h hnd kg rs ⊢
        have ln1 : m + (flatG (gs.take i) ++ g.2.2.map fun n => ((g.1, g.2.1), n)).length = m + (flatG (gs.take i)).length + g.2.2.length := by rw [List.length_append, List.length_map]; omega
        rw [ln1]
        generalize (flatG (gs.take i)).length = L at h lF ⊢
        have g3 := fun n hn => (gmem g gm n hn).1
        have g30 : ∀ n ∈ g.2.2, n < 30 := fun n hn => t30 n (gmem g gm n hn).2
        have gn := gne g gm
        obtain ⟨b, k, ws⟩ := g
        dsimp only at kg rs g3 g30 gn lF ⊢
        have h1 : Hd x.1 = some (.tup [.int b, .bl k, .ref x.2]) := h.old _ _ hxg.1
        refine ⟨x.1, _, rfl, .inl (.inl h1), rfl, _, _, rfl, _, _, rfl, _, _, rfl, rfl, ?_⟩
        refine go_if (go_test (go_op (go_var rfl (rdW (K := K) rfl h T.cl_Work T.na_Work_room rfl ⟨rfl, _, rfl, ?_⟩))))
        rw [decI]
        by_cases hbr : b = v.room
        · rw [decide_eq_true hbr]
          refine iteT (B := True) ?_
          obtain ⟨n, r', rfl⟩ : ∃ n r', ws = n :: r' := by
            cases ws with
            | nil => exact absurd rfl gn
            | cons n r' => exact ⟨n, r', rfl⟩
          obtain ⟨f1, f2⟩ := grp_in ns (Bd 4000) (b, k) n r' v g3 hnd hbr kg
          refine go_seq (go_sfld (go_var rfl (stW (K := K) (t := { v with block := b }) rfl h T.cl_Work T.na_Work_block rfl rfl rfl fun H1 h1 => ?_)))
          dsimp only
          refine go_seq (go_sfld (go_var rfl (stW (K := K) (t := setP v (b, k)) rfl h1 T.cl_Work T.na_Work_tick rfl rfl rfl fun H2 h2 => ?_)))
          dsimp only
          have hu : H2 x.2 = some (.lst (rowV (n :: r'))) := h2.old _ _ hxg.2
          refine go_seq (go_drop (go_call (go_cons (go_var rfl (go_cons (go_var rfl (go_nil ⟨w, nl, x.2, ns, setP v (b, k), m + L, n :: r', dx, pc, ps, es', H0, rfl, h2, .inl (.inl (.inl hxg.2)), g30, f2, by omega, fun H3 es3 h3 => ?_⟩)))))))
          rw [← f1] at h3
          dsimp only
          refine go_if (go_b (rdW (K := K) rfl h3 T.cl_Work T.na_Work_is_done rfl ⟨_, rfl, iteC (fun e => ?_) (fun e => ?_)⟩))
          · rw [runF_done ns _ e] at rs
            have k1 := k1 (by rw [rs]; exact e)
            rw [rs] at k1
            rw [k1] at h3
            exact q H3 es3 (h3.mono (by omega))
          · exact ⟨_, _, _, es3, rfl, h3, e⟩
        · rw [decide_eq_false hbr]
          refine iteF (A := True) ?_
          have f1 := grp_out ns (b, k) v hbr ws
          rw [f1]
          exact ⟨_, _, _, es', rfl, h.mono (by omega), hnd⟩
      · obtain ⟨o2, o3, o4, es', rfl, h, hnd⟩ := h
        rw [List.length_map, lg, List.take_length] at h hnd
        have k2 := k2 hnd
        dsimp only
        refine go_asg ⟨_, rfl, c, T.C_Course, cx, _, .ref lp, rfl, h.old _ _ hc, T.cl_Course, T.na_Course_last_pair, rfl, lp, _, rfl, .inl (.inl (h.old _ _ hlp)), rfl, _, _, rfl, ?_⟩
        generalize runF ns s (flatG gs) = v at h k2
        exact stG (K := K) (t := { v with block := (lastP tr).1 }) rfl h T.cl_Work T.na_Work_block rfl rfl rfl fun H1 h1 => ⟨_, _, rfl, stG (K := K) (t := setP v (lastP tr)) rfl h1 T.cl_Work T.na_Work_tick rfl rfl rfl fun H2 h2 => ⟨rfl, q H2 _ (k2 ▸ h2.mono (by omega))⟩⟩
end
end K54
namespace K54
open PySem PySem.Spec PyProof.Rows L2 Kx SX LamX Ms PnX
section
variable {P : Program} {w : World} {K : PySem.W.Frag} {mg : Str → Option Value} {base : Heap} (T : Tx K mg)
theorem IntsV.same {H H' : Hp} {x : V} {b : Bool} (e : Same H H') (h : IntsV K H x b) : IntsV K H' x b := by
  rcases h with ⟨n, ht, hk, eb⟩ | ⟨q, zs, ex, hq, hi, hl, eb⟩
  · exact .inl ⟨n, tyx_same e ht, hk, eb⟩
  · exact .inr ⟨q, zs, ex, Same.q e hq, fun v m => (hi v m).same e, hl, eb⟩
def sp_check_run (K : PySem.W.Frag) (EH EN : Addr) : Sp := fun vs H Q E => ∃ (x y : V) (b : Bool), vs = [x, y] ∧ IntsV K H x b ∧ ((b = false ∧ RaisedPart E EH H "heard") ∨
  (b = true ∧ HasInt K H y ∧ ((withinV y (some 1) (some 20000) = false ∧ RaisedPart E EN H "passes") ∨ (withinV y (some 1) (some 20000) = true ∧ ∀ H', Same H H' → Q .non H'))))
theorem ok_check_run : FnOk P w K mg base (L2.CX P w) 5 T.f_check_run T.fd_check_run ["heard", "passes"] (sp_check_run K T.e_BadHeard.C T.e_BadNumber.C) := by
  refine T.F_check_run.okX sc_check_run (fun vs H Q E h => ?_) (fun cdv A outer s H vs Q E hr h => ?_)
  · obtain ⟨x, y, b, rfl, _⟩ := h
    rfl
  · obtain ⟨x, y, b, rfl, hx, h⟩ := h
    refine ⟨_, (pss_cons (ps_if (pt_not (pt_val (pe_call (ok_are_integers T) (hr.mono (by decide)) (by rfl) T.g_are_integers T.F_are_integers.kp T.b_are_integers .nil pass0 (pa_cons (pv 0) pa_nil))))
      (pss_one (ps_raise rfl (takes_of rfl rfl rfl rfl) (pmk_oex T.e_BadHeard.oex T.e_BadHeard.iC T.e_BadHeard.tI (ok_init T.e_BadHeard in_BadHeard) (hr.mono (by decide)) T.e_BadHeard.b .nil pass0 (by rfl) T.e_BadHeard.gC (pa_cons pe_str pa_nil))))
      pss_nil)
    (pss_one (ps_if (pt_not (pt_val (pe_call (ok_is_within T) (hr.mono (by decide)) (by rfl) T.g_is_within T.F_is_within.kp T.b_is_within .nil pass0 (pa_cons (pv 1) (pa_cons pe_int (pa_cons (pe_glob (v := .int 20000) (by rfl) T.c_MOST_PASSES ⟨_, rfl⟩) pa_nil))))))
      (pss_one (ps_raise rfl (takes_of rfl rfl rfl rfl) (pmk_oex T.e_BadNumber.oex T.e_BadNumber.iC T.e_BadNumber.tI (ok_init T.e_BadNumber in_BadNumber) (hr.mono (by decide)) T.e_BadNumber.b .nil pass0 (by rfl) T.e_BadNumber.gC (pa_cons pe_str pa_nil))))
      pss_nil))), ?_⟩
    refine go_seq (go_if (go_not (go_b ⟨_, rfl, x, b, rfl, hx, fun H1 e1 => ⟨_, rfl, ?_⟩⟩)))
    rcases h with ⟨rfl, hE⟩ | ⟨rfl, hy, h⟩
    · refine iteT (B := _) ?_
      exact mk_part T.e_BadHeard.oex T.e_BadHeard.np fun d H' e hd => hE d H' (e1.trans e) hd
    refine iteF (A := _) ?_
    dsimp only [tNext]
    refine go_if (go_not (go_b ⟨_, rfl, y, some 1, some 20000, rfl, hy.same e1, _, rfl, ?_⟩))
    rcases h with ⟨hw, hE⟩ | ⟨hw, q⟩
    · rw [hw]
      refine iteT (B := _) ?_
      exact mk_part T.e_BadNumber.oex T.e_BadNumber.np fun d H' e hd => hE d H' (e1.trans e) hd
    · rw [hw]
      exact iteF (A := True) (q H1 e1)
/-- what stands in a work, said left out -/
def partsV (s : Mst) (pc : Addr) : List V := [.int s.block, .int s.room, .bl s.tick, .bl s.flag, .bl s.test, .int s.mode, .int s.first, .int s.second, .ref pc, .int (s.heard : Nat), .bl s.isd]
def sp_stand_parts (K : PySem.W.Frag) (CW : Addr) : Sp := fun vs H Q _ => ∃ (w nl : Addr) (ns : List Int) (s : Mst) (m : Nat) (dx pc ps : Addr) (es : List (Int × Int)) (H0 : Hp), vs = [.ref w] ∧ WorkAt K CW H0 H w nl ns s m dx pc ps es ∧
  ∀ (t : Addr) (H' : Hp), Same H H' → H' t = some (.tup (partsV s pc)) → Q (.ref t) H'
theorem ok_stand_parts : FnOk P w K mg base CX0 1 T.f_stand_parts T.fd_stand_parts ["work"] (sp_stand_parts K T.C_Work) := by
  refine T.F_stand_parts.ok sc_stand_parts (fun vs H Q E h => ?_) (fun cdv A outer s H vs Q E hr h => ?_)
  · obtain ⟨w, nl, ns, s, m, dx, pc, ps, es, H0, rfl, _⟩ := h
    rfl
  · obtain ⟨w, nl, ns, s, m, dx, pc, ps, es, H0, rfl, hw, q⟩ := h
    refine ⟨_, (pss_one (ps_ret (pe_tup (pa_cons (pe_fld (pv 0) rfl) (pa_cons (pe_fld (pv 0) rfl) (pa_cons (pe_fld (pv 0) rfl) (pa_cons (pe_fld (pv 0) rfl) (pa_cons (pe_fld (pv 0) rfl) (pa_cons (pe_fld (pv 0) rfl) (pa_cons (pe_fld (pv 0) rfl) (pa_cons (pe_fld (pv 0) rfl) (pa_cons (pe_fld (pv 0) rfl) (pa_cons (pe_fld (pv 0) rfl) (pa_cons (pe_fld (pv 0) rfl) pa_nil)))))))))))))), ?_⟩
    refine go_ret (go_tup ?_)
    refine go_cons (rdW (K := K) rfl hw T.cl_Work T.na_Work_block rfl (go_cons (rdW (K := K) rfl hw T.cl_Work T.na_Work_room rfl (go_cons (rdW (K := K) rfl hw T.cl_Work T.na_Work_tick rfl (go_cons (rdW (K := K) rfl hw T.cl_Work T.na_Work_flag rfl ?_)))))))
    refine go_cons (rdW (K := K) rfl hw T.cl_Work T.na_Work_test rfl (go_cons (rdW (K := K) rfl hw T.cl_Work T.na_Work_mode rfl (go_cons (rdW (K := K) rfl hw T.cl_Work T.na_Work_first rfl (go_cons (rdW (K := K) rfl hw T.cl_Work T.na_Work_second rfl ?_)))))))
    refine go_cons (rdW (K := K) rfl hw T.cl_Work T.na_Work_cells rfl (go_cons (rdW (K := K) rfl hw T.cl_Work T.na_Work_heard rfl (go_cons (rdW (K := K) rfl hw T.cl_Work T.na_Work_is_done rfl (go_nil ⟨show 11 ≤ sizeLine by decide, fun t nt => ?_⟩))))))
    exact q t _ (same_new nt) upd_same
theorem parts_bs {H : Hp} {s t : Mst} {pc pc2 : Addr} {es fs : List (Int × Int)} (h1 : H pc = some (.dK (kvI es))) (h2 : H pc2 = some (.dK (kvI fs))) (ne : pc ≠ pc2) : EqBs H (partsV s pc) (partsV t pc2) (partsB s t es fs) := by
  have i : ∀ a b : Int, EqB H (.int a) (.int b) (decide (a = b)) := fun a b => .inl ⟨a, b, rfl, rfl, rfl⟩
  have j : ∀ a b : Bool, EqB H (.bl a) (.bl b) (decide (a = b)) := fun a b => .inr (.inl ⟨a, b, rfl, rfl, rfl⟩)
  refine .cons (i _ _) ?_
  refine .cons (i _ _) ?_
  refine .cons (j _ _) ?_
  refine .cons (j _ _) ?_
  refine .cons (j _ _) ?_
  refine .cons (i _ _) ?_
  refine .cons (i _ _) ?_
  refine .cons (i _ _) ?_
  refine .cons (.inr (.inr ⟨pc, pc2, es, fs, rfl, rfl, ne, h1, h2, rfl⟩)) ?_
  refine .cons (i _ _) ?_
  exact .cons (j _ _) .nil
/-- two works behind two rows, pass by pass -/
def BdP (ns : List Int) (row : List Nat) (k : Nat) : Prop := ∀ j, j < k → ∀ i, Bd 4000 (doR ns (iterR ns row startM j) (row.take i))
def optV : Option Nat → V
  | none => .non
  | some n => .int (n : Int)
def sp_parted_at (K : PySem.W.Frag) (CT EH EN : Addr) : Sp := fun vs H Q E => ∃ (x y z p : V) (o1 : Option (List Nat)), vs = [x, y, z, p] ∧ StrIs K H x o1 ∧ ((o1.elim false textB = false ∧ RaisedPart E CT H "text") ∨
  ∃ (l1 : List Nat) (o2 : Option (List Nat)), o1 = some l1 ∧ textB l1 = true ∧ StrIs K H y o2 ∧ ((o2.elim false textB = false ∧ RaisedPart E CT H "other") ∨
    ∃ (l2 : List Nat) (b : Bool), o2 = some l2 ∧ textB l2 = true ∧ IntsV K H z b ∧ ((b = false ∧ RaisedPart E EH H "heard") ∨ (b = true ∧ HasInt K H p ∧ ((withinV p (some 1) (some 20000) = false ∧ RaisedPart E EN H "passes") ∨
      ∃ (nl : Addr) (ns : List Int) (k : Nat) (r1 r2 : List Nat), z = .ref nl ∧ SqQ K H nl (ns.map V.int) ∧ p = .int (k : Int) ∧ 1 ≤ k ∧ k ≤ 100 ∧ r1 = readN plainL l1 ∧ r2 = readN plainL l2 ∧ r1.length ≤ 500 ∧ r2.length ≤ 500 ∧ (∀ n ∈ r1, n < 30) ∧ (∀ n ∈ r2, n < 30) ∧ BdP ns r1 k ∧ BdP ns r2 k ∧
        ∀ H', Same H H' → Q (optV (partedF ns r1 r2 k 0 startM startM)) H')))))
/-- where both works stand behind so many passes -/
structure TwoAt (K : PySem.W.Frag) (CW CC : Addr) (B H : Hp) (w1 c1 w2 c2 n1 n2 : Addr) (ns : List Int) (r1 r2 : List Nat) (s t : Mst) (m : Nat) (pc1 ps1 pc2 ps2 dx1 dx2 : Addr) (es1 es2 : List (Int × Int)) (B1 B2 : Hp) : Prop where
  one : WorkAt K CW B H w1 n1 ns s m dx1 pc1 ps1 es1
  two : WorkAt K CW B H w2 n2 ns t m dx2 pc2 ps2 es2
  ap : Apart w1 pc1 ps1 w2 pc2 ps2
  co : CrsAt CC B1 B c1 r1
  ct : CrsAt CC B2 B c2 r2
theorem sqT_rest {CW : Addr} {B H : Hp} {w nl dx pc ps n : Addr} {ns : List Int} {s : Mst} {m : Nat} {es : List (Int × Int)} {xs : List V} (h : WorkAt K CW B H w nl ns s m dx pc ps es) (q : SqT K H n xs) : SqT K (rest3 w pc ps H) n xs := by
  rcases q with (q | ⟨ob, q⟩) | q
  · exact .inl (.inl (rest3_at q (ne_of_two q h.at_ (fun z => by cases z)) (ne_of_two q h.cat (fun z => by cases z)) (ne_of_two q h.sat (fun z => by cases z))))
  · exact .inl (.inr ⟨ob, rest3_at q (ne_of_two q h.at_ (fun z => by cases z)) (ne_of_two q h.cat (fun z => by cases z)) (ne_of_two q h.sat (fun z => by cases z))⟩)
  · exact .inr q
theorem CrsAt.restW {CC CW : Addr} {B H G0 G : Hp} {p w nl dx pc ps : Addr} {row : List Nat} {ns : List Int} {s : Mst} {m : Nat} {es : List (Int × Int)} (h : CrsAt CC B H p row) (hw : WorkAt K CW G0 G w nl ns s m dx pc ps es) (e : Same H G)
    (bw : ∃ o, B w = some o) (bc : ∃ o, B pc = some o) (bp : ∃ o, B ps = some o) : CrsAt CC B (rest3 w pc ps H) p row := by
  obtain ⟨o1, bw⟩ := bw
  obtain ⟨o2, bc⟩ := bc
  obtain ⟨o3, bp⟩ := bp
  obtain ⟨dx, r, st, lp, b, tus, h1, h2, h3, b1, b2, h4⟩ := h
  have ne : ∀ {x y : Addr} {o : HO}, B x = none → B y = some o → x ≠ y := fun n s z => by rw [z, s] at n; cases n
  have all : ∀ {x : Addr} {o : HO}, H x = some o → B x = none → rest3 w pc ps H x = some o := fun h n => rest3_at h (ne n bw) (ne n bc) (ne n bp)
  have tup : ∀ {x : Addr} {xs : List V}, H x = some (.tup xs) → rest3 w pc ps H x = some (.tup xs) := fun h => rest3_at h (ne_of_two (e _ _ h) hw.at_ (fun z => by cases z)) (ne_of_two (e _ _ h) hw.cat (fun z => by cases z)) (ne_of_two (e _ _ h) hw.sat (fun z => by cases z))
  refine ⟨_, r, st, lp, b, tus, all h1 b1, all h2 b2, h3, b1, b2, fun hb => ?_⟩
  obtain ⟨⟨k1, k2⟩, k3, b3, b4⟩ := h4 hb
  exact ⟨⟨all k1 b3, paired_mapM k2 fun x m g z => ⟨tup z.1, all z.2 (b4 x m)⟩⟩, tup k3, b3, b4⟩
theorem two_made {CW CC : Addr} {H2 H5 H6 H7 H10 H11 : Hp} {w1 c1 w2 c2 n1 n2 pc1 ps1 pc2 ps2 dx1 dx2 : Addr} {ns : List Int} {r1 r2 : List Nat} (hW1 : WorkAt K CW H2 H5 w1 n1 ns startM 0 dx1 pc1 ps1 []) (e56 : Same H5 H6) (hC1 : CrsAt CC H5 H6 c1 r1) (e67 : Same H6 H7)
    (hN2 : SqT K H7 n2 (ns.map V.int)) (hW2 : WorkAt K CW H7 H10 w2 n2 ns startM 0 dx2 pc2 ps2 []) (e1011 : Same H10 H11) (hC2 : CrsAt CC H10 H11 c2 r2) :
    ∃ B, TwoAt K CW CC B H11 w1 c1 w2 c2 n1 n2 ns r1 r2 startM startM 0 pc1 ps1 pc2 ps2 dx1 dx2 [] [] H5 H10 ∧ Same H2 B := by
  have h2 := hW2.same e1011
  have e57 := e56.trans e67
  have e7b := h2.base
  have h17 := hW1.same e57
  have h110 := h17.same hW2.old
  have h111 := h110.same e1011
  have x1 : ∀ {p : Addr} {o : HO}, H5 p = some o → H7 p = some o := fun z => e57 _ _ z
  have ne7 : ∀ {x y : Addr} {o : HO}, H7 x = none → H7 y = some o → y ≠ x := fun n s z => by rw [z, n] at s; cases s
  have b2 : Same (rest3 w1 pc1 ps1 H7) (rest3 w1 pc1 ps1 (rest3 w2 pc2 ps2 H11)) := rest3_mono e7b
  have e0 : Same H2 (rest3 w1 pc1 ps1 (rest3 w2 pc2 ps2 H11)) := h17.base.trans b2
  have e1 : Same (rest3 w1 pc1 ps1 (rest3 w2 pc2 ps2 H11)) H11 := rest3_sub.trans rest3_sub
  have n2' : SqT K (rest3 w1 pc1 ps1 (rest3 w2 pc2 ps2 H11)) n2 (ns.map V.int) := Same.t b2 (sqT_rest h17 hN2)
  have none2 : ∀ {x : Addr}, rest3 w2 pc2 ps2 H11 x = none → rest3 w1 pc1 ps1 (rest3 w2 pc2 ps2 H11) x = none := fun {x} h => by
    cases z : rest3 w1 pc1 ps1 (rest3 w2 pc2 ps2 H11) x with
    | none => rfl
    | some o =>
      rw [(rest3_of z).1] at h
      cases h
  refine ⟨rest3 w1 pc1 ps1 (rest3 w2 pc2 ps2 H11), ⟨h111.rebase e0 e1 (rest3_none (.inl rfl)) (rest3_none (.inr (.inl rfl))) (rest3_none (.inr (.inr rfl))), ?_, ⟨?_, ?_, ?_⟩, ?_, ?_⟩, e0⟩
  · exact { h2 with num := .inr n2', old := e1, nw := none2 (rest3_none (.inl rfl)), nc := none2 (rest3_none (.inr (.inl rfl))), np := none2 (rest3_none (.inr (.inr rfl))) }
  · exact (ne7 hW2.nw h17.at_).symm
  · exact (ne7 hW2.nc h17.cat).symm
  · exact (ne7 hW2.np h17.sat).symm
  · exact (hC1.restW (hW1.same e56) (Same.refl _) ⟨_, hW1.at_⟩ ⟨_, hW1.cat⟩ ⟨_, hW1.sat⟩).same ((rest3_mono e67).trans b2)
  · have k := hC2.restW h2 (Same.refl _) ⟨_, hW2.at_⟩ ⟨_, hW2.cat⟩ ⟨_, hW2.sat⟩
    exact k.restW h111 rest3_sub ⟨_, h110.at_⟩ ⟨_, h110.cat⟩ ⟨_, h110.sat⟩
end
end K54
namespace K54
open PySem PySem.Spec PyProof.Rows L2 Kx SX LamX Ms PnX
section
variable {P : Program} {w : World} {K : PySem.W.Frag} {mg : Str → Option Value} {base : Heap} (T : Tx K mg)
theorem made_same {H : Hp} {x dx : Addr} {o1 o2 : HO} (nx : H x = none) (ndx : H dx = none) : Same H (upd (upd H dx o1) x o2) := fun b u h => by
  rw [upd_ne (ne_of_none h nx), upd_ne (ne_of_none h ndx)]
  exact h
theorem made_mv {H H' : Hp} {x dx : Addr} {o1 o2 : HO} (nx : H x = none) (ndx : H dx = none) (m : Mv x (upd (upd H dx o1) x o2) H') : Same H H' := fun b u h => m b u (ne_of_none h nx) (made_same nx ndx b u h)
theorem parted_like {ns : List Int} {r1 r2 : List Nat} {d j : Nat} {s t : Mst} (h : doR ns s r1 = doR ns t r2) : partedF ns r1 r2 (d + 1) j s t = partedF ns r1 r2 d (j + 1) (doR ns s r1) (doR ns t r2) := by
  conv => lhs; unfold partedF
  rw [if_pos h]
theorem parted_unlike {ns : List Int} {r1 r2 : List Nat} {d j : Nat} {s t : Mst} (h : doR ns s r1 ≠ doR ns t r2) : partedF ns r1 r2 (d + 1) j s t = some (j + 1) := by
  unfold partedF
  rw [if_neg h]
theorem ok_parted_at : FnOk P w K mg base (L2.CX P w) 12 T.f_parted_at T.fd_parted_at ["text", "other", "heard", "passes"] (sp_parted_at K T.e_BadText.C T.e_BadHeard.C T.e_BadNumber.C) := by
  refine T.F_parted_at.okX sc_parted_at (fun vs H Q E h => ?_) (fun cdv A outer s H vs Q E hr h => ?_)
  · obtain ⟨x, y, z, p, o1, rfl, _⟩ := h
    rfl
  · obtain ⟨x, y, z, p, o1, rfl, hx, h⟩ := h
    refine ⟨_, (pss_cons (ps_if (pt_not (pt_val (pe_call (ok_is_text T) (hr.mono (by decide)) (by rfl) T.g_is_text T.F_is_text.kp T.b_is_text .nil pass0 (pa_cons (pv 0) pa_nil))))
      (pss_one (ps_raise rfl (takes_of rfl rfl rfl rfl) (pmk_oex T.e_BadText.oex T.e_BadText.iC T.e_BadText.tI (ok_init T.e_BadText in_BadText) (hr.mono (by decide)) T.e_BadText.b .nil pass0 (by rfl) T.e_BadText.gC (pa_cons pe_str pa_nil))))
      pss_nil)
    (pss_cons (ps_if (pt_not (pt_val (pe_call (ok_is_text T) (hr.mono (by decide)) (by rfl) T.g_is_text T.F_is_text.kp T.b_is_text .nil pass0 (pa_cons (pv 1) pa_nil))))
      (pss_one (ps_raise rfl (takes_of rfl rfl rfl rfl) (pmk_oex T.e_BadText.oex T.e_BadText.iC T.e_BadText.tI (ok_init T.e_BadText in_BadText) (hr.mono (by decide)) T.e_BadText.b .nil pass0 (by rfl) T.e_BadText.gC (pa_cons pe_str pa_nil))))
      pss_nil)
    (pss_cons (ps_expr (pe_call (ok_check_run T) (hr.mono (by decide)) (by rfl) T.g_check_run T.F_check_run.kp T.b_check_run .nil (passes_call (takes_of rfl rfl rfl rfl) (fun _ _ _ _ h => h)) (pa_cons (pv 2) (pa_cons (pv 3) pa_nil))))
    (pss_cons (ps_par (i := 4) (j := 5) rfl sc_parted_at.nd rfl rfl (by decide) rfl rfl (pa_cons (pe_make T.mk_Work (ok_Work_init T) (hr.mono (by decide)) (by rfl) T.gC_Work T.b_Work_init .nil pass0 (pa_cons (pe_callTy call_tupleQ (by rfl) T.m_tuple (by decide +kernel) (pa_cons (pv 2) pa_nil)) pa_nil)) (pa_cons (pe_make T.mk_Course (ok_Course_init T) (hr.mono (by decide)) (by rfl) T.gC_Course T.b_Course_init .nil pass0 (pa_cons (pe_call (ok_read T) (hr.mono (by decide)) (by rfl) T.g_read T.F_read.kp T.b_read .nil (passes_call (takes_of rfl rfl rfl rfl) (fun _ _ _ _ h => h)) (pa_cons (pe_call0 (ok_plain_book T) (hr.mono (by decide)) (by rfl) T.g_plain_book T.F_plain_book.kp T.b_plain_book .nil pass0) (pa_cons (pv 0) pa_nil))) pa_nil)) pa_nil)) (by rfl))
    (pss_cons (ps_par (i := 6) (j := 7) rfl sc_parted_at.nd rfl rfl (by decide) rfl rfl (pa_cons (pe_make T.mk_Work (ok_Work_init T) (hr.mono (by decide)) (by rfl) T.gC_Work T.b_Work_init .nil pass0 (pa_cons (pe_callTy call_tupleQ (by rfl) T.m_tuple (by decide +kernel) (pa_cons (pv 2) pa_nil)) pa_nil)) (pa_cons (pe_make T.mk_Course (ok_Course_init T) (hr.mono (by decide)) (by rfl) T.gC_Course T.b_Course_init .nil pass0 (pa_cons (pe_call (ok_read T) (hr.mono (by decide)) (by rfl) T.g_read T.F_read.kp T.b_read .nil (passes_call (takes_of rfl rfl rfl rfl) (fun _ _ _ _ h => h)) (pa_cons (pe_call0 (ok_plain_book T) (hr.mono (by decide)) (by rfl) T.g_plain_book T.F_plain_book.kp T.b_plain_book .nil pass0) (pa_cons (pv 1) pa_nil))) pa_nil)) pa_nil)) (by rfl))
    (pss_cons (ps_for (passes_of rfl) rfl (pi_range1 (by rfl) T.m_range (pa_cons (pv 3) pa_nil)) (pg_name (i := 8) sc_parted_at.nd rfl (.inl rfl))
      (pss_cons (ps_set (i := 9) sc_parted_at.nd rfl (.inl rfl) (pe_callB call_len_seq (by rfl) T.m_len PySem.boot_len (pa_cons (pe_fld (pv 4) rfl) pa_nil)))
      (pss_cons (ps_expr (pe_call (ok_do_pass T) (hr.mono (by decide)) (by rfl) T.g_do_pass T.F_do_pass.kp T.b_do_pass .nil pass0 (pa_cons (pv 4) (pa_cons (pv 5) pa_nil))))
      (pss_cons (ps_expr (pe_call (ok_do_pass T) (hr.mono (by decide)) (by rfl) T.g_do_pass T.F_do_pass.kp T.b_do_pass .nil pass0 (pa_cons (pv 6) (pa_cons (pv 7) pa_nil))))
      (pss_cons (ps_if (PW.pt (pw_or (pt_cmpR (op_neT hr.units) (pe_call (ok_stand_parts T) (hr.mono (by decide)) (by rfl) T.g_stand_parts T.F_stand_parts.kp T.b_stand_parts .nil pass0 (pa_cons (pv 4) pa_nil)) (pe_call (ok_stand_parts T) (hr.mono (by decide)) (by rfl) T.g_stand_parts T.F_stand_parts.kp T.b_stand_parts .nil pass0 (pa_cons (pv 6) pa_nil)) (nomark _)) (pw_or1 (pt_cmpR (op_neD hr.units) (pe_slice sl_list (pe_fld (pv 4) rfl) (po_some (pv 9)) po_none) (pe_slice sl_list (pe_fld (pv 6) rfl) (po_some (pv 9)) po_none) (nomark _)))))
        (pss_one (ps_ret (pe_op op_add (pv 8) pe_int)))
        pss_nil)
      (pss_one (ps_if (pt_val (pe_fld (pv 4) rfl))
        (pss_one (ps_ret pe_non))
        pss_nil)))))))
    (pss_one (ps_ret pe_non)))))))), ?_⟩
    refine go_seq (go_if (go_not (go_b ⟨_, rfl, x, o1, rfl, hx, _, rfl, ?_⟩)))
    rcases h with ⟨hf, hE⟩ | ⟨l1, o2, rfl, hT1, hy, h⟩
    · rw [hf]
      exact iteT (B := True) (mk_part T.e_BadText.oex T.e_BadText.np hE)
    rw [show (some l1).elim false textB = true from hT1]
    refine iteF (A := True) ?_
    dsimp only [tNext]
    refine go_seq (go_if (go_not (go_b ⟨_, rfl, y, o2, rfl, hy, _, rfl, ?_⟩)))
    rcases h with ⟨hf, hE⟩ | ⟨l2, b, rfl, hT2, hz, h⟩
    · rw [hf]
      exact iteT (B := True) (mk_part T.e_BadText.oex T.e_BadText.np hE)
    rw [show (some l2).elim false textB = true from hT2]
    refine iteF (A := True) ?_
    dsimp only [tNext]
    refine go_seq (go_drop ⟨_, rfl, _, rfl, z, p, b, rfl, hz, ?_⟩)
    rcases h with ⟨rfl, hE⟩ | ⟨rfl, hp, h⟩
    · exact .inl ⟨rfl, hE⟩
    refine .inr ⟨rfl, hp, ?_⟩
    rcases h with ⟨hw, hE⟩ | ⟨nl, ns, k, r1, r2, rfl, hN, rfl, k1, k2, er1, er2, lr1, lr2, r1n, r2n, hB1, hB2, q⟩
    · exact .inl ⟨hw, hE⟩
    have hw : withinV (.int (k : Int)) (some 1) (some 20000) = true := by
      show (decide ((1 : Int) ≤ (k : Int)) && decide ((k : Int) ≤ 20000)) = true
      rw [decide_eq_true (by omega), decide_eq_true (by omega)]
      rfl
    refine .inr ⟨hw, fun H1 e1 => ?_⟩
    have hN := Same.q e1 hN
    have q := fun H' (e : Same H1 H') => q H' (e1.trans e)
    clear hz hp e1
    dsimp only
    have pl := plain_len
    obtain ⟨rfl, hx⟩ := hx
    obtain ⟨rfl, hy⟩ := hy
    refine go_seq (go_par2 (go_cons (go_make (go_cons (go_cb (go_cons (go_var rfl (go_nil ⟨nl, _, rfl, hN, fun n1 H2 e2 hN1 => ?_⟩))))))))
    refine go_nil fun w1 x1 nw1 nx1 _ => work_new (sp := sp_Work_init K T.C_Work) (fun _ _ _ _ h => h) nw1 nx1 (.inr hN1) fun H3 pc1 ps1 hW1 => ⟨rfl, ?_⟩
    refine go_cons (go_make (go_cons ?_))
    refine ⟨rfl, fun bk1 H4 e4 hb1 => ?_⟩
    refine ⟨_, rfl, bk1, plainL, _, some l1, rfl, hb1, by omega, plain_nodup, ⟨rfl, hx⟩, fun z => ?_, fun l el _ t1 H5 ht1 e5 => ?_⟩
    · rw [show (some l1).elim false textB = true from hT1] at z
      cases z
    cases el
    refine go_nil fun c1 y1 nc1 ny1 _ => ?_
    rw [← er1] at ht1
    have ms1 := made_same (o1 := HO.own c1) (o2 := HO.ins T.C_Course y1 []) nc1 ny1
    refine ⟨c1, y1, t1, r1, H5, rfl, upd_same, .inl (.inl (ms1 _ _ ht1)), by omega, ms1, nc1, fun H6 m6 hC1 => ⟨rfl, ?_⟩⟩
    have e6 := made_mv nc1 ny1 m6
    have hW1 := hW1.same (e4.trans e5)
    have hN6 := Same.q (e2.trans (hW1.old.trans e6)) hN
    clear m6 ms1 ht1 e5 e4 nw1 nx1 hb1
    refine go_nil ⟨_, _, rfl, ?_⟩
    dsimp only
    refine go_seq (go_par2 (go_cons (go_make (go_cons (go_cb (go_cons (go_var rfl (go_nil ⟨nl, _, rfl, hN6, fun n2 H7 e7 hN2 => ?_⟩))))))))
    refine go_nil fun w2 x2 nw2 nx2 _ => work_new (sp := sp_Work_init K T.C_Work) (fun _ _ _ _ h => h) nw2 nx2 (.inr hN2) fun H8 pc2 ps2 hW2 => ⟨rfl, ?_⟩
    refine go_cons (go_make (go_cons ?_))
    refine ⟨rfl, fun bk2 H9 e9 hb2 => ?_⟩
    refine ⟨_, rfl, bk2, plainL, _, some l2, rfl, hb2, by omega, plain_nodup, ⟨rfl, hy⟩, fun z => ?_, fun l el _ t2 H10 ht2 e10 => ?_⟩
    · rw [show (some l2).elim false textB = true from hT2] at z
      cases z
    cases el
    refine go_nil fun c2 y2 nc2 ny2 _ => ?_
    rw [← er2] at ht2
    have ms2 := made_same (o1 := HO.own c2) (o2 := HO.ins T.C_Course y2 []) nc2 ny2
    refine ⟨c2, y2, t2, r2, H10, rfl, upd_same, .inl (.inl (ms2 _ _ ht2)), by omega, ms2, nc2, fun H11 m11 hC2 => ⟨rfl, ?_⟩⟩
    have e11 := made_mv nc2 ny2 m11
    have hW2 := hW2.same (e9.trans e10)
    obtain ⟨B, hT, eB⟩ := two_made hW1 e6 hC1 e7 hN2 hW2 e11 hC2
    have q := fun H' (e : Same B H') => q H' (e2.trans (eB.trans e))
    clear hW1 e6 hC1 e7 hN2 hW2 e11 hC2 e9 e10 ms2 m11 ht2 nc2 ny2 nw2 nx2 hb2 eB e2 hN hN6 hN1 nc1 ny1
    refine go_nil ⟨_, _, rfl, ?_⟩
    dsimp only
    refine go_seq ⟨_, rfl, (k : Int), rfl, by omega, by omega, ?_⟩
    rw [Int.toNat_natCast]
    refine for_range (lo := 0) (n := k) (fun i σ H' => ∃ (o8 o9 : Option V) (m : Nat) (es1 es2 : List (Int × Int)), σ = [some (.str (S l1)), some (.str (S l2)), some (.ref nl), some (.int (k : Int)), some (.ref w1), some (.ref c1), some (.ref w2), some (.ref c2), o8, o9] ∧
      TwoAt K T.C_Work T.C_Course B H' w1 c1 w2 c2 n1 n2 ns r1 r2 (iterR ns r1 startM i) (iterR ns r2 startM i) m pc1 ps1 pc2 ps2 x1 x2 es1 es2 H5 H10 ∧ m ≤ 500 * i ∧ iterR ns r1 startM i = iterR ns r2 startM i ∧ (iterR ns r1 startM i).isd = false ∧
      partedF ns r1 r2 k 0 startM startM = partedF ns r1 r2 (k - i) i (iterR ns r1 startM i) (iterR ns r2 startM i)) ⟨_, _, 0, [], [], rfl, hT, Nat.zero_le _, rfl, rfl, rfl⟩ (fun i σ' Hd hi h => ?_) (fun σ' Hd h => ?_)
    · obtain ⟨o8, o9, m, es1, es2, rfl, hT, hm, hs, hnd, hF⟩ := h
      dsimp only [gName]
      have hndt : (iterR ns r2 startM i).isd = false := by rw [← hs]; exact hnd
      have h1B : ∀ j, Bd 4000 (doR ns (iterR ns r1 startM i) (r1.take j)) := fun j => hB1 i hi j
      have h2B : ∀ j, Bd 4000 (doR ns (iterR ns r2 startM i) (r2.take j)) := fun j => hB2 i hi j
      have i1 : iterR ns r1 startM (i + 1) = doR ns (iterR ns r1 startM i) r1 := rfl
      have i2 : iterR ns r2 startM (i + 1) = doR ns (iterR ns r2 startM i) r2 := rfl
      obtain ⟨d, hdk⟩ : ∃ d, k - i = d + 1 := ⟨k - i - 1, by omega⟩
      have hdk2 : k - (i + 1) = d := by omega
      rw [hdk] at hF
      have hF1 := fun h => hF.trans (parted_like h)
      have hF2 := fun h => hF.trans (parted_unlike h)
      clear hF
      rw [i1, i2, hdk2]
      generalize iterR ns r1 startM i = s at hT hs hnd h1B hF1 hF2 ⊢
      generalize iterR ns r2 startM i = t at hT hs hndt h2B hF1 hF2 ⊢
      subst hs
      obtain ⟨sd1, hsd1⟩ := doR_said ns r1 s
      obtain ⟨sd2, hsd2⟩ := doR_said ns r2 s
      obtain ⟨L, hL⟩ : ∃ L, L = s.said.length := ⟨_, rfl⟩
      refine go_seq (go_asg (go_cb (go_cons (rdW (K := K) rfl hT.one T.cl_Work T.na_Work_said rfl (go_nil ⟨ps1, _, rfl, .inl (.inl (.inl hT.one.sat)), ?_⟩)))))
      rw [List.length_map, ← hL]
      dsimp only [gName]
      refine go_seq (go_drop (go_call (go_cons (go_var rfl (go_cons (go_var rfl (go_nil ⟨w1, c1, n1, ns, s, m, r1, x1, pc1, ps1, es1, _, H5, rfl, hT.one.root, hT.co.same hT.one.base, hnd, r1n, h1B, by omega, fun H' es1' h' => ?_⟩)))))))
      have one := hT.one.unroot h'
      have two := hT.one.other hT.two hT.ap h'.old
      dsimp only
      refine go_seq (go_drop (go_call (go_cons (go_var rfl (go_cons (go_var rfl (go_nil ⟨w2, c2, n2, ns, s, m, r2, x2, pc2, ps2, es2, _, H10, rfl, two.root, hT.ct.same two.base, hndt, r2n, h2B, by omega, fun H'' es2' h'' => ?_⟩)))))))
      have one := (two.other one hT.ap.swap h''.old).mono (show m + r1.length ≤ m + 500 by omega)
      have two := (two.unroot h'').mono (show m + r2.length ≤ m + 500 by omega)
      have ap := hT.ap
      have co := hT.co
      have ct := hT.ct
      clear hT h' h'' h1B h2B hnd hndt
      generalize doR ns s r1 = s1 at hsd1 one hF1 hF2 ⊢
      generalize doR ns s r2 = s2 at hsd2 two hF1 hF2 ⊢
      dsimp only
      refine go_seq (go_if (go_or2 (go_test (go_op (go_call (go_cons (go_var rfl (go_nil ⟨w1, n1, ns, s1, m + 500, x1, pc1, ps1, es1', B, rfl, one, fun t1 H3 e3 ht1 => ?_⟩))))))))
      refine go_call (go_cons (go_var rfl (go_nil ⟨w2, n2, ns, s2, m + 500, x2, pc2, ps2, es2', B, rfl, two.same e3, fun t2 H4 e4 ht2 => ?_⟩)))
      have ht1 := e4 _ _ ht1
      have one := one.same (e3.trans e4)
      have two := two.same (e3.trans e4)
      clear e3 e4
      refine ⟨t1, t2, _, _, _, rfl, rfl, .inl (.inl ht1), .inl (.inl ht2), parts_bs (s := s1) (t := s2) one.cat two.cat ap.c.symm, ⟨_, rfl, ?_⟩⟩
      have hpe := parts_eq one.cl two.cl
      have ri : ((i + 1 : Nat) : Int) = 0 + (i : Int) + 1 := by omega
      have other : s1 ≠ s2 → Q (.int (0 + (i : Int) + 1)) H4 := fun ne => by
        rw [hF2 ne] at q
        have z := q H4 one.old
        have ev : optV (some (i + 1)) = V.int (0 + (i : Int) + 1) := by
          show V.int ((i + 1 : Nat) : Int) = _
          rw [ri]
        rw [ev] at z
        exact z
      by_cases hp : (partsB s1 s2 es1' es2').all id = true
      · rw [hp]
        refine iteF (A := True) ?_
        obtain ⟨l, el⟩ := hpe.mp hp
        refine go_test (go_op ?_)
        refine ⟨_, rfl, w1, T.C_Work, x1, _, .ref ps1, rfl, one.at_, T.cl_Work, T.na_Work_said, rfl, _, rfl, (L : Int), rfl, ps1, _, rfl, .inl (.inl one.sat), fun p1 np1 => ?_⟩
        rw [cut_fromI (by omega), Int.toNat_natCast]
        have u1 := same_new (o := HO.lst ((s1.said.drop L).map V.int)) np1
        have hp1 := upd_same (H := H4) (a := p1) (o := HO.lst ((s1.said.drop L).map V.int))
        have one := one.same u1
        have two := two.same u1
        generalize upd H4 p1 (HO.lst ((s1.said.drop L).map V.int)) = H5' at u1 hp1 one two ⊢
        refine ⟨_, rfl, w2, T.C_Work, x2, _, .ref ps2, rfl, two.at_, T.cl_Work, T.na_Work_said, rfl, _, rfl, (L : Int), rfl, ps2, _, rfl, .inl (.inl two.sat), fun p2 np2 => ?_⟩
        rw [cut_fromI (by omega), Int.toNat_natCast]
        have u2 := same_new (o := HO.lst ((s2.said.drop L).map V.int)) np2
        have u12 := u1.trans u2
        refine ne_ints (.inl (.inl (u2 _ _ hp1))) (.inl (.inl upd_same)) ⟨_, rfl, ?_⟩
        have one := one.same u2
        have two := two.same u2
        generalize upd H5' p2 (HO.lst ((s2.said.drop L).map V.int)) = H6' at u12 one two ⊢
        clear u1 u2 hp1 np1 np2 ht1 ht2
        have other : s1 ≠ s2 → Q (.int (0 + (i : Int) + 1)) H6' := fun ne => by
          rw [hF2 ne] at q
          have z := q H6' one.old
          have ev : optV (some (i + 1)) = V.int (0 + (i : Int) + 1) := by
            show V.int ((i + 1 : Nat) : Int) = _
            rw [ri]
          rw [ev] at z
          exact z
        have d1 : s1.said.drop L = sd1 := by rw [hsd1, hL, List.drop_left]
        have d2 : s2.said.drop L = sd2 := by rw [hsd2, hL, List.drop_left]
        rw [d1, d2]
        by_cases hsd : sd1 = sd2
        · rw [decide_eq_true hsd]
          refine iteF (A := True) ?_
          have eq : s1 = s2 := by
            rw [el]
            have : s2.said = s1.said := by rw [hsd1, hsd2, hsd]
            have e3 : l = s1.said := by rw [← this, el]
            rw [e3]
          subst eq
          dsimp only [tNext]
          refine go_if (go_b (rdW (K := K) rfl one T.cl_Work T.na_Work_is_done rfl ⟨_, rfl, iteC (fun e => ?_) (fun e => ?_)⟩))
          · rw [hF1 rfl, partedF_done ns r1 r2 _ _ _ e] at q
            exact go_ret (go_c (q H6' one.old))
          · exact ⟨_, _, m + 500, _, _, rfl, ⟨one, two, ap, co, ct⟩, by omega, rfl, e, hF1 rfl⟩
        · rw [decide_eq_false hsd]
          refine iteT (B := True) ?_
          refine go_ret (go_op (go_var rfl (go_c ⟨_, _, rfl, rfl, other fun e => hsd ?_⟩)))
          rw [← d1, ← d2, e]
      · have hp' : (partsB s1 s2 es1' es2').all id = false := by simpa using hp
        rw [hp']
        refine iteT (B := True) (iteT (B := True) ?_)
        refine go_ret (go_op (go_var rfl (go_c ⟨_, _, rfl, rfl, other fun e => hp (hpe.mpr ⟨s1.said, ?_⟩)⟩)))
        rw [e]
    · obtain ⟨o8, o9, m, es1, es2, rfl, hT, hm, hs, hnd, hF⟩ := h
      rw [Nat.sub_self] at hF
      rw [hF] at q
      dsimp only
      exact go_ret (go_c (q Hd hT.one.old))
end
end K54
namespace K54
open PySem PySem.Spec PyProof.Rows L2 Kx SX LamX Ms
section
variable {P : Program} {w : World} {K : PySem.W.Frag} {mg : Str → Option Value} {base : Heap} (T : Tx K mg)
def sp_law_begun (K : PySem.W.Frag) : Sp := fun vs H Q _ => vs = [] ∧ ∀ (L pc ps : Addr) (H' : Hp), LiveAt H' L pc startM 0 ps [] → Same H H' → H L = none → H pc = none → H ps = none → Q (.ref L) H'
theorem ok_law_begun : FnOk P w K mg base CX0 1 T.f_law_begun T.fd_law_begun [] (sp_law_begun K) := by
  refine T.F_law_begun.ok sc_law_begun (fun vs H Q E h => ?_) (fun cdv A outer s H vs Q E hr h => ?_)
  · obtain ⟨rfl, _⟩ := h
    rfl
  · obtain ⟨rfl, q⟩ := h
    refine ⟨_, (pss_cons (ps_set (i := 0) sc_law_begun.nd rfl (.inl rfl) (pe_disp (pps_cons pe_str (pe_un un_neg pe_int) (pps_cons pe_str pe_int (pps_cons pe_str pe_bl (pps_cons pe_str pe_bl (pps_cons pe_str pe_bl (pps_cons pe_str pe_int pps_nil)))))) (by rfl) (by rfl) (fun z => by cases z) (by decide)))
    (pss_cons (ps_expr (pe_bm PySem.F.plainAttrs_dict PySem.F.slot_dict_update PySem.F.type_dict_update mtd_update (pv 0) (pa_cons (pe_disp (pps_cons pe_str pe_int (pps_cons pe_str pe_int (pps_cons pe_str pe_dnewK (pps_cons pe_str pe_int (pps_cons pe_str (pe_lst pa_nil) (pps_cons pe_str pe_bl pps_nil)))))) (by rfl) (by rfl) (fun z => by cases z) (by decide)) pa_nil)))
    (pss_one (ps_ret (pv 0))))), ?_⟩
    refine go_seq (go_asg ?_)
    refine fun L nL => ⟨_, rfl, upd_same, [(.inr "block", .int (-1)), (.inr "room", .int 0), (.inr "tick", .bl false), (.inr "flag", .bl false), (.inr "test", .bl false), (.inr "mode", .int 2)], rfl, by decide, ?_⟩
    have s1 := same_new (o := HO.dK []) nL
    have h1 : ∀ kk, upd (upd H L (.dK [])) L (.dK kk) = upd H L (.dK kk) := fun kk => funext fun b => by
      by_cases e : b = L
      · rw [e, upd_same, upd_same]
      · rw [upd_ne e, upd_ne e, upd_ne e]
    rw [h1]
    clear h1 s1
    obtain ⟨k1, hk1⟩ : ∃ k1, k1 = mergeK [] [((.inr "block" : Key), V.int (-1)), (.inr "room", .int 0), (.inr "tick", .bl false), (.inr "flag", .bl false), (.inr "test", .bl false), (.inr "mode", .int 2)] := ⟨_, rfl⟩
    rw [← hk1]
    have s1 := same_new (o := HO.dK k1) nL
    have hL := upd_same (H := H) (a := L) (o := HO.dK k1)
    generalize upd H L (.dK k1) = H1 at s1 hL ⊢
    dsimp only [gName]
    refine go_seq (go_drop (go_bm (go_var rfl ⟨.inr (.inr (.inl ⟨rfl, .inl ⟨_, hL⟩⟩)), go_cons ?_⟩)))
    intro D nD
    have dL : D ≠ L := fun e => by
      rw [e, hL] at nD
      cases nD
    intro pc npc
    dsimp only [tPairs, tC]
    refine go_lst (go_nil ⟨Nat.zero_le _, fun ps nps => ?_⟩)
    have e0 : Same (upd H1 D (.dK [])) (upd (upd H1 D (.dK [])) pc (.dK [])) := same_new npc
    have e1 : Same (upd (upd H1 D (.dK [])) pc (.dK [])) (upd (upd (upd H1 D (.dK [])) pc (.dK [])) ps (.lst [])) := same_new nps
    have d1 := (e0.trans e1) _ _ (upd_same (H := H1) (a := D) (o := HO.dK []))
    have c1 := e1 _ _ (upd_same (H := upd H1 D (.dK [])) (a := pc) (o := HO.dK []))
    have p1 := upd_same (H := upd (upd H1 D (.dK [])) pc (.dK [])) (a := ps) (o := HO.lst [])
    have l1 := (e0.trans e1) _ _ (same_new nD _ _ hL)
    have eA := (same_new (o := HO.dK []) nD).trans (e0.trans e1)
    have npc0 : H pc = none := by
      cases z : H pc with
      | none => rfl
      | some o =>
        have := (s1.trans (same_new (o := HO.dK []) nD)) _ _ z
        rw [npc] at this
        cases this
    have nps0 : H ps = none := by
      cases z : H ps with
      | none => rfl
      | some o =>
        have := ((s1.trans (same_new (o := HO.dK []) nD)).trans e0) _ _ z
        rw [nps] at this
        cases this
    have pcD : pc ≠ D := fun e => by
      rw [e, upd_same] at npc
      cases npc
    have pcL : pc ≠ L := fun e => by
      rw [e] at npc
      rw [upd_ne dL.symm, hL] at npc
      cases npc
    have nD0 : H D = none := by
      cases z : H D with
      | none => rfl
      | some o =>
        have := s1 _ _ z
        rw [nD] at this
        cases this
    generalize upd (upd (upd H1 D (.dK [])) pc (.dK [])) ps (.lst []) = H2 at d1 c1 p1 l1 eA ⊢
    refine ⟨d1, [(.inr "first", .int 0), (.inr "second", .int 0), (.inr "cells", .ref pc), (.inr "heard", .int 0), (.inr "said", .ref ps), (.inr "done", .bl false)], rfl, show 6 ≤ 15 by decide, ?_⟩
    obtain ⟨k2, hk2⟩ : ∃ k2, k2 = mergeK [] [((.inr "first" : Key), V.int 0), (.inr "second", .int 0), (.inr "cells", .ref pc), (.inr "heard", .int 0), (.inr "said", .ref ps), (.inr "done", .bl false)] := ⟨_, rfl⟩
    rw [← hk2]
    refine go_nil ⟨L, D, k1, k2, rfl, rfl, dL.symm, ?_, upd_same, by rw [hk1, hk2]; show 6 + 6 ≤ sizeLine; decide, ?_⟩
    · rw [upd_ne dL.symm]
      exact l1
    have hm : mergeK k1 k2 = liveK startM pc ps := by rw [hk1, hk2]; rfl
    rw [hm]
    refine go_ret (go_var rfl (q L pc ps _ ⟨upd_same, ?_, ⟨List.nodup_nil, fun _ => rfl⟩, ?_, Nat.le_refl _, Nat.le_refl _, pcL.symm⟩ (fun b o hb => ?_) nL npc0 nps0))
    · rw [upd_ne pcL, upd_ne pcD]
      exact c1
    · rw [upd_ne (ne_of_two p1 l1 (fun z => by cases z)), upd_ne (ne_of_two p1 d1 (fun z => by cases z))]
      exact p1
    · rw [upd_ne (ne_of_none hb nL), upd_ne (ne_of_none hb nD0)]
      exact eA _ _ (s1 _ _ hb)
end
end K54
namespace K54
open PySem PySem.Spec PyProof.Rows L2 Kx SX LamX Ms
section
variable {P : Program} {w : World} {K : PySem.W.Frag} {mg : Str → Option Value} {base : Heap} (T : Tx K mg)
def sp_law_flagged (K : PySem.W.Frag) : Sp := fun vs H Q _ => ∃ (L pc ps nl : Addr) (ns : List Int) (s : Mst) (n m b : Nat) (es : List (Int × Int)), vs = [.ref L, .int (n : Int), .ref nl] ∧ LiveAt H L pc s m ps es ∧ SqL K H nl (ns.map V.int) ∧ 4 ≤ n ∧ n < 20 ∧ Bd b s ∧ b ≤ 4000 ∧ m < 90000 ∧
  ∀ (H' : Hp) (ps' : Addr), Mv2 L pc H H' → LiveAt H' L pc (flagW s n ns) (m + 1) ps' es → Q .non H'
theorem ok_law_flagged : FnOk P w K mg base CX0 1 T.f_law_flagged T.fd_law_flagged ["stand", "number", "heard"] (sp_law_flagged K) := by
  refine T.F_law_flagged.ok sc_law_flagged (fun vs H Q E h => ?_) (fun cdv A outer s H vs Q E hr h => ?_)
  · obtain ⟨L, pc, ps, nl, ns, s, n, m, b, es, rfl, _⟩ := h
    rfl
  · obtain ⟨L, pc, ps, nl, ns, s, n, m, b, es, rfl, hL, hN, h4, h20, hb, b4, m9, q⟩ := h
    refine ⟨_, (pss_cons (ps_par (i := 3) (j := 4) rfl sc_law_flagged.nd rfl rfl (by decide) rfl rfl (pa_cons (pe_dget (Nat.lt_of_le_of_lt (Nat.add_le_add_left (show 1 ≤ 64 by decide) _) hr.units) (pv 0) pe_str (fun _ _ => rfl)) (pa_cons (pe_dget (Nat.lt_of_le_of_lt (Nat.add_le_add_left (show 1 ≤ 64 by decide) _) hr.units) (pv 0) pe_str (fun _ _ => rfl)) pa_nil)) (by rfl))
    (pss_one (ps_if (pt_cmpR op_in_seq (pv 1) (pe_tup (pa_cons pe_int (pa_cons pe_int (pa_cons pe_int (pa_cons pe_int pa_nil))))) rfl)
      (pss_one (ps_dput (Nat.lt_of_le_of_lt (Nat.add_le_add_left (show 1 ≤ 64 by decide) _) hr.units) (pv 0) pe_str (pe_ifExp (pt_cmpR op_lt (pv 1) pe_int (nomark _)) (pe_ix ix_list (pe_lst (pa_cons (pe_op op_add (pv 3) (pv 4)) (pa_cons (pe_op op_sub (pv 3) (pv 4)) (pa_cons (pe_op op_mulW (pv 3) (pv 4)) pa_nil)))) (pe_op op_sub (pv 1) pe_int) (fun _ _ => rfl)) (pe_ifExp (pt_cmpR op_ne (pv 4) pe_int (nomark _)) (pe_op op_fdivA (pv 3) (pv 4)) pe_int)) (by rfl)))
      (pss_one (ps_if (pt_cmpR op_eq (pv 1) pe_int (nomark _))
        (pss_one (ps_asg (pe_tup (pa_cons (pv 4) (pa_cons (pv 3) pa_nil))) (pg_tup rfl (pgs_cons (pg_sub (pv 0) pe_str (set_dict (Nat.lt_of_le_of_lt (Nat.add_le_add_left (show 1 ≤ 64 by decide) _) hr.units))) (pgs_cons (pg_sub (pv 0) pe_str (set_dict (Nat.lt_of_le_of_lt (Nat.add_le_add_left (show 1 ≤ 64 by decide) _) hr.units))) pgs_nil)))))
        (pss_one (ps_if (pt_cmpR op_eq (pv 1) pe_int (nomark _))
          (pss_cons (ps_set (i := 5) sc_law_flagged.nd rfl (.inl rfl) (pe_cmpR op_lt (pe_dget (Nat.lt_of_le_of_lt (Nat.add_le_add_left (show 1 ≤ 64 by decide) _) hr.units) (pv 0) pe_str (fun _ _ => rfl)) (pe_callB call_len_seq (by rfl) T.m_len PySem.boot_len (pa_cons (pv 2) pa_nil)) (nomark _)))
          (pss_cons (ps_dput (Nat.lt_of_le_of_lt (Nat.add_le_add_left (show 1 ≤ 64 by decide) _) hr.units) (pv 0) pe_str (pe_ifExp (pt_val (pv 5)) (pe_ix ix_list (pv 2) (pe_dget (Nat.lt_of_le_of_lt (Nat.add_le_add_left (show 1 ≤ 64 by decide) _) hr.units) (pv 0) pe_str (fun _ _ => rfl)) (fun _ _ => rfl)) pe_int) (by rfl))
          (pss_one (ps_dput (Nat.lt_of_le_of_lt (Nat.add_le_add_left (show 1 ≤ 64 by decide) _) hr.units) (pv 0) pe_str (pe_op op_add (pe_dget (Nat.lt_of_le_of_lt (Nat.add_le_add_left (show 1 ≤ 64 by decide) _) hr.units) (pv 0) pe_str (fun _ _ => rfl)) (pe_callTy call_int1 (by rfl) T.m_int (by decide +kernel) (pa_cons (pv 5) pa_nil))) (by rfl)))))
          (pss_one (ps_if (pt_cmpR op_eq (pv 1) pe_int (nomark _))
            (pss_one (ps_dput (Nat.lt_of_le_of_lt (Nat.add_le_add_left (show 1 ≤ 64 by decide) _) hr.units) (pv 0) pe_str (pe_op op_cat (pe_dget (Nat.lt_of_le_of_lt (Nat.add_le_add_left (show 1 ≤ 64 by decide) _) hr.units) (pv 0) pe_str (fun _ _ => rfl)) (pe_lst (pa_cons (pv 3) pa_nil))) (by rfl)))
            (pss_one (ps_if (pt_cmpR op_eq (pv 1) pe_int (nomark _))
              (pss_one (ps_dput (Nat.lt_of_le_of_lt (Nat.add_le_add_left (show 1 ≤ 64 by decide) _) hr.units) (pv 0) pe_str (pe_dget2 (Nat.lt_of_le_of_lt (Nat.add_le_add_left (show 1 ≤ 64 by decide) _) hr.units) (pe_dget (Nat.lt_of_le_of_lt (Nat.add_le_add_left (show 1 ≤ 64 by decide) _) hr.units) (pv 0) pe_str (fun _ _ => rfl)) (pv 3) pe_int ⟨by rfl, by rfl, by rfl, by rfl⟩) (by rfl)))
              (pss_one (ps_dput (Nat.lt_of_le_of_lt (Nat.add_le_add_left (show 1 ≤ 64 by decide) _) hr.units) (pv 0) pe_str (pe_op op_sub (pe_op op_add (pe_op op_mulW pe_int (pv 3)) (pv 1)) pe_int) (by rfl)))))))))))))), ?_⟩
    refine go_seq (go_par2 (go_cons (rdL rfl hL lv_first (go_cons (rdL rfl hL lv_second (go_nil ⟨_, _, rfl, ?_⟩))))))
    dsimp only
    refine go_if (go_test (go_op (go_var rfl (go_tup (go_cons (go_c (go_cons (go_c (go_cons (go_c (go_cons (go_c (go_nil ⟨sz4, fun p0 np0 => ?_⟩)))))))))))))
    refine ⟨p0, _, rfl, .inr (.inl (.inl upd_same)), rfl, rfl, ⟨_, rfl, ?_⟩⟩
    show if inV (.int (n : Int)) (rowV [4, 5, 6, 7]) = true then _ else _
    rw [inV_row]
    have s0 := same_new (o := HO.tup [V.int 4, V.int 5, V.int 6, V.int 7]) np0
    generalize upd H p0 (HO.tup [V.int 4, V.int 5, V.int 6, V.int 7]) = H0 at s0 ⊢
    have hL := hL.same s0
    have hN := s0.seq hN
    have q := fun H' ps' (m2 : Mv2 L pc H0 H') => q H' ps' ((Mv2.of s0).trans m2)
    clear s0 np0
    have fin : ∀ H' t, t = flagW s n ns → Mv2 L pc H0 H' → LiveAt H' L pc t m ps es → Q .non H' := fun H' t e m' h' => q H' ps m' (e ▸ h'.mono (Nat.le_succ _))
    by_cases h47 : n ∈ [4, 5, 6, 7]
    · rw [decide_eq_true h47]
      have en : n = 4 ∨ n = 5 ∨ n = 6 ∨ n = 7 := by simpa using h47
      refine iteT (B := True) (go_dput ?_)
      refine go_ife (go_test (go_op (go_var rfl (go_c ⟨_, _, rfl, rfl, _, rfl, ?_⟩))))
      by_cases h7 : n < 7
      · rw [decide_eq_true (show (n : Int) < 7 by omega)]
        refine iteT (B := True) ?_
        refine go_op (go_lst (go_cons (go_op (go_var rfl (go_var rfl ⟨_, _, rfl, rfl, ?_⟩)))))
        refine go_cons (go_op (go_var rfl (go_var rfl ⟨_, _, rfl, rfl, ?_⟩)))
        refine go_cons (go_op (go_var rfl (go_var rfl ⟨_, _, rfl, rfl, cmulW hb.first hb.second (by omega), ?_⟩)))
        refine go_nil ⟨sz3, fun p np => ?_⟩
        have s1 := same_new (o := HO.lst [V.int (s.first + s.second), V.int (s.first - s.second), V.int (s.first * s.second)]) np
        refine go_op (go_var rfl (go_c ⟨_, _, rfl, rfl, p, _, (n : Int) - 4, .int (flagW s n ns).first, rfl, rfl, .inl (.inl upd_same), ?_, ?_⟩))
        · rcases en with rfl | rfl | rfl | rfl
          · rfl
          · rfl
          · rfl
          · exact absurd h7 (by decide)
        refine stL (t := { s with first := (flagW s n ns).first }) rfl (hL.same s1) (lp_first _) rfl rfl fun H2 m2 h2 => fin H2 _ ?_ ((Mv2.of s1).trans m2) h2
        rcases en with rfl | rfl | rfl | rfl <;> rfl
      · obtain rfl : n = 7 := by omega
        rw [decide_eq_false (show ¬ ((7 : Nat) : Int) < 7 by decide)]
        refine iteF (A := True) ?_
        refine go_ife (go_test (go_op (go_var rfl (go_c ⟨rfl, _, rfl, ?_⟩))))
        rw [decI]
        by_cases z : s.second = 0
        · rw [decide_eq_true z]
          refine iteF (A := True) (go_c ?_)
          exact stL (t := { s with first := 0 }) rfl hL (lp_first _) rfl rfl fun H2 m2 h2 => fin H2 _ (by show _ = ({ s with first := if s.second = 0 then 0 else s.first.fdiv s.second } : Mst); rw [if_pos z]) m2 h2
        · rw [decide_eq_false z]
          refine iteT (B := True) (go_op (go_var rfl (go_var rfl ⟨_, _, rfl, rfl, cdivA hb.second z (by omega), ?_⟩)))
          exact stL (t := { s with first := s.first.fdiv s.second }) rfl hL (lp_first _) rfl rfl fun H2 m2 h2 => fin H2 _ (by show _ = ({ s with first := if s.second = 0 then 0 else s.first.fdiv s.second } : Mst); rw [if_neg z]) m2 h2
    rw [decide_eq_false h47]
    have h8 : 8 ≤ n := by
      have : n ≠ 4 ∧ n ≠ 5 ∧ n ≠ 6 ∧ n ≠ 7 := by simpa using h47
      omega
    refine iteF (A := True) ?_
    refine ifEq rfl (fun e => ?_) (fun e8 => ?_)
    · obtain rfl : n = 8 := by omega
      refine go_asg (go_tup (go_cons (go_var rfl (go_cons (go_var rfl (go_nil ⟨sz2, fun p np => ?_⟩))))))
      have hL1 := hL.same (same_new (o := HO.tup [V.int s.second, V.int s.first]) np)
      refine ⟨p, _, rfl, .inl (.inl upd_same), rfl, _, _, rfl, ?_⟩
      exact stGL (t := { s with first := s.second }) rfl hL1 (lp_first _) rfl rfl fun H1 m1 h1 => ⟨_, _, rfl, stGL (t := flagW s 8 ns) rfl h1 (lp_second _) rfl rfl fun H2 m2 h2 => ⟨rfl, fin H2 _ rfl ((Mv2.of (same_new np)).trans (m1.trans m2)) h2⟩⟩
    refine ifEq rfl (fun e => ?_) (fun e9 => ?_)
    · obtain rfl : n = 9 := by omega
      refine go_seq (go_asg (go_op (rdL rfl hL lv_heard (go_cb (go_cons (go_var rfl (go_nil ⟨nl, _, rfl, .inl hN, _, _, rfl, rfl, ?_⟩)))))))
      have hlen : decide ((s.heard : Int) < ((ns.map V.int).length : Int)) = decide (s.heard < ns.length) := by
        rw [List.length_map]
        by_cases z : s.heard < ns.length
        · rw [decide_eq_true z, decide_eq_true (by omega)]
        · rw [decide_eq_false z, decide_eq_false (by omega)]
      show gName 5 (.bl (decide ((s.heard : Int) < ((ns.map V.int).length : Int)))) _ _ _
      rw [hlen]
      dsimp only [gName]
      refine go_seq (go_dput (go_ife (go_b (go_var rfl ⟨_, rfl, ?_⟩))))
      by_cases z : s.heard < ns.length
      · rw [decide_eq_true z]
        refine iteT (B := _) (go_op (go_var rfl (rdL rfl hL lv_heard (⟨nl, _, _, _, rfl, rfl, hN, num_at z, ?_⟩))))
        refine stL (t := { s with first := ns.getD s.heard 0 }) rfl hL (lp_first _) rfl rfl fun H1 m1 h1 => ?_
        dsimp only
        refine go_dput (go_op (rdL rfl h1 lv_heard (go_cb (go_cons (go_var rfl (go_nil (.inr ⟨_, rfl, _, _, rfl, rfl, ?_⟩)))))))
        exact stL (t := { s with first := ns.getD s.heard 0, heard := s.heard + 1 }) rfl h1 (lp_heard (s.heard + 1)) rfl rfl fun H2 m2 h2 => fin H2 _ (by show _ = ({ s with first := if s.heard < ns.length then ns.getD s.heard 0 else 0, heard := if s.heard < ns.length then s.heard + 1 else s.heard } : Mst); rw [if_pos z, if_pos z]) (m1.trans m2) h2
      · rw [decide_eq_false z]
        refine iteF (A := _) (go_c ?_)
        refine stL (t := { s with first := 0 }) rfl hL (lp_first _) rfl rfl fun H1 m1 h1 => ?_
        dsimp only
        refine go_dput (go_op (rdL rfl h1 lv_heard (go_cb (go_cons (go_var rfl (go_nil (.inr ⟨_, rfl, _, _, rfl, rfl, ?_⟩)))))))
        exact stL (t := { s with first := 0, heard := s.heard }) rfl h1 (lp_heard s.heard) rfl rfl fun H2 m2 h2 => fin H2 _ (by show _ = ({ s with first := if s.heard < ns.length then ns.getD s.heard 0 else 0, heard := if s.heard < ns.length then s.heard + 1 else s.heard } : Mst); rw [if_neg z, if_neg z]) (m1.trans m2) h2
    refine ifEq rfl (fun e => ?_) (fun e10 => ?_)
    · obtain rfl : n = 10 := by omega
      refine go_dput (go_op (rdL rfl hL lv_said (go_lst (go_cons (go_var rfl (go_nil ⟨sz1, fun p1 n1 => ?_⟩))))))
      have s1 := same_new (o := HO.lst [V.int s.first]) n1
      have sn := hL.sn
      refine ⟨ps, p1, _, _, rfl, rfl, s1 _ _ hL.sat, upd_same, ?_, fun p2 n2 => ?_⟩
      · rw [List.length_map]
        exact Nat.le_trans (show s.said.length + 1 ≤ 100000 by omega) (by decide)
      have s2 := s1.trans (same_new (o := HO.lst (s.said.map V.int ++ [V.int s.first])) n2)
      have hL2 := hL.same s2
      have h2 := hL2.resay (t := flagW s 10 ns) (D := p2) (by rw [upd_same]; show _ = some (HO.lst ((s.said ++ [s.first]).map V.int)); rw [List.map_append]; rfl) rfl rfl (by show (s.said ++ [s.first]).length ≤ m + 1; rw [List.length_append]; show s.said.length + 1 ≤ m + 1; omega)
      exact ⟨_, rfl, L, _, rfl, DPut.k (k := .inr "said") hL2.at_ live_len, q _ p2 ((Mv2.of s2).trans Mv2.l) h2⟩
    refine ifEq rfl (fun e => ?_) (fun e11 => ?_)
    · obtain rfl : n = 11 := by omega
      refine go_dput (go_dget2 (rdL rfl hL lv_cells (⟨pc, rfl, .inl ⟨_, .inl hL.cat⟩, go_var rfl (go_c ⟨_, DGet.k (k := .inl s.first) hL.cat, ?_⟩)⟩)))
      rw [cell_getL hL.cl]
      exact stL (t := flagW s 11 ns) rfl hL (lp_first _) rfl rfl fun H2 m2 h2 => fin H2 _ rfl m2 h2
    have ew : flagW s n ns = { s with first := 8 * s.first + (n : Int) - 12 } := by
      unfold flagW
      rw [if_neg (by omega), if_neg (by omega), if_neg (by omega), if_neg (by omega), if_neg (by omega), if_neg (by omega), if_neg (by omega), if_neg (by omega)]
    have big : Bi 8 (8 : Int) := by show (8 : Int).natAbs < 2 ^ 8; decide
    refine go_dput (go_op (go_op (go_op (go_c (go_var rfl ⟨_, _, rfl, rfl, cmulW (b := b + 8) (big.mono (by omega)) (hb.first.mono (by omega)) (by omega), go_var rfl ⟨_, _, rfl, rfl, go_c ⟨_, _, rfl, rfl, ?_⟩⟩⟩)))))
    exact stL (t := { s with first := 8 * s.first + (n : Int) - 12 }) rfl hL (lp_first _) rfl rfl fun H2 m2 h2 => fin H2 _ ew.symm m2 h2
end
end K54
namespace K54
open PySem PySem.Spec PyProof.Rows L2 Kx SX LamX Ms
section
variable {P : Program} {w : World} {K : PySem.W.Frag} {mg : Str → Option Value} {base : Heap} (T : Tx K mg)
def sp_law_bare (K : PySem.W.Frag) : Sp := fun vs H Q _ => ∃ (L pc ps : Addr) (s : Mst) (n m : Nat) (es : List (Int × Int)), vs = [.ref L, .int (n : Int)] ∧ LiveAt H L pc s m ps es ∧ 20 ≤ n ∧ n < 30 ∧ m < 90000 ∧
  ∀ (H' : Hp) (es' : List (Int × Int)), Mv2 L pc H H' → LiveAt H' L pc (bareW s n) (m + 1) ps es' → Q .non H'
theorem ok_law_bare : FnOk P w K mg base CX0 1 T.f_law_bare T.fd_law_bare ["stand", "number"] (sp_law_bare K) := by
  refine T.F_law_bare.ok sc_law_bare (fun vs H Q E h => ?_) (fun cdv A outer s H vs Q E hr h => ?_)
  · obtain ⟨L, pc, ps, s, n, m, es, rfl, _⟩ := h
    rfl
  · obtain ⟨L, pc, ps, s, n, m, es, rfl, hL, h20, h30, m9, q⟩ := h
    refine ⟨_, (pss_cons (ps_set (i := 2) sc_law_bare.nd rfl (.inl rfl) (pe_dget (Nat.lt_of_le_of_lt (Nat.add_le_add_left (show 1 ≤ 64 by decide) _) hr.units) (pv 0) pe_str (fun _ _ => rfl)))
    (pss_one (ps_if (pt_cmpR op_eq (pv 1) pe_int (nomark _))
      (pss_one (ps_dput (Nat.lt_of_le_of_lt (Nat.add_le_add_left (show 1 ≤ 64 by decide) _) hr.units) (pv 0) pe_str pe_int (by rfl)))
      (pss_one (ps_if (pt_cmpR op_eq (pv 1) pe_int (nomark _))
        (pss_one (ps_dput (Nat.lt_of_le_of_lt (Nat.add_le_add_left (show 1 ≤ 64 by decide) _) hr.units) (pv 0) pe_str (pv 2) (by rfl)))
        (pss_one (ps_if (pt_cmpR op_eq (pv 1) pe_int (nomark _))
          (pss_one (ps_dput (Nat.lt_of_le_of_lt (Nat.add_le_add_left (show 1 ≤ 64 by decide) _) hr.units) (pe_dget (Nat.lt_of_le_of_lt (Nat.add_le_add_left (show 1 ≤ 64 by decide) _) hr.units) (pv 0) pe_str (fun _ _ => rfl)) (pe_dget (Nat.lt_of_le_of_lt (Nat.add_le_add_left (show 1 ≤ 64 by decide) _) hr.units) (pv 0) pe_str (fun _ _ => rfl)) (pv 2) (by rfl)))
          (pss_one (ps_if (pt_cmpR op_in_seq (pv 1) (pe_tup (pa_cons pe_int (pa_cons pe_int pa_nil))) rfl)
            (pss_one (ps_dput (Nat.lt_of_le_of_lt (Nat.add_le_add_left (show 1 ≤ 64 by decide) _) hr.units) (pv 0) pe_str (pe_ifExp (pt_cmpR op_eq (pv 1) pe_int (nomark _)) (pe_cmpR op_eq (pv 2) pe_int (nomark _)) (pe_cmpR op_lt (pv 2) pe_int (nomark _))) (by rfl)))
            (pss_one (ps_if (pt_cmpR op_in_seq (pv 1) (pe_tup (pa_cons pe_int (pa_cons pe_int (pa_cons pe_int pa_nil)))) rfl)
              (pss_one (ps_dput (Nat.lt_of_le_of_lt (Nat.add_le_add_left (show 1 ≤ 64 by decide) _) hr.units) (pv 0) pe_str (pe_op op_sub (pv 1) pe_int) (by rfl)))
              (pss_one (ps_if (pt_cmpR op_eq (pv 1) pe_int (nomark _))
                (pss_one (ps_if (PW.pt (pw_or (pt_cmpR op_eq (pe_dget (Nat.lt_of_le_of_lt (Nat.add_le_add_left (show 1 ≤ 64 by decide) _) hr.units) (pv 0) pe_str (fun _ _ => rfl)) pe_int (nomark _)) (pw_or1 (pt_cmpR op_eq (pe_dget (Nat.lt_of_le_of_lt (Nat.add_le_add_left (show 1 ≤ 64 by decide) _) hr.units) (pv 0) pe_str (fun _ _ => rfl)) (pe_cmpR op_eq (pe_dget (Nat.lt_of_le_of_lt (Nat.add_le_add_left (show 1 ≤ 64 by decide) _) hr.units) (pv 0) pe_str (fun _ _ => rfl)) pe_int (nomark _)) (nomark _)))))
                  (pss_one (ps_dput (Nat.lt_of_le_of_lt (Nat.add_le_add_left (show 1 ≤ 64 by decide) _) hr.units) (pv 0) pe_str (pv 2) (by rfl)))
                  pss_nil))
                (pss_one (ps_dput (Nat.lt_of_le_of_lt (Nat.add_le_add_left (show 1 ≤ 64 by decide) _) hr.units) (pv 0) pe_str pe_bl (by rfl)))))))))))))))), ?_⟩
    have fin : ∀ H' t, t = bareW s n → Mv2 L pc H H' → LiveAt H' L pc t m ps es → Q .non H' := fun H' t e m' h' => q H' es m' (e ▸ h'.mono (Nat.le_succ _))
    refine go_seq (go_asg (rdL rfl hL lv_first ?_))
    dsimp only [gName]
    refine ifEq rfl (fun e => ?_) (fun e20 => ?_)
    · obtain rfl : n = 20 := by omega
      exact go_dput (go_c (stL (t := bareW s 20) rfl hL (lp_first _) rfl rfl fun H' m' h' => fin H' _ rfl m' h'))
    refine ifEq rfl (fun e => ?_) (fun e21 => ?_)
    · obtain rfl : n = 21 := by omega
      exact go_dput (go_var rfl (stL (t := bareW s 21) rfl hL (lp_second _) rfl rfl fun H' m' h' => fin H' _ rfl m' h'))
    refine ifEq rfl (fun e => ?_) (fun e22 => ?_)
    · obtain rfl : n = 22 := by omega
      refine go_dput (go_var rfl ?_)
      refine rdL rfl hL lv_cells ?_
      refine rdL rfl hL lv_second ⟨pc, _, rfl, DPut.k (k := .inl s.second) hL.cat ?_, ?_⟩
      · rw [kvI_len]
        exact Nat.lt_of_le_of_lt hL.cn (Nat.lt_trans m9 (by decide))
      · rw [putK_kvI]
        exact q _ _ Mv2.c (hL.cell (t := bareW s 22) rfl rfl rfl)
    refine go_if (go_test (go_op (go_var rfl (go_tup (go_cons (go_c (go_cons (go_c (go_nil ⟨sz2, fun p0 np0 => ?_⟩)))))))))
    refine ⟨p0, _, rfl, .inr (.inl (.inl upd_same)), rfl, rfl, ⟨_, rfl, ?_⟩⟩
    show if inV (.int (n : Int)) (rowV [23, 24]) = true then _ else _
    rw [inV_row]
    have s0 := same_new (o := HO.tup [V.int 23, V.int 24]) np0
    generalize upd H p0 (HO.tup [V.int 23, V.int 24]) = H0 at s0 ⊢
    have hL := hL.same s0
    have fin : ∀ H' t, t = bareW s n → Mv2 L pc H0 H' → LiveAt H' L pc t m ps es → Q .non H' := fun H' t e m' h' => fin H' t e ((Mv2.of s0).trans m') h'
    clear s0 np0 q
    by_cases h2 : n ∈ [23, 24]
    · rw [decide_eq_true h2]
      have en : n = 23 ∨ n = 24 := by simpa using h2
      refine iteT (B := True) (go_dput (go_ife (go_test (go_op (go_var rfl (go_c ⟨rfl, _, rfl, ?_⟩))))))
      rw [decI]
      rcases en with rfl | rfl
      · refine iteT (B := True) (go_op (go_var rfl (go_c ⟨rfl, ?_⟩)))
        rw [decI]
        exact stL (t := bareW s 23) rfl hL (lp_test _) rfl rfl fun H' m' h' => fin H' _ rfl m' h'
      · refine iteF (A := True) (go_op (go_var rfl (go_c ⟨_, _, rfl, rfl, ?_⟩)))
        exact stL (t := bareW s 24) rfl hL (lp_test _) rfl rfl fun H' m' h' => fin H' _ rfl m' h'
    rw [decide_eq_false h2]
    have h2 : n ≠ 23 ∧ n ≠ 24 := by simpa using h2
    refine iteF (A := True) ?_
    refine go_if (go_test (go_op (go_var rfl (go_tup (go_cons (go_c (go_cons (go_c (go_cons (go_c (go_nil ⟨sz3, fun p0 np0 => ?_⟩)))))))))))
    refine ⟨p0, _, rfl, .inr (.inl (.inl upd_same)), rfl, rfl, ⟨_, rfl, ?_⟩⟩
    show if inV (.int (n : Int)) (rowV [25, 26, 27]) = true then _ else _
    rw [inV_row]
    have s0 := same_new (o := HO.tup [V.int 25, V.int 26, V.int 27]) np0
    generalize upd H0 p0 (HO.tup [V.int 25, V.int 26, V.int 27]) = H1 at s0 ⊢
    have hL := hL.same s0
    have fin : ∀ H' t, t = bareW s n → Mv2 L pc H1 H' → LiveAt H' L pc t m ps es → Q .non H' := fun H' t e m' h' => fin H' t e ((Mv2.of s0).trans m') h'
    clear s0 np0
    by_cases h3 : n ∈ [25, 26, 27]
    · rw [decide_eq_true h3]
      have en : n = 25 ∨ n = 26 ∨ n = 27 := by simpa using h3
      have ew : bareW s n = { s with mode := (n : Int) - 25 } := by
        unfold bareW
        rw [if_neg (by omega), if_neg (by omega), if_neg (by omega), if_neg (by omega), if_neg (by omega), if_pos (by omega)]
      refine iteT (B := True) ?_
      exact go_dput (go_op (go_var rfl (go_c ⟨_, _, rfl, rfl, stL (t := { s with mode := (n : Int) - 25 }) rfl hL (lp_mode _) rfl rfl fun H' m' h' => fin H' _ ew.symm m' h'⟩)))
    rw [decide_eq_false h3]
    have h3 : n ≠ 25 ∧ n ≠ 26 ∧ n ≠ 27 := by simpa using h3
    refine iteF (A := True) ?_
    refine ifEq rfl (fun e => ?_) (fun e28 => ?_)
    · obtain rfl : n = 28 := by omega
      have go : (s.mode = 2 ∨ s.test = decide (s.mode = 0)) → sDPut (tVar 0) (tC (.str "room")) (tVar 2) { nx := fun x H' => Q V.non H', rt := Q } [some (V.ref L), some (V.int ((28 : Nat) : Int)), some (V.int s.first)] H1 := fun hy => by
        have e2 : bareW s 28 = { s with room := s.first } := by
          show ({ s with room := if s.mode = 2 ∨ s.test = decide (s.mode = 0) then s.first else s.room } : Mst) = _
          rw [if_pos hy]
        exact go_dput (go_var rfl (stL (t := { s with room := s.first }) rfl hL (lp_room _) rfl rfl fun H' m' h' => fin H' _ e2.symm m' h'))
      refine go_if (go_or1 (go_test (go_op (rdL rfl hL lv_mode (go_c ⟨rfl, _, rfl, ?_⟩)))))
      rw [decI]
      by_cases z : s.mode = 2
      · rw [decide_eq_true z]
        exact iteT (B := _) (iteT (B := _) (go (.inl z)))
      · rw [decide_eq_false z]
        refine iteF (A := _) (go_test (go_op (rdL rfl hL lv_test (go_op (rdL rfl hL lv_mode (go_c ⟨rfl, rfl, _, rfl, ?_⟩))))))
        rw [decI, decB]
        by_cases y : s.test = decide (s.mode = 0)
        · rw [decide_eq_true y]
          exact iteT (B := _) (go (.inr y))
        · rw [decide_eq_false y]
          have e2 : bareW s 28 = s := by
            show ({ s with room := if s.mode = 2 ∨ s.test = decide (s.mode = 0) then s.first else s.room } : Mst) = _
            rw [if_neg (fun o => o.elim z y)]
          exact iteF (A := _) (fin H1 _ e2.symm (Mv2.refl _ _ _) hL)
    · obtain rfl : n = 29 := by omega
      exact go_dput (go_c (stL (t := bareW s 29) rfl hL (lp_done _) rfl rfl fun H' m' h' => fin H' _ rfl m' h'))
def sp_law_do (K : PySem.W.Frag) : Sp := fun vs H Q _ => ∃ (L pc ps nl : Addr) (ns : List Int) (s : Mst) (n m b : Nat) (es : List (Int × Int)), vs = [.ref L, .int (n : Int), .ref nl] ∧ LiveAt H L pc s m ps es ∧ SqL K H nl (ns.map V.int) ∧ n < 30 ∧ Bd b s ∧ b ≤ 4000 ∧ m < 90000 ∧
  ∀ (H' : Hp) (ps' : Addr) (es' : List (Int × Int)), Mv2 L pc H H' → LiveAt H' L pc (doW ns s n) (m + 1) ps' es' → Q .non H'
theorem ok_law_do : FnOk P w K mg base CX0 2 T.f_law_do T.fd_law_do ["stand", "number", "heard"] (sp_law_do K) := by
  refine T.F_law_do.ok sc_law_do (fun vs H Q E h => ?_) (fun cdv A outer s H vs Q E hr h => ?_)
  · obtain ⟨L, pc, ps, nl, ns, s, n, m, b, es, rfl, _⟩ := h
    rfl
  · obtain ⟨L, pc, ps, nl, ns, s, n, m, b, es, rfl, hL, hN, h30, hb, b4, m9, q⟩ := h
    refine ⟨_, (pss_cons (ps_if (pt_val (pe_dget (Nat.lt_of_le_of_lt (Nat.add_le_add_left (show 1 ≤ 64 by decide) _) hr.units) (pv 0) pe_str (fun _ _ => rfl)))
      (pss_one ps_retN)
      pss_nil)
    (pss_one (ps_if (pt_cmpR op_eq (pv 1) pe_int (nomark _))
      (pss_one (ps_dput (Nat.lt_of_le_of_lt (Nat.add_le_add_left (show 1 ≤ 64 by decide) _) hr.units) (pv 0) pe_str (pe_un un_neg pe_int) (by rfl)))
      (pss_one (ps_if (pt_cmpR op_eq (pv 1) pe_int (nomark _))
        (pss_one (ps_dput (Nat.lt_of_le_of_lt (Nat.add_le_add_left (show 1 ≤ 64 by decide) _) hr.units) (pv 0) pe_str pe_bl (by rfl)))
        (pss_one (ps_if (pt_cmpR op_eq (pv 1) pe_int (nomark _))
          (pss_one (ps_asg (pe_tup (pa_cons (pe_op op_add (pe_dget (Nat.lt_of_le_of_lt (Nat.add_le_add_left (show 1 ≤ 64 by decide) _) hr.units) (pv 0) pe_str (fun _ _ => rfl)) (pe_callTy call_int1 (by rfl) T.m_int (by decide +kernel) (pa_cons (pe_dget (Nat.lt_of_le_of_lt (Nat.add_le_add_left (show 1 ≤ 64 by decide) _) hr.units) (pv 0) pe_str (fun _ _ => rfl)) pa_nil))) (pa_cons pe_bl pa_nil))) (pg_tup rfl (pgs_cons (pg_sub (pv 0) pe_str (set_dict (Nat.lt_of_le_of_lt (Nat.add_le_add_left (show 1 ≤ 64 by decide) _) hr.units))) (pgs_cons (pg_sub (pv 0) pe_str (set_dict (Nat.lt_of_le_of_lt (Nat.add_le_add_left (show 1 ≤ 64 by decide) _) hr.units))) pgs_nil)))))
          (pss_one (ps_if (pt_cmpR op_eq (pe_dget (Nat.lt_of_le_of_lt (Nat.add_le_add_left (show 1 ≤ 64 by decide) _) hr.units) (pv 0) pe_str (fun _ _ => rfl)) (pe_dget (Nat.lt_of_le_of_lt (Nat.add_le_add_left (show 1 ≤ 64 by decide) _) hr.units) (pv 0) pe_str (fun _ _ => rfl)) (nomark _))
            (pss_one (ps_if (pt_cmpR op_eq (pv 1) pe_int (nomark _))
              (pss_one (ps_dput (Nat.lt_of_le_of_lt (Nat.add_le_add_left (show 1 ≤ 64 by decide) _) hr.units) (pv 0) pe_str pe_bl (by rfl)))
              (pss_one (ps_if (pt_cmpR op_gt (pv 1) pe_int (nomark _))
                (pss_one (ps_expr (pe_call (ok_law_bare T) (hr.mono (by decide)) (by rfl) T.g_law_bare T.F_law_bare.kp T.b_law_bare .nil pass0 (pa_cons (pv 0) (pa_cons (pv 1) pa_nil)))))
                (pss_one (ps_if (pt_val (pe_dget (Nat.lt_of_le_of_lt (Nat.add_le_add_left (show 1 ≤ 64 by decide) _) hr.units) (pv 0) pe_str (fun _ _ => rfl)))
                  (pss_cons (ps_dput (Nat.lt_of_le_of_lt (Nat.add_le_add_left (show 1 ≤ 64 by decide) _) hr.units) (pv 0) pe_str pe_bl (by rfl))
                  (pss_one (ps_expr (pe_call (ok_law_flagged T) (hr.mono (by decide)) (by rfl) T.g_law_flagged T.F_law_flagged.kp T.b_law_flagged .nil pass0 (pa_cons (pv 0) (pa_cons (pv 1) (pa_cons (pv 2) pa_nil)))))))
                  pss_nil))))))
            pss_nil))))))))), ?_⟩
    have fin : ∀ H' t, t = doW ns s n → Mv2 L pc H H' → LiveAt H' L pc t m ps es → Q .non H' := fun H' t e m' h' => q H' ps es m' (e ▸ h'.mono (Nat.le_succ _))
    refine go_seq (go_if (go_b (rdL rfl hL lv_done (⟨_, rfl, iteC (fun hd => ?_) (fun hd => ?_)⟩))))
    · have e0 : doW ns s n = s := by unfold doW; rw [if_pos hd]
      exact fin H _ e0.symm (Mv2.refl _ _ _) hL
    dsimp only [tNext]
    have hd' : ¬ s.isd = true := by rw [hd]; decide
    refine ifEq rfl (fun e => ?_) (fun e0 => ?_)
    · obtain rfl : n = 0 := by omega
      exact go_dput ⟨_, rfl, stL (t := { s with block := -1 }) rfl hL (lp_block _) rfl rfl fun H' m' h' => fin H' _ (by unfold doW; rw [if_neg hd', if_pos rfl]) m' h'⟩
    refine ifEq rfl (fun e => ?_) (fun e1 => ?_)
    · obtain rfl : n = 1 := by omega
      exact go_dput (go_c (stL (t := { s with tick := true }) rfl hL (lp_tick _) rfl rfl fun H' m' h' => fin H' _ (by unfold doW; rw [if_neg hd', if_neg (by decide), if_pos rfl]) m' h'))
    have n0 : n ≠ 0 := by omega
    have n1 : n ≠ 1 := by omega
    refine ifEq rfl (fun e => ?_) (fun e2 => ?_)
    · obtain rfl : n = 2 := by omega
      have ed : doW ns s 2 = { s with block := if s.tick = true then s.block + 1 else s.block, tick := false } := by unfold doW; rw [if_neg hd', if_neg (by decide), if_neg (by decide), if_pos rfl]
      refine go_asg (go_tup (go_cons (go_op (rdL rfl hL lv_block (go_cb (go_cons (rdL rfl hL lv_tick (go_nil (.inr ⟨_, rfl, _, _, rfl, rfl, ?_⟩)))))))))
      refine go_cons (go_c (go_nil ⟨sz2, fun p np => ?_⟩))
      have eb : s.block + (if s.tick = true then (1 : Int) else 0) = if s.tick = true then s.block + 1 else s.block := by
        split
        · rfl
        · exact Int.add_zero _
      have hL1 := hL.same (same_new (o := HO.tup [V.int (s.block + if s.tick = true then 1 else 0), V.bl false]) np)
      refine ⟨p, _, rfl, .inl (.inl upd_same), rfl, _, _, rfl, ?_⟩
      exact stGL (t := { s with block := s.block + if s.tick = true then 1 else 0 }) rfl hL1 (lp_block _) rfl rfl fun H1 m1 h1 => ⟨_, _, rfl, stGL (t := { s with block := s.block + if s.tick = true then 1 else 0, tick := false }) rfl h1 (lp_tick _) rfl rfl fun H2 m2 h2 => ⟨rfl, fin H2 _ (by rw [ed, eb]) ((Mv2.of (same_new np)).trans (m1.trans m2)) h2⟩⟩
    have n2 : n ≠ 2 := by omega
    refine go_if (go_test (go_op (rdL rfl hL lv_block (rdL rfl hL lv_room ⟨rfl, _, rfl, ?_⟩))))
    rw [decI]
    by_cases hbr : s.block = s.room
    · rw [decide_eq_true hbr]
      refine iteT (B := _) ?_
      refine ifEq rfl (fun e => ?_) (fun e3 => ?_)
      · obtain rfl : n = 3 := by omega
        exact go_dput (go_c (stL (t := { s with flag := true }) rfl hL (lp_flag _) rfl rfl fun H' m' h' => fin H' _ (by unfold doW; rw [if_neg hd', if_neg (by decide), if_neg (by decide), if_neg (by decide), if_neg (by rw [hbr]; exact fun z => z rfl), if_pos rfl]) m' h'))
      have n3 : n ≠ 3 := by omega
      refine ifGt rfl (fun e => ?_) (fun e19 => ?_)
      · have ed : doW ns s n = bareW s n := by unfold doW; rw [if_neg hd', if_neg n0, if_neg n1, if_neg n2, if_neg (by rw [hbr]; exact fun z => z rfl), if_neg n3, if_neg (by omega)]
        exact go_drop ⟨_, rfl, _, rfl, L, pc, ps, s, n, m, es, rfl, hL, by omega, h30, m9, fun H' es' m' h' => q H' ps es' m' (ed ▸ h')⟩
      · have h4 : 4 ≤ n := by omega
        have h20 : n < 20 := by omega
        refine go_if (go_b (rdL rfl hL lv_flag ⟨_, rfl, iteC (fun hf => ?_) (fun hf => ?_)⟩))
        · have ed : doW ns s n = flagW { s with flag := false } n ns := by unfold doW; rw [if_neg hd', if_neg n0, if_neg n1, if_neg n2, if_neg (by rw [hbr]; exact fun z => z rfl), if_neg n3, if_pos h20, if_pos hf]
          refine go_seq (go_dput (go_c (stL (t := { s with flag := false }) rfl hL (lp_flag _) rfl rfl fun H1 m1 h1 => ?_)))
          dsimp only
          refine go_drop ?_
          exact ⟨_, rfl, _, rfl, _, rfl, L, pc, ps, nl, ns, _, n, m, b, es, rfl, h1, sqL_mv2 hL m1 hN, h4, h20, { hb with }, b4, m9, fun H' ps' m' h' => q H' ps' es (m1.trans m') (ed ▸ h')⟩
        · have ed : doW ns s n = s := by unfold doW; rw [if_neg hd', if_neg n0, if_neg n1, if_neg n2, if_neg (by rw [hbr]; exact fun z => z rfl), if_neg n3, if_pos h20, if_neg (by rw [hf]; decide)]
          exact fin H _ ed.symm (Mv2.refl _ _ _) hL
    · rw [decide_eq_false hbr]
      have ed : doW ns s n = s := by unfold doW; rw [if_neg hd', if_neg n0, if_neg n1, if_neg n2, if_pos hbr]
      exact iteF (A := _) (fin H _ ed.symm (Mv2.refl _ _ _) hL)
end
end K54
namespace K54
open PySem PySem.Spec PyProof.Rows L2 Kx SX LamX Ms
section
variable {P : Program} {w : World} {K : PySem.W.Frag} {mg : Str → Option Value} {base : Heap} (T : Tx K mg)
def sp_law_vocabulary (K : PySem.W.Frag) : Sp := fun vs H Q _ => vs = [] ∧ ∀ (p : Addr) (H' : Hp), Same H H' → H p = none → H' p = some (.lst (plainL.map tx)) → Q (.ref p) H'
theorem ok_law_vocabulary : FnOk P w K mg base CX0 1 T.f_law_vocabulary T.fd_law_vocabulary [] (sp_law_vocabulary K) := by
  refine T.F_law_vocabulary.ok sc_law_vocabulary (fun vs H Q E h => ?_) (fun cdv A outer s H vs Q E hr h => ?_)
  · obtain ⟨rfl, _⟩ := h
    rfl
  · obtain ⟨rfl, q⟩ := h
    refine ⟨_, (pss_cons (ps_set (i := 0) sc_law_vocabulary.nd rfl (.inl rfl) pe_str)
    (pss_one (ps_ret (pe_split (pe_op op_add_str (pv 0) pe_str) pe_str)))), ?_⟩
    refine go_seq (go_asg (go_c ?_))
    dsimp only [gName]
    refine go_ret ?_
    refine ⟨_, rfl, _, _, rfl, rfl, by decide +kernel, ⟨_, rfl⟩, _, _, rfl, rfl, rfl, by decide +kernel, fun p np => ?_⟩
    have e := same_new (o := HO.lst (plainT.map V.str)) np
    have sp : ∀ z : Str, z = "outset uplift advance prepare augment lessen multiply portion exchange inquire proclaim obtain cipher single couple tripled quarter fivefold hexagon weekday nothing duplicate deposit whether negative granted otherwise anyway journey finish" → Txt.split z " " = plainT := fun z ez => by
      rw [ez]
      decide +kernel
    rw [sp _ (by decide +kernel), plain_tx]
    rw [plain_tx] at e
    exact q p _ e np upd_same
theorem kvN_get : ∀ (ws : List (List Nat)) (j i : Nat) (w : List Nat), ws[i]? = some w → (kvN j ws)[i]? = some ((.inr (S w) : Key), V.int ((j + i : Nat) : Int))
  | [], _, i, w, h => by cases h
  | x :: r, j, 0, w, h => by
    cases h
    rfl
  | x :: r, j, i + 1, w, h => by
    show (kvN (j + 1) r)[i]? = _
    rw [kvN_get r (j + 1) i w h, show j + 1 + i = j + (i + 1) by omega]
theorem merge_kvN : ∀ (b a : List (List Nat)), (a ++ b).Nodup → mergeK (kvN 0 a) (kvN a.length b) = kvN 0 (a ++ b)
  | [], a, _ => by rw [List.append_nil]; rfl
  | w :: b, a, nd => by
    have hw : w ∉ a := fun m => by
      rw [List.nodup_append] at nd
      exact nd.2.2 w m w List.mem_cons_self rfl
    have hp := kvN_put (i := 0) hw
    rw [Nat.zero_add] at hp
    show mergeK (putK (kvN 0 a) (.inr (S w)) (.int (a.length : Nat))) (kvN (a.length + 1) b) = _
    rw [hp]
    have h := merge_kvN b (a ++ [w]) (by rw [List.append_assoc]; exact nd)
    rw [List.length_append, List.append_assoc] at h
    exact h
def sp_law_read (K : PySem.W.Frag) : Sp := fun vs H Q _ => ∃ l : List Nat, vs = [.str (S l)] ∧ l.length ≤ 200000 ∧ ∀ (p : Addr) (H' : Hp), Same H H' → H p = none → H' p = some (.lst (rowV (readN plainL l))) → Q (.ref p) H'
theorem ok_law_read : FnOk P w K mg base CX0 2 T.f_law_read T.fd_law_read ["text"] (sp_law_read K) := by
  refine T.F_law_read.ok sc_law_read (fun vs H Q E h => ?_) (fun cdv A outer s H vs Q E hr h => ?_)
  · obtain ⟨l, rfl, _⟩ := h
    rfl
  · obtain ⟨l, rfl, hl, q⟩ := h
    refine ⟨_, (pss_cons (ps_set (i := 3) sc_law_read.nd rfl (.inr rfl) (pe_callTy (call_dictP rfl) (by rfl) T.m_dict (by decide +kernel) (pa_cons (pe_lc (own := [("number", 1), ("word", 2)]) rfl sc_law_read.nd (pi_enum (by rfl) T.m_enumerate (pa_cons (pe_call0 (ok_law_vocabulary T) (hr.mono (by decide)) (by rfl) T.g_law_vocabulary T.F_law_vocabulary.kp T.b_law_vocabulary .nil pass0) pa_nil)) (blkOk_by (own := [("number", 1), ("word", 2)]) (N := ["text", "number", "word", "known", "item"]) (sc := defScope s_law_read) (by decide +kernel)) (fun _ _ _ _ _ => (inK_pg_tup (K := K) (n := 2) (t := (gCons (gName 1) (gCons (gName 2) gNil))) rfl rfl (pgs_cons (pg_name (i := 1) sc_law_read.nd rfl (.inl rfl)) (pgs_cons (pg_name (i := 2) sc_law_read.nd rfl (.inl rfl)) pgs_nil)))) (fun _ _ _ _ _ => pts_nil) (fun _ _ _ _ _ => (pe_tup (pa_cons (pv 2) (pa_cons (pv 1) pa_nil))))) pa_nil)))
    (pss_one (ps_ret (pe_lc (own := [("item", 4)]) rfl sc_law_read.nd (pi_list (pe_split (pv 0) pe_str)) (blkOk_by (own := [("item", 4)]) (N := ["text", "number", "word", "known", "item"]) (sc := defScope s_law_read) (by decide +kernel)) (fun _ _ _ _ _ => (pg_name (i := 4) sc_law_read.nd rfl (.inl rfl))) (fun _ _ _ _ _ => pts_one (pt_cmp (pc_din (Nat.lt_of_le_of_lt (Nat.add_le_add_left (show 1 ≤ 64 by decide) _) hr.units) (pv 4) (pv 3)) rfl)) (fun _ _ _ _ _ => (pe_dget (Nat.lt_of_le_of_lt (Nat.add_le_add_left (show 1 ≤ 64 by decide) _) hr.units) (pv 3) (pv 4) (fun _ _ => rfl))))))), ?_⟩
    have pl := plain_len
    have lp : (plainL.map tx).length = 30 := by rw [List.length_map, pl]
    have lk : (kvN 0 plainL).length = 30 := by rw [kvN_len, pl]
    refine go_seq (go_asg (go_cb (go_cons ?_)))
    refine ⟨rfl, fun V0 H1 e1 nV hV => ?_⟩
    refine ⟨V0, _, rfl, .inl (.inl hV), fun D nD => lc_it walk_enum (KvP H1 (kvN 0 plainL) D) (KvP.new nD) (fun i Hc hi h => .inl (.inl (h.choose_spec.2.2 _ _ hV))) (fun i x Hc Hx hi h y => ?_) (fun Hc h => ?_)⟩
    · obtain ⟨t, x, y, rfl, nt, rfl, hx, hy⟩ := y
      cases hx
      obtain ⟨v, hv, rfl⟩ := map_at hy
      have hk := kvN_get plainL 0 i v hv
      rw [Nat.zero_add] at hk
      have s1 := same_new (o := HO.tup [V.int (i : Nat), tx v]) nt
      refine ⟨t, _, rfl, .inl (.inl upd_same), rfl, _, _, rfl, _, _, rfl, rfl, rfl, ?_⟩
      refine iteT (B := True) (iteT (B := True) ?_)
      refine go_tup (go_cons (go_var rfl (go_cons (go_var rfl (go_nil ⟨sz2, fun t2 nt2 => ?_⟩)))))
      exact h.app nD hk (s1.trans (same_new nt2)) upd_same (by omega)
    obtain ⟨qs, hD, hP, e2⟩ := h
    rw [List.length_map, ← kvN_len 0 plainL, List.take_length] at hP
    refine go_nil ⟨D, qs, kvN 0 plainL, rfl, .inl (.inl hD), Paired.mapP hP fun _ _ z => .inl (.inl z), fun p np => ?_⟩
    have hm := merge_kvN plainL [] plain_nodup
    rw [List.nil_append] at hm
    have hm : mergeK [] (kvN 0 plainL) = kvN 0 plainL := hm
    rw [hm]
    have e3 := (e1.trans e2).trans (same_new (o := HO.dK (kvN 0 plainL)) np)
    have hp := upd_same (H := Hc) (a := p) (o := HO.dK (kvN 0 plainL))
    generalize upd Hc p (HO.dK (kvN 0 plainL)) = H2 at e3 hp ⊢
    clear hD hP hm np nD e2 hV e1 nV
    dsimp only [gName]
    refine go_ret ⟨_, rfl, ⟨_, rfl⟩, S l, " ", rfl, rfl, rfl, by rw [S_len]; exact Nat.le_trans (Nat.add_le_add_right hl 2) (by decide : 200000 + 2 ≤ sizeLine), fun p1 n1 => ?_⟩
    rw [split_items]
    have eV : ((itemsA [] l).map S).map V.str = (itemsA [] l).map fun it => V.str (S it) := by
      rw [List.map_map]
      rfl
    rw [eV]
    have il : (itemsA [] l).length ≤ 1000000 := by
      have h3 := List.count_le_length (a := 32) (l := l)
      rw [items_length]
      omega
    have hp2 := same_new (o := HO.lst ((itemsA [] l).map fun it => V.str (S it))) n1 _ _ hp
    have e4 := e3.trans (same_new (o := HO.lst ((itemsA [] l).map fun it => V.str (S it))) n1)
    have hp1 := upd_same (H := H2) (a := p1) (o := HO.lst ((itemsA [] l).map fun it => V.str (S it)))
    generalize upd H2 p1 (HO.lst ((itemsA [] l).map fun it => V.str (S it))) = H3 at hp2 e4 hp1 ⊢
    refine ⟨p1, rfl, ⟨_, .inl (.inl hp1)⟩, fun D2 nD2 => lc_keep (walk_list (xs := (itemsA [] l).map fun it => V.str (S it))) ((itemsA [] l).map fun it => (numOf 0 plainL it).map fun k : Nat => V.int k) (by rw [List.length_map, List.length_map]) nD2 (by rw [List.length_map]; exact il) (fun Hd e2 => .inl (.inl (e2 _ _ hp1))) (fun i x z Hd Hx Q' R' _ hzi e2 y q' r' => ?_) (fun Hd e2 hD2 => ?_)⟩
    · obtain ⟨rfl, hx⟩ := y
      obtain ⟨it, hit, rfl⟩ := map_at hx
      obtain ⟨it2, hit2, rfl⟩ := map_at hzi
      rw [hit] at hit2
      cases hit2
      have hDd := e2 _ _ hp2
      have gd := DGet.k (k := .inr (S it)) hDd
      rw [kvN_val] at gd
      refine ⟨rfl, ?_⟩
      refine ⟨_, rfl, _, rfl, p, _, rfl, gd, _, rfl, ?_⟩
      cases hk : numOf 0 plainL it with
      | none =>
        refine iteF (A := _) ?_
        exact r' _ (by rw [hk]; rfl) (Same.refl _)
      | some k =>
        rw [hk] at gd
        refine iteT (B := _) ?_
        exact ⟨_, rfl, _, rfl, p, _, rfl, gd, q' _ _ (by rw [hk]; rfl) (Same.refl _)⟩
    · have eR : (((itemsA [] l).map fun it => (numOf 0 plainL it).map fun k : Nat => V.int k).filterMap id) = rowV (readN plainL l) := by
        unfold readN rowV
        rw [List.filterMap_map, List.map_filterMap]
        rfl
      rw [eR] at hD2
      have n0 : H D2 = none := by
        cases z : H D2 with
        | none => rfl
        | some o =>
          have := e4 _ _ z
          rw [nD2] at this
          cases this
      exact q D2 Hd (e4.trans e2) n0 hD2
end
end K54
namespace K54
open PySem PySem.Spec PyProof.Rows L2 Kx SX LamX Ms ItX
section
variable {P : Program} {w : World} {K : PySem.W.Frag} {mg : Str → Option Value} {base : Heap} (T : Tx K mg)
theorem dp_cells {H : Hp} {us : List Addr} {p : Addr} {l : List (Int × Int)} (hp : H p = some (.lst (us.map V.ref))) (h : Paired (Pn H) us l) : Dp K H (.ref p) (.list (l.map Kx.pairD)) := by
  refine .lst (.inl (.inl hp)) ?_
  clear hp
  induction h with
  | nil => exact .nil
  | cons a _ ih => exact .cons (.tup (.inl (.inl a)) (.cons (.int _) (.cons (.int _) .nil))) ih
def sp_law_seen (K : PySem.W.Frag) : Sp := fun vs H Q _ => ∃ (L pc ps : Addr) (s : Mst) (m : Nat) (es : List (Int × Int)), vs = [.ref L] ∧ LiveAt H L pc s m ps es ∧ m ≤ 90000 ∧
  ∀ (R : Addr) (H' : Hp) (l : List (Int × Int)), IsC l s.cells → Same H H' → Dp K H' (.ref R) (seenD s l) → Q (.ref R) H'
theorem ok_law_seen : FnOk P w K mg base CX0 1 T.f_law_seen T.fd_law_seen ["stand"] (sp_law_seen K) := by
  refine T.F_law_seen.ok sc_law_seen (fun vs H Q E h => ?_) (fun cdv A outer s H vs Q E hr h => ?_)
  · obtain ⟨L, pc, ps, s, m, es, rfl, _⟩ := h
    rfl
  · obtain ⟨L, pc, ps, s, m, es, rfl, hL, m9, q⟩ := h
    refine ⟨_, (pss_cons (ps_set (i := 2) sc_law_seen.nd rfl (.inl rfl) (pe_callB cr_sortedPO (by rfl) T.m_sorted (by decide +kernel) (pa_cons (pe_lock (pe_lc (own := [("pair", 1)]) rfl sc_law_seen.nd (pi_held (pe_dget (Nat.lt_of_le_of_lt (Nat.add_le_add_left (show 1 ≤ 64 by decide) _) hr.units) (pv 0) pe_str (fun _ _ => rfl))) (blkOk_by (own := [("pair", 1)]) (N := ["stand", "pair", "cells", "name"]) (sc := defScope s_law_seen) (by decide +kernel)) (fun _ _ _ _ _ => (pg_name (i := 1) sc_law_seen.nd rfl (.inl rfl))) (fun _ _ _ _ _ => pts_one (pt_cmpR op_ne (pe_ix (inK_ix_tup (K := K) rfl) (pv 1) pe_int (fun _ _ => rfl)) pe_int (nomark _))) (fun _ _ _ _ _ => (pv 1)))) pa_nil)))
    (pss_one (ps_ret (pe_op op_cat (pe_lc (own := [("name", 3)]) rfl sc_law_seen.nd (pi_tup (pe_tup (pa_cons pe_str (pa_cons pe_str (pa_cons pe_str (pa_cons pe_str (pa_cons pe_str (pa_cons pe_str (pa_cons pe_str (pa_cons pe_str (pa_cons pe_str (pa_cons pe_str (pa_cons pe_str pa_nil))))))))))))) (blkOk_by (own := [("name", 3)]) (N := ["stand", "pair", "cells", "name"]) (sc := defScope s_law_seen) (by decide +kernel)) (fun _ _ _ _ _ => (pg_name (i := 3) sc_law_seen.nd rfl (.inl rfl))) (fun _ _ _ _ _ => pts_nil) (fun _ _ _ _ _ => (pe_dget (Nat.lt_of_le_of_lt (Nat.add_le_add_left (show 1 ≤ 64 by decide) _) hr.units) (pv 0) (pv 3) (fun _ _ => rfl)))) (pe_lst (pa_cons (pv 2) pa_nil)))))), ?_⟩
    refine go_seq (go_asg (go_cb (go_cons ?_)))
    refine ⟨pc, _, hL.cat, True.intro, fun od => ?_⟩
    have hLL : upd H pc (.frz od (.dK (kvI es))) L = some (.dK (liveK s pc ps)) := by rw [upd_ne hL.ne]; exact hL.at_
    have cn := hL.cn
    refine ⟨_, rfl, L, .ref pc, rfl, .inl ⟨_, .inr "cells", .inl hLL, rfl, lv_cells.symm⟩, pc, od, kvI es, rfl, upd_same, fun D nD => lc_it walk_items (PnsF (upd H pc (.frz od (.dK (kvI es)))) es D) (PnsF.new nD) (fun i Hc hi h => h.choose_spec.2.2 _ _ upd_same) (fun i x Hc Hx hi h y => ?_) (fun Hc h => ?_)⟩
    · obtain ⟨tt, x1, x2, rfl, ntt, rfl, y1, y2⟩ := y
      obtain ⟨p, hp⟩ : ∃ p, es[i]? = some p := ⟨_, List.getElem?_eq_getElem (by rw [kvI_len] at hi; exact hi)⟩
      have hk : (kvI es)[i]? = some (.inl p.1, .int p.2) := by unfold kvI; rw [List.getElem?_map, hp]; rfl
      dsimp only at y1 y2
      rw [hk] at y1 y2
      cases y1
      cases y2
      have st := same_new (o := HO.tup [kV (.inl p.1), V.int p.2]) ntt
      refine ⟨rfl, ?_⟩
      refine go_test (go_op (go_op (go_var rfl (go_c ⟨tt, _, 1, .int p.2, rfl, rfl, .inl (.inl upd_same), rfl, go_c ⟨rfl, _, rfl, ?_⟩⟩))))
      rw [decI]
      by_cases z : p.2 = 0
      · rw [decide_eq_true z]
        exact iteF (A := True) (h.skip hp z st)
      · rw [decide_eq_false z]
        refine iteT (B := True) (go_var rfl ?_)
        exact h.app nD hp z st upd_same (by omega)
    · obtain ⟨ts, hD, hP, e⟩ := h
      rw [kvI_len, List.take_length] at hP
      have hfr := e _ _ (upd_same (H := H) (a := pc) (o := HO.frz od (.dK (kvI es))))
      have s1 := lock_same hL.cat Hc e
      have hDp : D ≠ pc := fun z => by
        rw [z, upd_same] at nD
        cases nD
      have hD1 : upd Hc pc (.dK (kvI es)) D = some (.lst (ts.map V.ref)) := by rw [upd_ne hDp]; exact hD
      have hP1 : Paired (Pn (upd Hc pc (.dK (kvI es)))) ts (nz es) := Paired.mapP hP fun t p z => by
        unfold Pn at z ⊢
        rw [upd_ne (ne_of_two z hfr (fun z => by cases z))]
        exact z
      refine ⟨hfr, ?_⟩
      generalize upd Hc pc (.dK (kvI es)) = H1 at s1 hD1 hP1 ⊢
      clear hD hP e hfr nD hDp hLL
      refine go_nil (sorted_cells hP1 hD1 (nz_nd hL.cl.nd) hL.cl.mem fun p l us np hC hl hus => ?_)
      have s2 := s1.trans (same_new (o := HO.lst (us.map V.ref)) np)
      have hus2 : Paired (Pn (upd H1 p (.lst (us.map V.ref)))) us l := Paired.mapP hus fun _ _ z => (same_new (o := HO.lst (us.map V.ref)) np) _ _ z
      have hp2 := upd_same (H := H1) (a := p) (o := HO.lst (us.map V.ref))
      have hL2 := hL.same s2
      generalize upd H1 p (HO.lst (us.map V.ref)) = H2 at s2 hus2 hp2 hL2 ⊢
      clear hD1 hP1 hus hl np s1
      dsimp only [gName]
      refine go_ret (go_op ?_)
      refine ⟨show 11 ≤ sizeLine by decide, fun N nN => ?_⟩
      have s3 := same_new (o := HO.tup [V.str "block", V.str "room", V.str "tick", V.str "flag", V.str "test", V.str "mode", V.str "first", V.str "second", V.str "heard", V.str "said", V.str "done"]) nN
      have hN : (upd H2 N (.tup [V.str "block", V.str "room", V.str "tick", V.str "flag", V.str "test", V.str "mode", V.str "first", V.str "second", V.str "heard", V.str "said", V.str "done"])) N = some (.tup namesL) := upd_same
      have hL3 := hL2.same s3
      have hp3 := s3 _ _ hp2
      have hus3 : Paired (Pn (upd H2 N (.tup [V.str "block", V.str "room", V.str "tick", V.str "flag", V.str "test", V.str "mode", V.str "first", V.str "second", V.str "heard", V.str "said", V.str "done"]))) us l := Paired.mapP hus2 fun _ _ z => s3 _ _ z
      have s3 := s2.trans s3
      generalize upd H2 N (HO.tup [V.str "block", V.str "room", V.str "tick", V.str "flag", V.str "test", V.str "mode", V.str "first", V.str "second", V.str "heard", V.str "said", V.str "done"]) = H3 at s3 hN hL3 hp3 hus3 ⊢
      clear nN hL2 hp2 hus2 s2
      refine ⟨N, rfl, ⟨_, .inl (.inl hN)⟩, fun D nD => lc_keep (walk_tup (xs := namesL)) ((seenL s ps).map some) (by rfl) nD (by show 11 ≤ 1000000; decide) (fun Hd e2 => .inl (.inl (e2 _ _ hN))) (fun i x z Hd Hx Q' R' _ hzi e2 y q' r' => ?_) (fun Hd e2 hD2 => ?_)⟩
      · obtain ⟨rfl, hx⟩ := y
        obtain ⟨v, hv, rfl⟩ := map_at hzi
        obtain ⟨k, rfl, hk⟩ := seen_at (pc := pc) hx hv
        refine ⟨rfl, ?_⟩
        refine iteT (B := True) ?_
        refine go_dget (go_var rfl (go_var rfl ⟨L, v, rfl, (hL3.same e2).get hk, q' v _ rfl (Same.refl _)⟩))
      · have ez : ((seenL s ps).map some).filterMap id = seenL s ps := by rw [List.filterMap_map]; exact List.filterMap_some
        rw [ez] at hD2
        have hp4 := e2 _ _ hp3
        have hL4 := hL3.same e2
        have hus4 : Paired (Pn Hd) us l := Paired.mapP hus3 fun _ _ z => e2 _ _ z
        have s4 := s3.trans e2
        clear hp3 hL3 hus3 s3 e2 hN nD
        refine go_lst (go_cons (go_var rfl (go_nil ⟨sz1, fun c nc => ?_⟩)))
        have s5 := same_new (o := HO.lst [V.ref p]) nc
        refine ⟨D, c, _, _, rfl, rfl, s5 _ _ hD2, upd_same, show 11 + 1 ≤ sizeLine by decide, fun R nR => ?_⟩
        have s6 := s5.trans (same_new (o := HO.lst (seenL s ps ++ [V.ref p])) nR)
        have hR := upd_same (H := upd Hd c (HO.lst [V.ref p])) (a := R) (o := HO.lst (seenL s ps ++ [V.ref p]))
        have hp6 := s6 _ _ hp4
        have hL6 := hL4.same s6
        have hus6 : Paired (Pn (upd (upd Hd c (HO.lst [V.ref p])) R (HO.lst (seenL s ps ++ [V.ref p])))) us l := Paired.mapP hus4 fun _ _ z => s6 _ _ z
        refine q R _ l hC (s4.trans s6) ?_
        generalize upd (upd Hd c (HO.lst [V.ref p])) R (HO.lst (seenL s ps ++ [V.ref p])) = H7 at hR hp6 hL6 hus6 ⊢
        have hs : Dp K H7 (.ref ps) (.list (s.said.map PyData.int)) := dp_ints (.inl (.inl hL6.sat))
        have hc := dp_cells (K := K) hp6 hus6
        refine .lst (.inl (.inl hR)) ?_
        exact .cons (.int _) (.cons (.int _) (.cons (.bl _) (.cons (.bl _) (.cons (.bl _) (.cons (.int _) (.cons (.int _) (.cons (.int _) (.cons (.int _) (.cons hs (.cons (.bl _) (.cons hc .nil)))))))))))
end
end K54
namespace K54
open PySem PySem.Spec PyProof.Rows L2 Kx SX LamX Ms ItX
section
variable {P : Program} {w : World} {K : PySem.W.Frag} {mg : Str → Option Value} {base : Heap} (T : Tx K mg)
/-- a row done word by word by the law -/
theorem row_loop {E : XK} {D : Ends} {a0 a1 a3 a4 a5 a6 o9 : Option V} {L pc ps r nl : Addr} {ns : List Int} {s : Mst} {m : Nat} {es : List (Int × Int)} {row : List Nat} {Hd : Hp} (hL : LiveAt Hd L pc s m ps es) (hr : SqL K Hd r (rowV row)) (hN : SqL K Hd nl (ns.map V.int))
    (h30 : ∀ n ∈ row, n < 30) (hB : ∀ k, Bd 4000 (doR ns s (row.take k))) (m9 : m + row.length < 90000)
    (k : ∀ (o : Option V) (H' : Hp) (ps' : Addr) (es' : List (Int × Int)), Mv2 L pc Hd H' → LiveAt H' L pc (doR ns s row) (m + row.length) ps' es' → D.nx [a0, a1, some (.ref nl), a3, a4, a5, a6, some (.ref L), some (.ref r), o] H') :
    tFor (iList K (tVar 8)) (gName 9) (tDrop (tCall (sp_law_do K) [] E (tCons (tVar 7) (tCons (tVar 9) (tCons (tVar 2) tNil))))) D [a0, a1, some (.ref nl), a3, a4, a5, a6, some (.ref L), some (.ref r), o9] Hd := by
  refine ⟨_, rfl, r, rfl, ⟨_, hr⟩, for_list (xs := rowV row) (fun i σ H' => ∃ (o : Option V) (ps' : Addr) (es' : List (Int × Int)), σ = [a0, a1, some (.ref nl), a3, a4, a5, a6, some (.ref L), some (.ref r), o] ∧ Mv2 L pc Hd H' ∧ LiveAt H' L pc (doR ns s (row.take i)) (m + i) ps' es')
    ⟨_, ps, es, rfl, Mv2.refl _ _ _, hL⟩ (fun i σ H' _ h => ?_) (fun i v σ H' hv h => ?_) (fun σ H' h => ?_)⟩
  · obtain ⟨_, _, _, _, mv, _⟩ := h
    exact sqL_mv2 hL mv hr
  · obtain ⟨o, ps', es', rfl, mv, h⟩ := h
    obtain ⟨n, hni, rfl⟩ := rowV_get hv
    have hi := (List.getElem?_eq_some_iff.mp hni).1
    dsimp only [gName]
    refine go_drop (go_call (go_cons (go_var rfl (go_cons (go_var rfl (go_cons (go_var rfl (go_nil ?_))))))))
    refine ⟨L, pc, ps', nl, ns, _, n, m + i, 4000, es', rfl, h, sqL_mv2 hL mv hN, h30 n (List.mem_of_getElem? hni), hB i, Nat.le_refl _, by omega, fun H2 ps2 es2 mv2 h2 => ⟨_, ps2, es2, rfl, mv.trans mv2, ?_⟩⟩
    rw [take_succ hni, doR_app]
    exact h2
  · obtain ⟨o, ps', es', rfl, mv, h⟩ := h
    rw [rowV_len, List.take_length] at h
    exact k o H' ps' es' mv h
theorem LiveAt.mvO {H H' : Hp} {L pc ps L2 pc2 ps2 : Addr} {s t : Mst} {m n : Nat} {es es2 : List (Int × Int)} (h : LiveAt H L pc s m ps es) (k : LiveAt H L2 pc2 t n ps2 es2) (d1 : L2 ≠ L) (d2 : L2 ≠ pc) (d3 : pc2 ≠ L) (d4 : pc2 ≠ pc) (mv : Mv2 L pc H H') : LiveAt H' L2 pc2 t n ps2 es2 :=
  { k with at_ := mv _ _ d1 d2 k.at_, cat := mv _ _ d3 d4 k.cat, sat := mv _ _ (ne_of_two k.sat h.at_ (fun z => by cases z)) (ne_of_two k.sat h.cat (fun z => by cases z)) k.sat }
def sp_law_parted (K : PySem.W.Frag) : Sp := fun vs H Q _ => ∃ (a b nl : Addr) (ns : List Int) (k : Nat) (r1 r2 : List Nat), vs = [.ref a, .ref b, .ref nl, .int (k : Int)] ∧ SqL K H a (rowV r1) ∧ SqL K H b (rowV r2) ∧ SqL K H nl (ns.map V.int) ∧ k ≤ 100 ∧ r1.length ≤ 500 ∧ r2.length ≤ 500 ∧ (∀ n ∈ r1, n < 30) ∧ (∀ n ∈ r2, n < 30) ∧ BdP ns r1 k ∧ BdP ns r2 k ∧
  ∀ H', Same H H' → Q (optV (partedF ns r1 r2 k 0 startM startM)) H'
theorem ok_law_parted : FnOk P w K mg base CX0 3 T.f_law_parted T.fd_law_parted ["mine", "its", "heard", "passes"] (sp_law_parted K) := by
  refine T.F_law_parted.ok sc_law_parted (fun vs H Q E h => ?_) (fun cdv A outer s H vs Q E hr h => ?_)
  · obtain ⟨a, b, nl, ns, k, r1, r2, rfl, _⟩ := h
    rfl
  · obtain ⟨a, b, nl, ns, k, r1, r2, rfl, h1, h2, hN, k2, lr1, lr2, r1n, r2n, hB1, hB2, q⟩ := h
    refine ⟨_, (pss_cons (ps_par (i := 4) (j := 5) rfl sc_law_parted.nd rfl rfl (by decide) rfl rfl (pa_cons (pe_call0 (ok_law_begun T) (hr.mono (by decide)) (by rfl) T.g_law_begun T.F_law_begun.kp T.b_law_begun .nil pass0) (pa_cons (pe_call0 (ok_law_begun T) (hr.mono (by decide)) (by rfl) T.g_law_begun T.F_law_begun.kp T.b_law_begun .nil pass0) pa_nil)) (by rfl))
    (pss_cons (ps_for PassesOwn.never rfl (pi_range1 (by rfl) T.m_range (pa_cons (pv 3) pa_nil)) (pg_name (i := 6) sc_law_parted.nd rfl (.inl rfl))
      (pss_cons (ps_for PassesOwn.never rfl (pi_tup (pe_tup (pa_cons (pe_tup (pa_cons (pv 4) (pa_cons (pv 0) pa_nil))) (pa_cons (pe_tup (pa_cons (pv 5) (pa_cons (pv 1) pa_nil))) pa_nil)))) (pg_tup rfl (pgs_cons (pg_name (i := 7) sc_law_parted.nd rfl (.inl rfl)) (pgs_cons (pg_name (i := 8) sc_law_parted.nd rfl (.inl rfl)) pgs_nil)))
        (pss_one (ps_for PassesOwn.never rfl (pi_list (pv 8)) (pg_name (i := 9) sc_law_parted.nd rfl (.inl rfl))
          (pss_one (ps_expr (pe_call (ok_law_do T) (hr.mono (by decide)) (by rfl) T.g_law_do T.F_law_do.kp T.b_law_do .nil pass0 (pa_cons (pv 7) (pa_cons (pv 9) (pa_cons (pv 2) pa_nil)))))))))
      (pss_one (ps_if (pt_cmpR (op_neD hr.units) (pe_call (ok_law_seen T) (hr.mono (by decide)) (by rfl) T.g_law_seen T.F_law_seen.kp T.b_law_seen .nil pass0 (pa_cons (pv 4) pa_nil)) (pe_call (ok_law_seen T) (hr.mono (by decide)) (by rfl) T.g_law_seen T.F_law_seen.kp T.b_law_seen .nil pass0 (pa_cons (pv 5) pa_nil)) (nomark _))
        (pss_one (ps_ret (pe_op op_add (pv 6) pe_int)))
        pss_nil))))
    (pss_one (ps_ret pe_non)))), ?_⟩
    refine go_seq (go_par2 (go_cons ?_))
    refine ⟨rfl, fun L1 pc1 ps1 H1 hL1 e1 nL1 nc1 np1 => ?_⟩
    refine go_cons ⟨rfl, fun L2 pc2 ps2 H2 hL2 e2 nL2 nc2 np2 => ?_⟩
    refine go_nil ⟨_, _, rfl, ?_⟩
    have ne : ∀ {x y : Addr} {o : HO}, H1 x = none → H1 y = some o → x ≠ y := fun n s z => by rw [z, s] at n; cases n
    have n0 : ∀ {x : Addr}, H1 x = none → H x = none := fun {x} n => by
      cases z : H x with
      | none => rfl
      | some o =>
        have := e1 _ _ z
        rw [n] at this
        cases this
    have d1 : L2 ≠ L1 := ne nL2 hL1.at_
    have d2 : L2 ≠ pc1 := ne nL2 hL1.cat
    have d3 : pc2 ≠ L1 := ne nc2 hL1.at_
    have d4 : pc2 ≠ pc1 := ne nc2 hL1.cat
    have m1 := n0 nL2
    have m2 := n0 nc2
    have hL1 := hL1.same e2
    have e12 := e1.trans e2
    clear e1 e2 ne n0 nL2 nc2 np1 np2
    have fr : ∀ {Hx Hy : Hp}, Same H Hx → Mv2 L1 pc1 Hx Hy → Same H Hy := fun e mv b o h => mv b o (ne_of_none h nL1) (ne_of_none h nc1) (e b o h)
    have fr2 : ∀ {Hx Hy : Hp}, Same H Hx → Mv2 L2 pc2 Hx Hy → Same H Hy := fun e mv b o h => mv b o (ne_of_none h m1) (ne_of_none h m2) (e b o h)
    dsimp only
    refine go_seq ⟨_, rfl, (k : Int), rfl, by omega, by omega, ?_⟩
    rw [Int.toNat_natCast]
    refine for_range (lo := 0) (n := k) (fun i σ H' => ∃ (o6 o7 o8 o9 : Option V) (m : Nat) (ps1 ps2 : Addr) (es1 es2 : List (Int × Int)), σ = [some (.ref a), some (.ref b), some (.ref nl), some (.int (k : Int)), some (.ref L1), some (.ref L2), o6, o7, o8, o9] ∧
      LiveAt H' L1 pc1 (iterR ns r1 startM i) m ps1 es1 ∧ LiveAt H' L2 pc2 (iterR ns r2 startM i) m ps2 es2 ∧ Same H H' ∧ m ≤ 500 * i ∧ partedF ns r1 r2 k 0 startM startM = partedF ns r1 r2 (k - i) i (iterR ns r1 startM i) (iterR ns r2 startM i))
      ⟨_, _, _, _, 0, ps1, ps2, [], [], rfl, hL1, hL2, e12, Nat.zero_le _, rfl⟩ (fun i σ' Hd hi h => ?_) (fun σ' Hd h => ?_)
    · obtain ⟨o6, o7, o8, o9, m, ps1, ps2, es1, es2, rfl, one, two, eH, hm, hF⟩ := h
      dsimp only [gName]
      have h1B : ∀ j, Bd 4000 (doR ns (iterR ns r1 startM i) (r1.take j)) := fun j => hB1 i hi j
      have h2B : ∀ j, Bd 4000 (doR ns (iterR ns r2 startM i) (r2.take j)) := fun j => hB2 i hi j
      have i1 : iterR ns r1 startM (i + 1) = doR ns (iterR ns r1 startM i) r1 := rfl
      have i2 : iterR ns r2 startM (i + 1) = doR ns (iterR ns r2 startM i) r2 := rfl
      obtain ⟨d, hdk⟩ : ∃ d, k - i = d + 1 := ⟨k - i - 1, by omega⟩
      have hdk2 : k - (i + 1) = d := by omega
      rw [hdk] at hF
      have hF1 := fun h => hF.trans (parted_like h)
      have hF2 := fun h => hF.trans (parted_unlike h)
      clear hF
      rw [i1, i2, hdk2]
      generalize iterR ns r1 startM i = s at one h1B hF1 hF2 ⊢
      generalize iterR ns r2 startM i = t at two h2B hF1 hF2 ⊢
      refine go_seq ?_
      refine ⟨_, rfl, _, rfl, sz2, fun T1 n1 => ⟨_, rfl, _, rfl, sz2, fun T2 n2 => ⟨sz2, fun TT nT => ?_⟩⟩⟩
      have s1 := same_new (o := HO.tup [V.ref L1, V.ref a]) n1
      have s2 := same_new (o := HO.tup [V.ref L2, V.ref b]) n2
      have s3 := same_new (o := HO.tup [V.ref T1, V.ref T2]) nT
      have hT1 := (s2.trans s3) _ _ (upd_same (H := Hd) (a := T1) (o := HO.tup [V.ref L1, V.ref a]))
      have hT2 := s3 _ _ (upd_same (H := upd Hd T1 (.tup [.ref L1, .ref a])) (a := T2) (o := HO.tup [V.ref L2, V.ref b]))
      have hTT := upd_same (H := upd (upd Hd T1 (.tup [.ref L1, .ref a])) T2 (.tup [.ref L2, .ref b])) (a := TT) (o := HO.tup [V.ref T1, V.ref T2])
      have s123 := s1.trans (s2.trans s3)
      generalize upd (upd (upd Hd T1 (.tup [.ref L1, .ref a])) T2 (.tup [.ref L2, .ref b])) TT (.tup [.ref T1, .ref T2]) = He at hT1 hT2 hTT s123 ⊢
      have one := one.same s123
      have two := two.same s123
      have eH := eH.trans s123
      clear s1 s2 s3 s123 n1 n2 nT
      refine ⟨TT, rfl, ⟨_, .inl (.inl hTT)⟩, for_tup (xs := [V.ref T1, V.ref T2]) (fun j σ H' => ∃ (o7 o8 o9 : Option V) (ps1 ps2 : Addr) (es1 es2 : List (Int × Int)), σ = [some (.ref a), some (.ref b), some (.ref nl), some (.int (k : Int)), some (.ref L1), some (.ref L2), some (.int (0 + (i : Int))), o7, o8, o9] ∧
        ((j = 0 ∧ LiveAt H' L1 pc1 s m ps1 es1 ∧ LiveAt H' L2 pc2 t m ps2 es2) ∨ (j = 1 ∧ LiveAt H' L1 pc1 (doR ns s r1) (m + 500) ps1 es1 ∧ LiveAt H' L2 pc2 t m ps2 es2) ∨ (j = 2 ∧ LiveAt H' L1 pc1 (doR ns s r1) (m + 500) ps1 es1 ∧ LiveAt H' L2 pc2 (doR ns t r2) (m + 500) ps2 es2)) ∧ Same H H' ∧ H' TT = some (.tup [.ref T1, .ref T2]) ∧ H' T1 = some (.tup [.ref L1, .ref a]) ∧ H' T2 = some (.tup [.ref L2, .ref b]))
        ⟨_, _, _, ps1, ps2, es1, es2, rfl, .inl ⟨rfl, one, two⟩, eH, hTT, hT1, hT2⟩ (fun j σ H' _ h => ?_) (fun j v σ H' hv h => ?_) (fun σ H' h => ?_)⟩
      · obtain ⟨_, _, _, _, _, _, _, _, _, _, hTT, _⟩ := h
        exact .inl (.inl hTT)
      · obtain ⟨o7, o8, o9, ps1, ps2, es1, es2, rfl, st, eH, hTT, hT1, hT2⟩ := h
        have dk : ∀ {x : Addr} {xs : List V}, H' x = some (.tup xs) → x ≠ L1 ∧ x ≠ pc1 ∧ x ≠ L2 ∧ x ≠ pc2 := fun hx => by
          have two' : ∃ kk, H' L2 = some (.dK kk) := by rcases st with ⟨_, _, z⟩ | ⟨_, _, z⟩ | ⟨_, _, z⟩ <;> exact ⟨_, z.at_⟩
          have two'' : ∃ kk, H' pc2 = some (.dK kk) := by rcases st with ⟨_, _, z⟩ | ⟨_, _, z⟩ | ⟨_, _, z⟩ <;> exact ⟨_, z.cat⟩
          have one' : ∃ kk, H' L1 = some (.dK kk) := by rcases st with ⟨_, z, _⟩ | ⟨_, z, _⟩ | ⟨_, z, _⟩ <;> exact ⟨_, z.at_⟩
          have one'' : ∃ kk, H' pc1 = some (.dK kk) := by rcases st with ⟨_, z, _⟩ | ⟨_, z, _⟩ | ⟨_, z, _⟩ <;> exact ⟨_, z.cat⟩
          obtain ⟨_, w1⟩ := one'
          obtain ⟨_, w2⟩ := one''
          obtain ⟨_, w3⟩ := two'
          obtain ⟨_, w4⟩ := two''
          exact ⟨ne_of_two hx w1 (fun z => by cases z), ne_of_two hx w2 (fun z => by cases z), ne_of_two hx w3 (fun z => by cases z), ne_of_two hx w4 (fun z => by cases z)⟩
        have kT := dk hTT
        have kT1 := dk hT1
        have kT2 := dk hT2
        clear dk
        match j, hv with
        | 0, hv =>
          cases hv
          rcases st with ⟨_, one, two⟩ | ⟨z, _⟩ | ⟨z, _⟩
          · refine ⟨T1, _, rfl, .inl (.inl hT1), rfl, _, _, rfl, _, _, rfl, rfl, ?_⟩
            refine row_loop (K := K) (L := L1) (r := a) (nl := nl) one (eH.seq h1) (eH.seq hN) r1n h1B (by omega) fun o Hy ps' es' mv live => ?_
            exact ⟨_, _, o, ps', ps2, es', es2, rfl, .inr (.inl ⟨rfl, live.mono (by omega), LiveAt.mvO one two d1 d2 d3 d4 mv⟩), fr eH mv, mv _ _ kT.1 kT.2.1 hTT, mv _ _ kT1.1 kT1.2.1 hT1, mv _ _ kT2.1 kT2.2.1 hT2⟩
          · cases z
          · cases z
        | 1, hv =>
          cases hv
          rcases st with ⟨z, _⟩ | ⟨_, one, two⟩ | ⟨z, _⟩
          · cases z
          · refine ⟨T2, _, rfl, .inl (.inl hT2), rfl, _, _, rfl, _, _, rfl, rfl, ?_⟩
            refine row_loop (K := K) (L := L2) (r := b) (nl := nl) two (eH.seq h2) (eH.seq hN) r2n h2B (by omega) fun o Hy ps' es' mv live => ?_
            exact ⟨_, _, o, ps1, ps', es1, es', rfl, .inr (.inr ⟨rfl, LiveAt.mvO two one d1.symm d3.symm d2.symm d4.symm mv, live.mono (by omega)⟩), fr2 eH mv, mv _ _ kT.2.2.1 kT.2.2.2 hTT, mv _ _ kT1.2.2.1 kT1.2.2.2 hT1, mv _ _ kT2.2.2.1 kT2.2.2.2 hT2⟩
          · cases z
        | j + 2, hv => cases hv
      · obtain ⟨o7, o8, o9, ps1, ps2, es1, es2, rfl, st, eH, hTT, hT1, hT2⟩ := h
        rcases st with ⟨z, _⟩ | ⟨z, _⟩ | ⟨_, one, two⟩
        · cases z
        · cases z
        clear hTT hT1 hT2
        generalize doR ns s r1 = s1 at one hF1 hF2 ⊢
        generalize doR ns t r2 = s2 at two hF1 hF2 ⊢
        dsimp only
        refine go_if (go_test (go_op (go_call (go_cons (go_var rfl (go_nil ⟨L1, pc1, ps1, s1, m + 500, es1, rfl, one, by omega, fun R1 H1' l1 hC1 e1 hD1 => ?_⟩))))))
        refine go_call (go_cons (go_var rfl (go_nil ⟨L2, pc2, ps2, s2, m + 500, es2, rfl, two.same e1, by omega, fun R2 H2' l2 hC2 e2 hD2 => ?_⟩)))
        refine ⟨_, _, dp_same e2 _ _ hD1, hD2, seen_shaped _ _, seen_shaped _ _, _, rfl, ?_⟩
        have one := one.same (e1.trans e2)
        have two := two.same (e1.trans e2)
        have eH := eH.trans (e1.trans e2)
        have hq := seen_eqv hC1 hC2
        by_cases e : PyData.eqv (seenD s1 l1) (seenD s2 l2) = true
        · rw [e]
          have es := hq.mp e
          refine iteF (A := True) ?_
          exact ⟨_, _, _, _, m + 500, ps1, ps2, es1, es2, rfl, one, two, eH, by omega, hF1 es⟩
        · have e' : PyData.eqv (seenD s1 l1) (seenD s2 l2) = false := by simpa using e
          rw [e']
          refine iteT (B := True) ?_
          have ne : s1 ≠ s2 := fun z => e (hq.mpr z)
          rw [hF2 ne] at q
          have z := q _ eH
          have ev : optV (some (i + 1)) = V.int (0 + (i : Int) + 1) := by
            show V.int ((i + 1 : Nat) : Int) = _
            rw [show ((i + 1 : Nat) : Int) = 0 + (i : Int) + 1 by omega]
          rw [ev] at z
          exact go_ret (go_op (go_var rfl (go_c ⟨_, _, rfl, rfl, z⟩)))
    · obtain ⟨o6, o7, o8, o9, m, ps1, ps2, es1, es2, rfl, one, two, eH, hm, hF⟩ := h
      rw [Nat.sub_self] at hF
      rw [hF] at q
      dsimp only
      exact go_ret (go_c (q Hd eH))
end
end K54
namespace K54
open PySem PySem.Spec PyProof.Rows L2 Kx SX LamX Ms ItX
section
variable {P : Program} {w : World} {K : PySem.W.Frag} {mg : Str → Option Value} {base : Heap} (T : Tx K mg)
def sp_law_any (K : PySem.W.Frag) : Sp := fun vs H Q _ => ∃ (w c : Addr) (n : Nat), vs = [.ref w] ∧ Wh H w c n ∧ n < 900000 ∧ ∀ (k : Nat) (H' : Hp), k < 30 → k ≠ 6 → Mv w H H' → Wh H' w c (n + 1) → Q (.int (k : Int)) H'
theorem ok_law_any : FnOk P w K mg base CX0 2 T.f_law_any T.fd_law_any ["fork"] (sp_law_any K) := by
  refine T.F_law_any.ok sc_law_any (fun vs H Q E h => ?_) (fun cdv A outer s H vs Q E hr h => ?_)
  · obtain ⟨w, c, n, rfl, _⟩ := h
    rfl
  · obtain ⟨w, c, n, rfl, wh, hn, q⟩ := h
    refine ⟨_, (pss_cons (ps_set (i := 1) sc_law_any.nd rfl (.inl rfl) (pe_call (ok_law_tine T) (hr.mono (by decide)) (by rfl) T.g_law_tine T.F_law_tine.kp T.b_law_tine .nil pass0 (pa_cons (pv 0) (pa_cons pe_int pa_nil))))
    (pss_one (ps_ret (pe_op op_add (pv 1) (pe_callTy call_int1 (by rfl) T.m_int (by decide +kernel) (pa_cons (pe_cmpR op_gt (pv 1) pe_int (nomark _)) pa_nil)))))), ?_⟩
    refine go_seq (go_asg (go_call (go_cons (go_var rfl (go_cons (go_c (go_nil ⟨w, c, 29, n, rfl, by omega, by omega, wh, by omega, fun r H2 r0 r1 m2 wh2 => ?_⟩)))))))
    obtain ⟨k, rfl⟩ : ∃ k : Nat, r = k := ⟨r.toNat, by omega⟩
    dsimp only [gName]
    refine go_ret (go_op (go_var rfl (go_cb (go_cons (go_op (go_var rfl (go_c ⟨_, _, rfl, rfl, go_nil (.inr ⟨_, rfl, _, _, rfl, rfl, ?_⟩)⟩)))))))
    by_cases h : 5 < k
    · rw [decide_eq_true (show (5 : Int) < (k : Int) by omega)]
      exact q (k + 1) H2 (by omega) (by omega) m2 wh2
    · rw [decide_eq_false (show ¬ (5 : Int) < (k : Int) by omega)]
      have z := q k H2 (by omega) (by omega) m2 wh2
      have e : (k : Int) = (k : Int) + (if false = true then 1 else 0) := (Int.add_zero _).symm
      rw [e] at z
      exact z
/-- words that may stand in a row here -/
def okS (seg : List Nat) : Prop := ∀ x ∈ seg, x < 30 ∧ x ≠ 6
theorem okS_of {seg : List Nat} (h : (seg.all fun x => decide (x < 30) && !decide (x = 6)) = true) : okS seg := fun x m => by
  have := List.all_eq_true.mp h x m
  simpa using this
def SegV (H : Hp) (w : Addr) (v : V) : Prop := ∃ (p : Addr) (seg : List Nat), v = .ref p ∧ p ≠ w ∧ H p = some (.lst (rowV seg)) ∧ seg ≠ [] ∧ seg.length ≤ 2 ∧ okS seg
theorem SegV.mv {H H' : Hp} {w : Addr} {v : V} (h : SegV H w v) (m : Mv w H H') : SegV H' w v := by
  obtain ⟨p, seg, e, pw, hp, h⟩ := h
  exact ⟨p, seg, e, pw, m _ _ pw hp, h⟩
theorem SegV.same {H H' : Hp} {w : Addr} {v : V} (h : SegV H w v) (m : Same H H') : SegV H' w v := h.mv (Mv.of m)
theorem seg_new {H : Hp} {w c p : Addr} {n : Nat} {seg : List Nat} (np : H p = none) (wh : Wh H w c n) (h1 : seg ≠ []) (h2 : seg.length ≤ 2) (h3 : okS seg) : SegV (upd H p (.lst (rowV seg))) w (.ref p) := ⟨p, seg, rfl, wh.ne np, upd_same, h1, h2, h3⟩
structure RowJ (H0 H : Hp) (w c F : Addr) (rw : List Nat) (b n : Nat) : Prop where
  at_ : H F = some (.lst (rowV rw))
  nw : F ≠ w
  nF : H0 F = none
  mv : Mv w H0 H
  wh : Wh H w c n
  ok : okS rw
  ln : rw.length ≤ b
theorem mv_none {H0 H : Hp} {w p : Addr} (m : Mv w H0 H) (hw : p ≠ w) (np : H p = none) : H0 p = none := by
  cases z : H0 p with
  | none => rfl
  | some o =>
    have := m _ _ hw z
    rw [np] at this
    cases this
theorem pick_new {E : XK} {a c p : Addr} {n : Nat} {xs : List V} {H0 : Hp} {Q : VK} (np : H0 p = none) (wh : Wh H0 a c n) (hn : n < 1000000) (h0 : xs ≠ []) (hl : xs.length ≤ 1000000) (q : ∀ v H', v ∈ xs → Mv a H0 H' → Wh H' a c (n + 1) → Q v H') : sp_law_one_of K [.ref a, .ref p] (upd H0 p (.lst xs)) Q E := by
  have hpa := wh.ne np
  exact ⟨a, p, c, xs, n, rfl, .inl (.inl upd_same), h0, hl, wh.new np, hn, fun H' m => .inl (.inl (m _ _ hpa upd_same)), fun v H' hv m w' => q v H' hv ((Mv.of (same_new np)).trans m) w'⟩
theorem RowJ.draw {H0 H H' : Hp} {w c F : Addr} {rw : List Nat} {b n n' : Nat} (h : RowJ H0 H w c F rw b n) (m : Mv w H H') (wh : Wh H' w c n') : RowJ H0 H' w c F rw b n' :=
  { h with at_ := m _ _ h.nw h.at_, mv := h.mv.trans m, wh := wh }
theorem RowJ.new {H0 H H' : Hp} {w c F : Addr} {rw : List Nat} {b n : Nat} (h : RowJ H0 H w c F rw b n) (e : Same H H') : RowJ H0 H' w c F rw b n := h.draw (Mv.of e) (h.wh.same e)
theorem RowJ.ext {H0 H : Hp} {w c F : Addr} {rw seg : List Nat} {b n b' : Nat} (h : RowJ H0 H w c F rw b n) (hs : okS seg) (hl : b + seg.length ≤ b') (nc : F ≠ c) : RowJ H0 (upd H F (.lst (rowV rw ++ rowV seg))) w c F (rw ++ seg) b' n := by
  refine ⟨by rw [upd_same, row_app], h.nw, h.nF, fun b o nb hb => ?_, h.wh.set h.nw nc, fun x m => ?_, ?_⟩
  · rw [upd_ne (ne_of_none hb h.nF)]
    exact h.mv b o nb hb
  · rcases List.mem_append.mp m with m | m
    · exact h.ok x m
    · exact hs x m
  · rw [List.length_append]
    have := h.ln
    omega
def sp_law_row (K : PySem.W.Frag) : Sp := fun vs H Q _ => ∃ (w c : Addr) (n : Nat), vs = [.ref w] ∧ Wh H w c n ∧ n < 800000 ∧ ∀ (F : Addr) (rw : List Nat) (H' : Hp), RowJ H H' w c F rw 24 (n + 100) → rw ≠ [] → Q (.ref F) H'
theorem ok_law_row : FnOk P w K mg base CX0 3 T.f_law_row T.fd_law_row ["fork"] (sp_law_row K) := by
  refine T.F_law_row.ok sc_law_row (fun vs H Q E h => ?_) (fun cdv A outer s H vs Q E hr h => ?_)
  · obtain ⟨w, c, n, rfl, _⟩ := h
    rfl
  · obtain ⟨w, c, n, rfl, wh, hn, q⟩ := h
    refine ⟨_, (pss_cons (ps_set (i := 1) sc_law_row.nd rfl (.inl rfl) (pe_ifExp (pt_cmpR op_gt (pe_call (ok_law_tine T) (hr.mono (by decide)) (by rfl) T.g_law_tine T.F_law_tine.kp T.b_law_tine .nil pass0 (pa_cons (pv 0) (pa_cons pe_int pa_nil))) pe_int (nomark _)) (pe_lst (pa_cons pe_int (pa_cons pe_int (pa_cons pe_int pa_nil)))) (pe_lst pa_nil)))
    (pss_cons (ps_for PassesOwn.never rfl (pi_range1 (by rfl) T.m_range (pa_cons (pe_op op_add pe_int (pe_call (ok_law_tine T) (hr.mono (by decide)) (by rfl) T.g_law_tine T.F_law_tine.kp T.b_law_tine .nil pass0 (pa_cons (pv 0) (pa_cons pe_int pa_nil)))) pa_nil)) (pg_name (i := 2) sc_law_row.nd rfl (.inl rfl))
      (pss_one (ps_expr (pe_bm PySem.F.plainAttrs_list PySem.F.slot_list_extend PySem.F.type_list_extend mt_extend (pv 1) (pa_cons (pe_call (ok_law_one_of T) (hr.mono (by decide)) (by rfl) T.g_law_one_of T.F_law_one_of.kp T.b_law_one_of .nil pass0 (pa_cons (pv 0) (pa_cons (pe_lst (pa_cons (pe_lst (pa_cons pe_int (pa_cons (pe_op op_add pe_int (pe_call (ok_law_tine T) (hr.mono (by decide)) (by rfl) T.g_law_tine T.F_law_tine.kp T.b_law_tine .nil pass0 (pa_cons (pv 0) (pa_cons pe_int pa_nil)))) pa_nil))) (pa_cons (pe_lst (pa_cons pe_int (pa_cons pe_int pa_nil))) (pa_cons (pe_lst (pa_cons pe_int (pa_cons pe_int pa_nil))) (pa_cons (pe_lst (pa_cons pe_int pa_nil)) (pa_cons (pe_lst (pa_cons pe_int pa_nil)) (pa_cons (pe_lst (pa_cons pe_int (pa_cons pe_int pa_nil))) (pa_cons (pe_lst (pa_cons pe_int (pa_cons pe_int pa_nil))) (pa_cons (pe_lst (pa_cons pe_int pa_nil)) (pa_cons (pe_lst (pa_cons (pe_op op_add pe_int (pe_call (ok_law_tine T) (hr.mono (by decide)) (by rfl) T.g_law_tine T.F_law_tine.kp T.b_law_tine .nil pass0 (pa_cons (pv 0) (pa_cons pe_int pa_nil)))) pa_nil)) (pa_cons (pe_lst (pa_cons (pe_call (ok_law_any T) (hr.mono (by decide)) (by rfl) T.g_law_any T.F_law_any.kp T.b_law_any .nil pass0 (pa_cons (pv 0) pa_nil)) pa_nil)) pa_nil))))))))))) pa_nil))) pa_nil)))))
    (pss_one (ps_ret (pe_op op_cat (pv 1) (pe_ifExp (pt_cmpR op_eq (pe_call (ok_law_tine T) (hr.mono (by decide)) (by rfl) T.g_law_tine T.F_law_tine.kp T.b_law_tine .nil pass0 (pa_cons (pv 0) (pa_cons pe_int pa_nil))) pe_int (nomark _)) (pe_lst (pa_cons pe_int pa_nil)) (pe_lst pa_nil))))))), ?_⟩
    refine meetS (fun σ H' => ∃ (F : Addr) (rw : List Nat), σ = [some (.ref w), some (.ref F), none] ∧ RowJ H H' w c F rw 3 (n + 1)) (fun nx k => ?_) ?_
    · refine go_asg (go_ife (go_test (go_op (go_call (go_cons (go_var rfl (go_cons (go_c (go_nil ⟨w, c, 4, n, rfl, by omega, by omega, wh, by omega, fun r H2 r0 r1 m2 wh2 => ?_⟩)))))))))
      refine go_c ⟨_, _, rfl, rfl, _, rfl, iteC (fun e => ?_) (fun e => ?_)⟩
      · refine go_lst (go_cons (go_c (go_cons (go_c (go_cons (go_c (go_nil ⟨sz3, fun F nF => ?_⟩)))))))
        refine k _ _ ⟨F, [0, 1, 2], rfl, upd_same, wh2.ne nF, mv_none m2 (wh2.ne nF) nF, m2.trans (Mv.of (same_new nF)), wh2.same (same_new nF), okS_of rfl, by decide⟩
      · refine go_lst (go_nil ⟨Nat.zero_le _, fun F nF => ?_⟩)
        refine k _ _ ⟨F, [], rfl, upd_same, wh2.ne nF, mv_none m2 (wh2.ne nF) nF, m2.trans (Mv.of (same_new nF)), wh2.same (same_new nF), ?_, by decide⟩
        exact fun x m => by cases m
    rintro σ H1 ⟨F, rw0, rfl, hF⟩
    have Fn : H F = none := hF.nF
    have wc : ∃ o, H c = some o := wh.cell
    have Fc : F ≠ c := fun e => by
      obtain ⟨o, hc⟩ := wc
      rw [e] at Fn
      rw [Fn] at hc
      cases hc
    refine go_seq (go_op (go_c ?_))
    refine go_call (go_cons (go_var rfl (go_cons (go_c (go_nil ⟨w, c, 9, n + 1, rfl, by omega, by omega, hF.wh, by omega, fun r H2 r0 r1 m2 wh2 => ?_⟩)))))
    obtain ⟨k, rfl⟩ : ∃ k : Nat, r = k := ⟨r.toNat, by omega⟩
    have hF := hF.draw m2 wh2
    refine ⟨_, _, rfl, rfl, (1 + (k : Int)), rfl, by omega, by omega, ?_⟩
    rw [show (1 + (k : Int)).toNat = k + 1 by omega]
    have k8 : k ≤ 8 := by omega
    clear r0 r1 m2 wh2
    refine for_range (lo := 0) (n := k + 1) (fun i σ H' => ∃ (o : Option V) (rw : List Nat), σ = [some (.ref w), some (.ref F), o] ∧ RowJ H H' w c F rw (3 + 2 * i) (n + 2 + 4 * i) ∧ (0 < i → rw ≠ [])) ⟨_, rw0, rfl, hF, fun z => absurd z (by decide)⟩ (fun i σ' Hd hi h => ?_) (fun σ' Hd h => ?_)
    · obtain ⟨o, rw1, rfl, hF, _⟩ := h
      dsimp only [gName]
      refine go_drop (go_bm (go_var rfl ⟨.inl ⟨rfl, _, .inl (.inl hF.at_)⟩, ?_⟩))
      refine go_cons (go_call (go_cons (go_var rfl (go_cons (go_lst ?_)))))
      refine go_cons (go_lst (go_cons (go_c (go_cons (go_op (go_c (go_call (go_cons (go_var rfl (go_cons (go_c (go_nil ⟨w, c, 6, n + 2 + 4 * i, rfl, by omega, by omega, hF.wh, by omega, fun r H2 r0 r1 m2 wh2 => ⟨_, _, rfl, rfl, ?_⟩⟩))))))))))))
      obtain ⟨u, rfl⟩ : ∃ u : Nat, r = u := ⟨r.toNat, by omega⟩
      have hF := hF.draw m2 wh2
      clear r0 m2 wh2
      refine go_nil ⟨sz2, fun p1 n1 => ?_⟩
      have e1 : [V.int 3, V.int (13 + (u : Int))] = rowV [3, 13 + u] := rfl
      rw [e1]
      have s1 := same_new (o := HO.lst (rowV [3, 13 + u])) n1
      have g1 : SegV (upd H2 p1 (.lst (rowV [3, 13 + u]))) w (.ref p1) := seg_new n1 hF.wh (List.cons_ne_nil _ _) (by simp) (fun x m => by rcases List.mem_cons.mp m with rfl | m; exact ⟨by decide, by decide⟩; rw [List.mem_singleton.mp m]; exact ⟨by omega, by omega⟩)
      have hF := hF.new s1
      generalize upd H2 p1 (HO.lst (rowV [3, 13 + u])) = K1 at hF g1 ⊢
      clear s1 n1 e1
      refine go_cons (go_lst (go_cons (go_c (go_cons (go_c (go_nil ⟨sz2, fun p2 n2 => ?_⟩))))))
      have e2 : [V.int 3, V.int 10] = rowV [3, 10] := rfl
      rw [e2]
      have s2 := same_new (o := HO.lst (rowV [3, 10])) n2
      have g2 : SegV (upd K1 p2 (.lst (rowV [3, 10]))) w (.ref p2) := seg_new n2 hF.wh (List.cons_ne_nil _ _) (by simp) (okS_of rfl)
      have hF := hF.new s2
      have g1 := g1.same s2
      generalize upd K1 p2 (HO.lst (rowV [3, 10])) = K2 at hF g1 g2 ⊢
      clear s2 n2 e2
      refine go_cons (go_lst (go_cons (go_c (go_cons (go_c (go_nil ⟨sz2, fun p3 n3 => ?_⟩))))))
      have e3 : [V.int 1, V.int 2] = rowV [1, 2] := rfl
      rw [e3]
      have s3 := same_new (o := HO.lst (rowV [1, 2])) n3
      have g3 : SegV (upd K2 p3 (.lst (rowV [1, 2]))) w (.ref p3) := seg_new n3 hF.wh (List.cons_ne_nil _ _) (by simp) (okS_of rfl)
      have hF := hF.new s3
      have g1 := g1.same s3
      have g2 := g2.same s3
      generalize upd K2 p3 (HO.lst (rowV [1, 2])) = K3 at hF g1 g2 g3 ⊢
      clear s3 n3 e3
      refine go_cons (go_lst (go_cons (go_c (go_nil ⟨sz1, fun p4 n4 => ?_⟩))))
      have e4 : [V.int 28] = rowV [28] := rfl
      rw [e4]
      have s4 := same_new (o := HO.lst (rowV [28])) n4
      have g4 : SegV (upd K3 p4 (.lst (rowV [28]))) w (.ref p4) := seg_new n4 hF.wh (List.cons_ne_nil _ _) (by simp) (okS_of rfl)
      have hF := hF.new s4
      have g1 := g1.same s4
      have g2 := g2.same s4
      have g3 := g3.same s4
      generalize upd K3 p4 (HO.lst (rowV [28])) = K4 at hF g1 g2 g3 g4 ⊢
      clear s4 n4 e4
      refine go_cons (go_lst (go_cons (go_c (go_nil ⟨sz1, fun p5 n5 => ?_⟩))))
      have e5 : [V.int 20] = rowV [20] := rfl
      rw [e5]
      have s5 := same_new (o := HO.lst (rowV [20])) n5
      have g5 : SegV (upd K4 p5 (.lst (rowV [20]))) w (.ref p5) := seg_new n5 hF.wh (List.cons_ne_nil _ _) (by simp) (okS_of rfl)
      have hF := hF.new s5
      have g1 := g1.same s5
      have g2 := g2.same s5
      have g3 := g3.same s5
      have g4 := g4.same s5
      generalize upd K4 p5 (HO.lst (rowV [20])) = K5 at hF g1 g2 g3 g4 g5 ⊢
      clear s5 n5 e5
      refine go_cons (go_lst (go_cons (go_c (go_cons (go_c (go_nil ⟨sz2, fun p6 n6 => ?_⟩))))))
      have e6 : [V.int 3, V.int 9] = rowV [3, 9] := rfl
      rw [e6]
      have s6 := same_new (o := HO.lst (rowV [3, 9])) n6
      have g6 : SegV (upd K5 p6 (.lst (rowV [3, 9]))) w (.ref p6) := seg_new n6 hF.wh (List.cons_ne_nil _ _) (by simp) (okS_of rfl)
      have hF := hF.new s6
      have g1 := g1.same s6
      have g2 := g2.same s6
      have g3 := g3.same s6
      have g4 := g4.same s6
      have g5 := g5.same s6
      generalize upd K5 p6 (HO.lst (rowV [3, 9])) = K6 at hF g1 g2 g3 g4 g5 g6 ⊢
      clear s6 n6 e6
      refine go_cons (go_lst (go_cons (go_c (go_cons (go_c (go_nil ⟨sz2, fun p7 n7 => ?_⟩))))))
      have e7 : [V.int 21, V.int 22] = rowV [21, 22] := rfl
      rw [e7]
      have s7 := same_new (o := HO.lst (rowV [21, 22])) n7
      have g7 : SegV (upd K6 p7 (.lst (rowV [21, 22]))) w (.ref p7) := seg_new n7 hF.wh (List.cons_ne_nil _ _) (by simp) (okS_of rfl)
      have hF := hF.new s7
      have g1 := g1.same s7
      have g2 := g2.same s7
      have g3 := g3.same s7
      have g4 := g4.same s7
      have g5 := g5.same s7
      have g6 := g6.same s7
      generalize upd K6 p7 (HO.lst (rowV [21, 22])) = K7 at hF g1 g2 g3 g4 g5 g6 g7 ⊢
      clear s7 n7 e7
      refine go_cons (go_lst (go_cons (go_c (go_nil ⟨sz1, fun p8 n8 => ?_⟩))))
      have e8 : [V.int 23] = rowV [23] := rfl
      rw [e8]
      have s8 := same_new (o := HO.lst (rowV [23])) n8
      have g8 : SegV (upd K7 p8 (.lst (rowV [23]))) w (.ref p8) := seg_new n8 hF.wh (List.cons_ne_nil _ _) (by simp) (okS_of rfl)
      have hF := hF.new s8
      have g1 := g1.same s8
      have g2 := g2.same s8
      have g3 := g3.same s8
      have g4 := g4.same s8
      have g5 := g5.same s8
      have g6 := g6.same s8
      have g7 := g7.same s8
      generalize upd K7 p8 (HO.lst (rowV [23])) = K8 at hF g1 g2 g3 g4 g5 g6 g7 g8 ⊢
      clear s8 n8 e8
      refine go_cons (go_lst (go_cons (go_op (go_c (go_call (go_cons (go_var rfl (go_cons (go_c (go_nil ⟨w, c, 3, n + 2 + 4 * i + 1, rfl, by omega, by omega, hF.wh, by omega, fun r H3 r0 r2 m2 wh2 => ⟨_, _, rfl, rfl, ?_⟩⟩))))))))))
      obtain ⟨v, rfl⟩ : ∃ v : Nat, r = v := ⟨r.toNat, by omega⟩
      have hF := hF.draw m2 wh2
      have g1 := g1.mv m2
      have g2 := g2.mv m2
      have g3 := g3.mv m2
      have g4 := g4.mv m2
      have g5 := g5.mv m2
      have g6 := g6.mv m2
      have g7 := g7.mv m2
      have g8 := g8.mv m2
      clear r0 m2 wh2
      refine go_nil ⟨sz1, fun p9 n9 => ?_⟩
      have e9 : [V.int (25 + (v : Int))] = rowV [25 + v] := rfl
      rw [e9]
      have s9 := same_new (o := HO.lst (rowV [25 + v])) n9
      have g9 : SegV (upd H3 p9 (.lst (rowV [25 + v]))) w (.ref p9) := seg_new n9 hF.wh (List.cons_ne_nil _ _) (by simp) (fun x m => by rw [List.mem_singleton.mp m]; exact ⟨by omega, by omega⟩)
      have hF := hF.new s9
      have g1 := g1.same s9
      have g2 := g2.same s9
      have g3 := g3.same s9
      have g4 := g4.same s9
      have g5 := g5.same s9
      have g6 := g6.same s9
      have g7 := g7.same s9
      have g8 := g8.same s9
      generalize upd H3 p9 (HO.lst (rowV [25 + v])) = K9 at hF g1 g2 g3 g4 g5 g6 g7 g8 g9 ⊢
      clear s9 n9 e9
      refine go_cons (go_lst (go_cons (go_call (go_cons (go_var rfl (go_nil ⟨w, c, n + 2 + 4 * i + 1 + 1, rfl, hF.wh, by omega, fun y H4 y30 y6 m2 wh2 => ?_⟩))))))
      have hF := hF.draw m2 wh2
      have g1 := g1.mv m2
      have g2 := g2.mv m2
      have g3 := g3.mv m2
      have g4 := g4.mv m2
      have g5 := g5.mv m2
      have g6 := g6.mv m2
      have g7 := g7.mv m2
      have g8 := g8.mv m2
      have g9 := g9.mv m2
      clear m2 wh2
      refine go_nil ⟨sz1, fun p10 n10 => ?_⟩
      have e10 : [V.int (y : Int)] = rowV [y] := rfl
      rw [e10]
      have s10 := same_new (o := HO.lst (rowV [y])) n10
      have g10 : SegV (upd H4 p10 (.lst (rowV [y]))) w (.ref p10) := seg_new n10 hF.wh (List.cons_ne_nil _ _) (by simp) (fun x m => by rw [List.mem_singleton.mp m]; exact ⟨y30, y6⟩)
      have hF := hF.new s10
      have g1 := g1.same s10
      have g2 := g2.same s10
      have g3 := g3.same s10
      have g4 := g4.same s10
      have g5 := g5.same s10
      have g6 := g6.same s10
      have g7 := g7.same s10
      have g8 := g8.same s10
      have g9 := g9.same s10
      generalize upd H4 p10 (HO.lst (rowV [y])) = K10 at hF g1 g2 g3 g4 g5 g6 g7 g8 g9 g10 ⊢
      clear s10 n10 e10
      refine go_nil ⟨show 10 ≤ sizeLine by decide, fun PP nPP => go_nil (pick_new nPP hF.wh (by omega) (by simp) (show 10 ≤ 1000000 by decide) fun z H9 hz m9 w9 => ?_)⟩
      have hs : SegV K10 w z := by
        simp only [List.mem_cons, List.not_mem_nil, or_false] at hz
        rcases hz with rfl | rfl | rfl | rfl | rfl | rfl | rfl | rfl | rfl | rfl
        · exact g1
        · exact g2
        · exact g3
        · exact g4
        · exact g5
        · exact g6
        · exact g7
        · exact g8
        · exact g9
        · exact g10
      obtain ⟨p, seg, rfl, pw, hp, sg1, sg2, sg3⟩ := hs.mv m9
      have hF := hF.draw m9 w9
      have ln := hF.ln
      refine go_nil ⟨F, p, _, _, rfl, rfl, hF.at_, hp, ?_, ⟨_, rw1 ++ seg, rfl, ?_, fun _ z => sg1 (List.append_eq_nil_iff.mp z).2⟩⟩
      · rw [rowV_len, rowV_len]
        exact Nat.le_trans (show rw1.length + seg.length ≤ 100 by omega) (by decide)
      · have k := hF.ext (b' := 3 + 2 * (i + 1)) sg3 (by omega) Fc
        exact { k with wh := k.wh.lt (by omega) }
    · obtain ⟨o, rw1, rfl, hF, hne⟩ := h
      dsimp only
      refine go_ret (go_op (go_var rfl (go_ife (go_test (go_op (go_call (go_cons (go_var rfl (go_cons (go_c (go_nil ⟨w, c, 4, n + 2 + 4 * (k + 1), rfl, by omega, by omega, hF.wh, by omega, fun r H2 r0 r1 m2 wh2 => ?_⟩)))))))))))
      refine go_c ⟨rfl, _, rfl, ?_⟩
      have hF := hF.draw m2 wh2
      have hne := hne (by omega)
      have last : ∀ (seg : List Nat), okS seg → seg.length ≤ 1 → ∀ p, H2 p = none → rCat (.ref F) (.ref p) (upd H2 p (.lst (rowV seg))) Q := fun seg hs hl p np => by
        have s1 := same_new (o := HO.lst (rowV seg)) np
        have hF1 := hF.new s1
        refine ⟨F, p, _, _, rfl, rfl, hF1.at_, upd_same, ?_, fun R nR => ?_⟩
        · have := hF1.ln
          rw [rowV_len, rowV_len]
          exact Nat.le_trans (show rw1.length + seg.length ≤ 100 by omega) (by decide)
        have s2 := same_new (o := HO.lst (rowV rw1 ++ rowV seg)) nR
        have w1 := hF1.wh
        have m1 := hF1.mv
        have l1 := hF1.ln
        refine q R (rw1 ++ seg) _ ⟨by rw [upd_same, row_app], w1.ne nR, mv_none m1 (w1.ne nR) nR, m1.trans (Mv.of s2), (w1.same s2).lt (by omega), fun x m => ?_, ?_⟩ ?_
        · rcases List.mem_append.mp m with m | m
          · exact hF1.ok x m
          · exact hs x m
        · rw [List.length_append]
          omega
        · intro z
          exact hne (List.append_eq_nil_iff.mp z).1
      refine iteC (fun e => ?_) (fun e => ?_)
      · exact go_lst (go_cons (go_c (go_nil ⟨sz1, last [29] (okS_of rfl) (by decide)⟩)))
      · exact go_lst (go_nil ⟨Nat.zero_le _, last [] (okS_of rfl) (by decide)⟩)
end
end K54
namespace K54
open PySem PySem.Spec PyProof.Rows L2 Kx SX LamX Ms ItX
section
variable {P : Program} {w : World} {K : PySem.W.Frag} {mg : Str → Option Value} {base : Heap} (T : Tx K mg)
def okIB (it : List Nat) : Bool := !decide (numOf 0 plainL it = some 6) && (decide (it.length ≤ 12) && (it.all sg && !decide (32 ∈ it)))
def okI (it : List Nat) : Prop := numOf 0 plainL it ≠ some 6 ∧ it.length ≤ 12 ∧ it.all sg = true ∧ 32 ∉ it
theorem okI_of {it : List Nat} (h : okIB it = true) : okI it := by
  unfold okIB at h
  simpa [okI, and_assoc] using h
theorem word_okB : ((List.range 30).all fun n => decide (n = 6) || okIB (plainL.getD n [])) = true := by decide +kernel
theorem cut_okB : ((List.range 30).all fun n => okIB ((plainL.getD n []).drop 1)) = true := by decide +kernel
theorem word_ok {n : Nat} (h : n < 30) (h6 : n ≠ 6) : okI (plainL.getD n []) := by
  have := List.all_eq_true.mp word_okB n (List.mem_range.mpr h)
  rw [decide_eq_false h6, Bool.false_or] at this
  exact okI_of this
theorem cut_ok {n : Nat} (h : n < 30) : okI ((plainL.getD n []).drop 1) := okI_of (List.all_eq_true.mp cut_okB n (List.mem_range.mpr h))
theorem nil_ok : okI [] := okI_of (by decide +kernel)
theorem word_at {n : Nat} (h : n < 30) : atI (plainL.map tx) (n : Int) = some (tx (plainL.getD n [])) := by
  have hl : n < plainL.length := by rw [plain_len]; exact h
  rw [at_nat (by rw [List.length_map]; exact hl), List.getElem_map, List.getD_eq_getElem?_getD, List.getElem?_eq_getElem hl]
  rfl
/-- items that are drawn, as far as they are -/
structure ItsJ (H0 H : Hp) (w c F : Addr) (its : List (List Nat)) (b n : Nat) : Prop where
  at_ : H F = some (.lst (its.map tx))
  nw : F ≠ w
  nc : F ≠ c
  nF : H0 F = none
  mv : Mv w H0 H
  wh : Wh H w c n
  ok : ∀ it ∈ its, okI it
  ln : its.length ≤ b
section
variable {H0 H H' : Hp} {w c F : Addr} {its seg : List (List Nat)} {b n b' n' : Nat}
theorem ItsJ.draw (h : ItsJ H0 H w c F its b n) (m : Mv w H H') (wh : Wh H' w c n') : ItsJ H0 H' w c F its b n' :=
  { h with at_ := m _ _ h.nw h.at_, mv := h.mv.trans m, wh := wh }
theorem ItsJ.new (h : ItsJ H0 H w c F its b n) (e : Same H H') : ItsJ H0 H' w c F its b n := h.draw (Mv.of e) (h.wh.same e)
theorem ItsJ.ext (h : ItsJ H0 H w c F its b n) (hs : ∀ it ∈ seg, okI it) (hl : b + seg.length ≤ b') (hn : n ≤ n') : ItsJ H0 (upd H F (.lst (its.map tx ++ seg.map tx))) w c F (its ++ seg) b' n' := by
  refine ⟨by rw [upd_same, List.map_append], h.nw, h.nc, h.nF, fun b o nb hb => ?_, (h.wh.set h.nw h.nc).lt hn, fun x m => ?_, ?_⟩
  · rw [upd_ne (ne_of_none hb h.nF)]
    exact h.mv b o nb hb
  · rcases List.mem_append.mp m with m | m
    · exact h.ok x m
    · exact hs x m
  · rw [List.length_append]
    have := h.ln
    omega
end
theorem rep3 (x : V) : (List.replicate (3 : Int).toNat [x]).flatten = [x, x, x] := rfl
theorem S_app (a b : List Nat) : (S a ++ S b : Str) = S (a ++ b) := by
  show (⟨_⟩ : Str) = _
  simp [S]
theorem cut2 {a b c : List Nat} {r : Str} (h : r = S (a ++ b ++ c)) : r = S (a ++ b ++ c) := h
theorem sgetD {l : List Nat} {a : Nat} (h : a < l.length) : atI (S l).cps.toList (a : Int) = some (l.getD a 0) := by
  have e0 : (S l).cps.toList = l := by simp [S]
  rw [e0, at_nat h, List.getD_eq_getElem?_getD, List.getElem?_eq_getElem h]
  rfl
theorem len_le {l : List Nat} (h : l.length ≤ 200000) : (S l).length ≤ sizeLine := by
  rw [S_len]
  exact Nat.le_trans h (by decide)
theorem app_le {a b : List Nat} (h : a.length + b.length ≤ 400000) : (S a).length + (S b).length ≤ sizeLine := by
  rw [S_len, S_len]
  exact Nat.le_trans h (by decide)
theorem cut_toN (l : List Nat) (a : Nat) : Txt.slice (S l) none (some (a : Int)) = S (l.take a) := slice_toS l a
theorem cut_fromN (l : List Nat) (a : Nat) : Txt.slice (S l) (some (a : Int)) none = S (l.drop a) := slice_fromS l a
theorem cut_fromN1 (l : List Nat) (a : Nat) : Txt.slice (S l) (some ((a : Int) + 1)) none = S (l.drop (a + 1)) := slice_fromS l (a + 1)
theorem orNe {i j k : Nat} {a b d c : Int} {σ : L2.St} {H : Hp} {Q : Bool → Hp → Prop} (hi : σ[i]? = some (some (.int a))) (hj : σ[j]? = some (some (.int b))) (hk : σ[k]? = some (some (.int d))) (q : Q (!decide (a = b) || decide (d = c)) H) :
    tOr (tTest (tOp rNe (tVar i) (tVar j))) (tTest (tOp rEq (tVar k) (tC (.int c)))) σ H Q := by
  refine go_or2 (go_test (go_op (go_var hi (go_var hj ⟨rfl, _, rfl, ?_⟩))))
  rw [decI]
  by_cases h : a = b
  · rw [decide_eq_true h] at q ⊢
    refine iteF (A := True) (go_test (go_op (go_var hk (go_c ⟨rfl, _, rfl, ?_⟩))))
    rw [decI]
    exact q
  · rw [decide_eq_false h] at q ⊢
    exact iteT (B := True) q
def sp_law_items (K : PySem.W.Frag) : Sp := fun vs H Q _ => ∃ (w c r : Addr) (rw : List Nat) (n : Nat), vs = [.ref w, .ref r] ∧ Wh H w c n ∧ n < 800000 ∧ r ≠ w ∧ H r = some (.lst (rowV rw)) ∧ okS rw ∧ rw ≠ [] ∧ rw.length ≤ 24 ∧ ∀ (F : Addr) (its : List (List Nat)) (H' : Hp), ItsJ H H' w c F its 72 (n + 100) → Q (.ref F) H'
theorem ok_law_items : FnOk P w K mg base CX0 3 T.f_law_items T.fd_law_items ["fork", "row"] (sp_law_items K) := by
  refine T.F_law_items.ok sc_law_items (fun vs H Q E h => ?_) (fun cdv A outer s H vs Q E hr h => ?_)
  · obtain ⟨w, c, r, rw, n, rfl, _⟩ := h
    rfl
  · obtain ⟨w, c, r, row, n, rfl, wh, hn, rw_, hr0, hok, hne, hl, q⟩ := h
    refine ⟨_, (pss_cons (ps_par (i := 2) (j := 3) rfl sc_law_items.nd rfl rfl (by decide) rfl rfl (pa_cons (pe_call0 (ok_law_vocabulary T) (hr.mono (by decide)) (by rfl) T.g_law_vocabulary T.F_law_vocabulary.kp T.b_law_vocabulary .nil pass0) (pa_cons (pe_lst pa_nil) pa_nil)) (by rfl))
    (pss_cons (ps_par (i := 4) (j := 5) rfl sc_law_items.nd rfl rfl (by decide) rfl rfl (pa_cons (pe_call (ok_law_tine T) (hr.mono (by decide)) (by rfl) T.g_law_tine T.F_law_tine.kp T.b_law_tine .nil pass0 (pa_cons (pv 0) (pa_cons (pe_callB call_len_seq (by rfl) T.m_len PySem.boot_len (pa_cons (pv 1) pa_nil)) pa_nil))) (pa_cons (pe_call (ok_law_tine T) (hr.mono (by decide)) (by rfl) T.g_law_tine T.F_law_tine.kp T.b_law_tine .nil pass0 (pa_cons (pv 0) (pa_cons pe_int pa_nil))) pa_nil)) (by rfl))
    (pss_cons (ps_for PassesOwn.never rfl (pi_enum (by rfl) T.m_enumerate (pa_cons (pv 1) pa_nil)) (pg_tup rfl (pgs_cons (pg_name (i := 6) sc_law_items.nd rfl (.inl rfl)) (pgs_cons (pg_name (i := 7) sc_law_items.nd rfl (.inl rfl)) pgs_nil)))
      (pss_one (ps_if (PW.pt (pw_or (pt_cmpR op_ne (pv 6) (pv 4) (nomark _)) (pw_or1 (pt_cmpR op_eq (pv 5) pe_int (nomark _)))))
        (pss_one (ps_expr (pe_bm PySem.F.plainAttrs_list PySem.F.slot_list_append PySem.F.type_list_append mt_append (pv 3) (pa_cons (pe_ix ix_list (pv 2) (pv 7) (fun _ _ => rfl)) pa_nil))))
        (pss_one (ps_if (pt_cmpR op_eq (pv 5) pe_int (nomark _))
          (pss_one (ps_expr (pe_bm PySem.F.plainAttrs_list PySem.F.slot_list_extend PySem.F.type_list_extend mt_extend (pv 3) (pa_cons (pe_op op_rep (pe_lst (pa_cons (pe_ix ix_list (pv 2) (pv 7) (fun _ _ => rfl)) pa_nil)) pe_int) pa_nil))))
          (pss_one (ps_if (pt_cmpR op_eq (pv 5) pe_int (nomark _))
            (pss_one (ps_expr (pe_bm PySem.F.plainAttrs_list PySem.F.slot_list_extend PySem.F.type_list_extend mt_extend (pv 3) (pa_cons (pe_lst (pa_cons (pe_ix ix_list (pv 2) (pe_call (ok_law_any T) (hr.mono (by decide)) (by rfl) T.g_law_any T.F_law_any.kp T.b_law_any .nil pass0 (pa_cons (pv 0) pa_nil)) (fun _ _ => rfl)) (pa_cons (pe_ix ix_list (pv 2) (pv 7) (fun _ _ => rfl)) pa_nil))) pa_nil))))
            (pss_one (ps_if (pt_cmpR op_eq (pv 5) pe_int (nomark _))
              (pss_one (ps_expr (pe_bm PySem.F.plainAttrs_list PySem.F.slot_list_extend PySem.F.type_list_extend mt_extend (pv 3) (pa_cons (pe_lst (pa_cons (pe_slice C8.sl_txt (pe_ix ix_list (pv 2) (pv 7) (fun _ _ => rfl)) (po_some pe_int) po_none) (pa_cons pe_str (pa_cons (pe_ix ix_list (pv 2) (pv 7) (fun _ _ => rfl)) pa_nil)))) pa_nil))))
              pss_nil)))))))))
    (pss_one (ps_ret (pv 3)))))), ?_⟩
    refine go_seq (go_par2 (go_cons ?_))
    refine ⟨rfl, fun V0 H1 e1 nV hV => ?_⟩
    refine go_cons (go_lst (go_nil ⟨Nat.zero_le _, fun F nF => go_nil ⟨_, _, rfl, ?_⟩⟩))
    have s2 := same_new (o := HO.lst []) nF
    have wh1 := wh.same e1
    have nF0 : H F = none := mv_none (Mv.of (a := w) e1) (wh1.ne nF) nF
    have hJ : ItsJ H (upd H1 F (.lst [])) w c F [] 0 n := ⟨upd_same, wh1.ne nF, wh1.nc nF, nF0, Mv.of (e1.trans s2), wh1.same s2, fun x m => (by cases m), Nat.le_refl _⟩
    have hV := s2 _ _ hV
    have Vw : V0 ≠ w := wh.ne nV
    have Vc : V0 ≠ c := wh.nc nV
    have VF : V0 ≠ F := fun e => by
      rw [e] at hV
      have z := hJ.at_.symm.trans hV
      injection z with z
      injection z with z
      have z := congrArg List.length z
      rw [List.length_map, List.length_map, plain_len] at z
      cases z
    have hr1 := (e1.trans s2) _ _ hr0
    have rF : r ≠ F := ne_of_none hr0 nF0
    generalize upd H1 F (HO.lst []) = H2 at hJ hV hr1 ⊢
    clear s2 wh1 e1 nF nV wh
    dsimp only
    have rl : 0 < row.length := by cases row with
      | nil => exact absurd rfl hne
      | cons x l => exact Nat.succ_pos _
    refine go_seq (go_par2 (go_cons (go_call (go_cons (go_var rfl (go_cons (go_cb (go_cons (go_var rfl (go_nil ⟨r, _, rfl, .inl (.inl (.inl hr1)), go_nil ⟨w, c, _, n, rfl, by rw [rowV_len]; omega, by rw [rowV_len]; omega, hJ.wh, by omega, fun a1 H3 a0 a2 m3 wh3 => ?_⟩⟩))))))))))
    have hJ := hJ.draw m3 wh3
    have hV := m3 _ _ Vw hV
    have hr1 := m3 _ _ rw_ hr1
    clear m3 wh3 a0 a2
    refine go_cons (go_call (go_cons (go_var rfl (go_cons (go_c (go_nil ⟨w, c, 5, n + 1, rfl, by omega, by omega, hJ.wh, by omega, fun way H4 b0 b2 m4 wh4 => ?_⟩))))))
    have hJ := hJ.draw m4 wh4
    have hV := m4 _ _ Vw hV
    have hr1 := m4 _ _ rw_ hr1
    clear m4 wh4
    refine go_nil ⟨_, _, rfl, ?_⟩
    dsimp only
    refine go_seq ⟨_, rfl, r, _, rfl, .inl (.inl hr1), for_it (walk_enum (xs := rowV row)) (fun i σ H' => ∃ (o6 o7 : Option V) (its : List (List Nat)), σ = [some (.ref w), some (.ref r), some (.ref V0), some (.ref F), some (.int a1), some (.int way), o6, o7] ∧ ItsJ H H' w c F its (3 * i) (n + 2 + i) ∧ H' V0 = some (.lst (plainL.map tx)) ∧ H' r = some (.lst (rowV row)))
      ⟨_, _, [], rfl, hJ, hV, hr1⟩ (fun i σ H' _ h => ?_) (fun i x σ' Hd Hv hi h y => ?_) (fun σ' Hd h => ?_)⟩
    · obtain ⟨_, _, _, _, _, _, h⟩ := h
      exact .inl (.inl h)
    · obtain ⟨o6, o7, its, rfl, hJ, hV, hr1⟩ := h
      obtain ⟨t, x1, x2, rfl, nt, rfl, y1, y2⟩ := y
      cases y1
      obtain ⟨m, hm, rfl⟩ := rowV_get y2
      have hmr := hok m (List.mem_of_getElem? hm)
      have st := same_new (o := HO.tup [V.int (i : Nat), V.int (m : Int)]) nt
      have hJ := hJ.new st
      have hV := st _ _ hV
      have hr1 := st _ _ hr1
      have hT := upd_same (H := Hd) (a := t) (o := HO.tup [V.int (i : Nat), V.int (m : Int)])
      generalize upd Hd t (HO.tup [V.int (i : Nat), V.int (m : Int)]) = H5 at hJ hV hr1 hT ⊢
      clear st nt
      rw [rowV_len] at hi
      refine ⟨t, _, rfl, .inl (.inl hT), rfl, _, _, rfl, _, _, rfl, rfl, ?_⟩
      clear hT
      have ok1 := word_ok hmr.1 hmr.2
      have wm := word_at hmr.1
      have lb := hJ.ln
      have hVL : SqL K H5 V0 (plainL.map tx) := .inl (.inl hV)
      have one : ∀ {x : List Nat}, okI x → ∀ y ∈ [x], okI y := fun h y m => by rw [List.mem_singleton.mp m]; exact h
      refine go_if (orNe rfl rfl rfl ?_)
      refine iteC (fun e => ?_) (fun e => ?_)
      · refine go_drop (go_bm (go_var rfl ⟨.inl ⟨rfl, _, .inl (.inl hJ.at_)⟩, go_cons (go_op (go_var rfl (go_var rfl ⟨V0, _, _, _, rfl, rfl, hVL, wm, ?_⟩)))⟩))
        refine go_nil ⟨F, _, _, rfl, rfl, hJ.at_, by rw [List.length_map]; exact Nat.lt_of_le_of_lt (show its.length ≤ 100 by omega) (by decide), ?_⟩
        exact ⟨_, _, its ++ [plainL.getD m []], rfl, hJ.ext (seg := [plainL.getD m []]) (one ok1) (by show _ + 1 ≤ _; omega) (by omega), by rw [upd_ne VF]; exact hV, by rw [upd_ne rF]; exact hr1⟩
      refine ifEq rfl (fun e1 => ?_) (fun e1 => ?_)
      · refine go_drop (go_bm (go_var rfl ⟨.inl ⟨rfl, _, .inl (.inl hJ.at_)⟩, go_cons (go_op (go_lst (go_cons (go_op (go_var rfl (go_var rfl ⟨V0, _, _, _, rfl, rfl, hVL, wm, go_nil ⟨sz1, fun p np => ?_⟩⟩))))))⟩))
        have s1 := same_new (o := HO.lst [tx (plainL.getD m [])]) np
        refine go_c ⟨p, _, _, rfl, rfl, upd_same, by decide, by decide, by show 1 * 3 ≤ sizeLine; decide, fun p2 np2 => ?_⟩
        rw [rep3]
        have s2 := s1.trans (same_new (o := HO.lst [tx (plainL.getD m []), tx (plainL.getD m []), tx (plainL.getD m [])]) np2)
        have hJ := hJ.new s2
        have hV := s2 _ _ hV
        have hr1 := s2 _ _ hr1
        refine go_nil ⟨F, p2, _, [tx (plainL.getD m []), tx (plainL.getD m []), tx (plainL.getD m [])], rfl, rfl, hJ.at_, upd_same, by rw [List.length_map]; exact Nat.le_trans (show its.length + 3 ≤ 100 by omega) (by decide), ?_⟩
        refine ⟨_, _, its ++ [plainL.getD m [], plainL.getD m [], plainL.getD m []], rfl, hJ.ext (seg := [plainL.getD m [], plainL.getD m [], plainL.getD m []]) (fun y h => ?_) (by show _ + 3 ≤ _; omega) (by omega), by rw [upd_ne VF]; exact hV, by rw [upd_ne rF]; exact hr1⟩
        simp only [List.mem_cons, List.not_mem_nil, or_false, or_self] at h
        rw [h]
        exact ok1
      refine ifEq rfl (fun e2 => ?_) (fun e2 => ?_)
      · refine go_drop (go_bm (go_var rfl ⟨.inl ⟨rfl, _, .inl (.inl hJ.at_)⟩, go_cons (go_lst (go_cons (go_op (go_var rfl (go_call (go_cons (go_var rfl (go_nil ⟨w, c, n + 2 + i, rfl, hJ.wh, by omega, fun y H6 y30 y6 m2 wh2 => ?_⟩))))))))⟩))
        have hJ := hJ.draw m2 wh2
        have hV := m2 _ _ Vw hV
        have hr1 := m2 _ _ rw_ hr1
        have hVL : SqL K H6 V0 (plainL.map tx) := .inl (.inl hV)
        refine ⟨V0, _, _, _, rfl, rfl, hVL, word_at y30, go_cons (go_op (go_var rfl (go_var rfl ⟨V0, _, _, _, rfl, rfl, hVL, wm, go_nil ⟨sz2, fun p np => ?_⟩⟩)))⟩
        have s1 := same_new (o := HO.lst [tx (plainL.getD y []), tx (plainL.getD m [])]) np
        have hJ := hJ.new s1
        have hV := s1 _ _ hV
        have hr1 := s1 _ _ hr1
        refine go_nil ⟨F, p, _, [tx (plainL.getD y []), tx (plainL.getD m [])], rfl, rfl, hJ.at_, upd_same, by rw [List.length_map]; exact Nat.le_trans (show its.length + 2 ≤ 100 by omega) (by decide), ?_⟩
        refine ⟨_, _, its ++ [plainL.getD y [], plainL.getD m []], rfl, hJ.ext (seg := [plainL.getD y [], plainL.getD m []]) (fun z h => ?_) (by show _ + 2 ≤ _; omega) (by omega), by rw [upd_ne VF]; exact hV, by rw [upd_ne rF]; exact hr1⟩
        rcases List.mem_cons.mp h with rfl | h
        · exact word_ok y30 y6
        · exact one ok1 z h
      refine ifEq rfl (fun e3 => ?_) (fun e3 => ?_)
      · refine go_drop (go_bm (go_var rfl ⟨.inl ⟨rfl, _, .inl (.inl hJ.at_)⟩, go_cons (go_lst (go_cons ?_))⟩))
        refine ⟨_, rfl, _, rfl, V0, _, _, _, rfl, rfl, hVL, wm, (1 : Int), rfl, plainL.getD m [] |> S, rfl, ?_, ?_⟩
        · rw [S_len]
          exact Nat.le_trans ok1.2.1 (by decide)
        rw [show (1 : Int) = ((1 : Nat) : Int) from rfl, slice_fromS]
        refine go_cons (go_c (go_cons (go_op (go_var rfl (go_var rfl ⟨V0, _, _, _, rfl, rfl, hVL, wm, go_nil ⟨sz3, fun p np => ?_⟩⟩)))))
        have s1 := same_new (o := HO.lst [tx ((plainL.getD m []).drop 1), tx [], tx (plainL.getD m [])]) np
        have hJ := hJ.new s1
        have hV := s1 _ _ hV
        have hr1 := s1 _ _ hr1
        refine go_nil ⟨F, p, _, [tx ((plainL.getD m []).drop 1), tx [], tx (plainL.getD m [])], rfl, rfl, hJ.at_, upd_same, by rw [List.length_map]; exact Nat.le_trans (show its.length + 3 ≤ 100 by omega) (by decide), ?_⟩
        refine ⟨_, _, its ++ [(plainL.getD m []).drop 1, [], plainL.getD m []], rfl, hJ.ext (seg := [(plainL.getD m []).drop 1, [], plainL.getD m []]) (fun z h => ?_) (by show _ + 3 ≤ _; omega) (by omega), by rw [upd_ne VF]; exact hV, by rw [upd_ne rF]; exact hr1⟩
        rcases List.mem_cons.mp h with rfl | h
        · exact cut_ok hmr.1
        rcases List.mem_cons.mp h with rfl | h
        · exact nil_ok
        · exact one ok1 z h
      · exact ⟨_, _, its, rfl, { hJ with wh := hJ.wh.lt (by omega), ln := by omega }, hV, hr1⟩
    · obtain ⟨o6, o7, its, rfl, hJ, _, _⟩ := h
      rw [rowV_len] at hJ
      dsimp only
      have ln := hJ.ln
      exact go_ret (go_var rfl (q F its Hd { hJ with wh := hJ.wh.lt (by omega), ln := by omega }))
end
end K54
namespace K54
open PySem PySem.Spec PyProof.Rows L2 Kx SX LamX
def names : List Str := ["text", "number", "heard"]
def Told {K : PySem.W.Frag} {mg : Str → Option Value} (T : Tx K mg) (cls : Value) (wd : Str) : Prop := (cls = .ref T.e_BadText.C ∧ wd = "text") ∨ (cls = .ref T.e_BadNumber.C ∧ wd = "number") ∨ (cls = .ref T.e_BadHeard.C ∧ wd = "heard")
def TTh {K : PySem.W.Frag} {mg : Str → Option Value} (T : Tx K mg) : (XK → Hp → VK → Prop) → Hp → VK → Prop := fun tl H Q => ∀ N : VK,
  tl (fun cls d H' => ∃ (dd : Addr) (p : V) (wd : Str), Told T cls wd ∧ d = some dd ∧ H' dd = some (.xd [("part", p)]) ∧ ∀ t H'', Same H' H'' → H'' t = some (.tup [.str wd, p]) → Q (.ref t) H'') H N
structure KitH {K : PySem.W.Frag} {mg : Str → Option Value} (T : Tx K mg) (D : Addr) (j : Nat) : Prop where
  t : PySem.W.kitOne K (.ref D) (.ref T.k_TooMany) = some false
  f0 : PySem.W.kitOne K (.ref D) (.ref T.e_BadText.C) = some (decide (0 = j))
  f1 : PySem.W.kitOne K (.ref D) (.ref T.e_BadNumber.C) = some (decide (1 = j))
  f2 : PySem.W.kitOne K (.ref D) (.ref T.e_BadHeard.C) = some (decide (2 = j))
theorem kitH_BadText {K : PySem.W.Frag} {mg : Str → Option Value} (T : Tx K mg) : KitH T T.e_BadText.C 0 := by
  have q_BadText : T.e_BadText.C = T.k_BadText := same_ref T.e_BadText.gC T.gk_BadText
  have q_BadNumber : T.e_BadNumber.C = T.k_BadNumber := same_ref T.e_BadNumber.gC T.gk_BadNumber
  have q_BadHeard : T.e_BadHeard.C = T.k_BadHeard := same_ref T.e_BadHeard.gC T.gk_BadHeard
  refine ⟨?_, kitOne_self, ?_, ?_⟩
  · rw [q_BadText]; exact kitOne_other T.kc_TooMany T.kt_TooMany T.su_BadText_TooMany T.su_BadText_BadText
  · rw [q_BadText, q_BadNumber]; exact kitOne_other T.kc_BadNumber T.kt_BadNumber T.su_BadText_BadNumber T.su_BadText_BadText
  · rw [q_BadText, q_BadHeard]; exact kitOne_other T.kc_BadHeard T.kt_BadHeard T.su_BadText_BadHeard T.su_BadText_BadText
theorem kitH_BadNumber {K : PySem.W.Frag} {mg : Str → Option Value} (T : Tx K mg) : KitH T T.e_BadNumber.C 1 := by
  have q_BadText : T.e_BadText.C = T.k_BadText := same_ref T.e_BadText.gC T.gk_BadText
  have q_BadNumber : T.e_BadNumber.C = T.k_BadNumber := same_ref T.e_BadNumber.gC T.gk_BadNumber
  have q_BadHeard : T.e_BadHeard.C = T.k_BadHeard := same_ref T.e_BadHeard.gC T.gk_BadHeard
  refine ⟨?_, ?_, kitOne_self, ?_⟩
  · rw [q_BadNumber]; exact kitOne_other T.kc_TooMany T.kt_TooMany T.su_BadNumber_TooMany T.su_BadNumber_BadNumber
  · rw [q_BadNumber, q_BadText]; exact kitOne_other T.kc_BadText T.kt_BadText T.su_BadNumber_BadText T.su_BadNumber_BadNumber
  · rw [q_BadNumber, q_BadHeard]; exact kitOne_other T.kc_BadHeard T.kt_BadHeard T.su_BadNumber_BadHeard T.su_BadNumber_BadNumber
theorem kitH_BadHeard {K : PySem.W.Frag} {mg : Str → Option Value} (T : Tx K mg) : KitH T T.e_BadHeard.C 2 := by
  have q_BadText : T.e_BadText.C = T.k_BadText := same_ref T.e_BadText.gC T.gk_BadText
  have q_BadNumber : T.e_BadNumber.C = T.k_BadNumber := same_ref T.e_BadNumber.gC T.gk_BadNumber
  have q_BadHeard : T.e_BadHeard.C = T.k_BadHeard := same_ref T.e_BadHeard.gC T.gk_BadHeard
  refine ⟨?_, ?_, ?_, kitOne_self⟩
  · rw [q_BadHeard]; exact kitOne_other T.kc_TooMany T.kt_TooMany T.su_BadHeard_TooMany T.su_BadHeard_BadHeard
  · rw [q_BadHeard, q_BadText]; exact kitOne_other T.kc_BadText T.kt_BadText T.su_BadHeard_BadText T.su_BadHeard_BadHeard
  · rw [q_BadHeard, q_BadNumber]; exact kitOne_other T.kc_BadNumber T.kt_BadNumber T.su_BadHeard_BadNumber T.su_BadHeard_BadHeard
theorem heard_gives {X : Cx} (T : Tx X.K X.mg) {q : Str} {g : Addr} {cdg : Value} : GivesTo X ["ask", "caught", "error", "told", "word", "is_so"] "_law_heard" (defScope s_law_heard) g cdg (defBody s_law_heard) "ask" q (TTh T) := by
  intro f c' s H Q tl act hc h
  have hr := (0 : Nat)
  refine ⟨_, pss_cons (ps_set (i := 1) sc_law_heard.nd rfl (.inl rfl) pe_non) (pss_cons (ps_keep (X := (cxOf C8.CX0 X.prog X.w X.K X.mg X.base ["ask", "caught", "error", "told", "word", "is_so"] "_law_heard" (defScope s_law_heard) g cdg X.A X.stack s H C8.E0).nox) (c := .ref T.e_BadNumber.L) (i := 2) (j := 1) (n := "error") (y := "caught")
      (tb := fun W D σ H => ∃ Ech : XK, (∀ cls d σ' H', Ech cls d H' → W cls d σ' H') ∧ σ[0]? = some (some (.ref f)) ∧ H c' = some (CodeO c' q) ∧ tl Ech H fun _ H' => D.nx σ H')
      rfl rfl rfl sc_law_heard.nd rfl rfl rfl rfl rfl ⟨rfl, by decide, .inl T.e_BadNumber.gL⟩ (by decide) (by decide) (fun W pn xe tk _ => ?_))
      (pss_cons (ps_if (pt_val (pe_callB call_isiX (by rfl) T.m_isinstance (by decide +kernel) (pa_cons (pv 1) (pa_cons (pe_glob (v := .ref T.k_TooMany) (by rfl) T.gk_TooMany rfl) pa_nil))))
      (pss_one (ps_ret (pe_tup (pa_cons (pe_xp (pv 1)) (pa_cons (pe_xp (pv 1)) pa_nil)))))
      pss_nil)
    (pss_cons (ps_set (i := 3) sc_law_heard.nd rfl (.inl rfl) (pe_lst (pa_cons (pe_tup (pa_cons pe_str (pa_cons (pe_callB call_isiX (by rfl) T.m_isinstance (by decide +kernel) (pa_cons (pv 1) (pa_cons (pe_glob (v := .ref T.e_BadText.C) (by rfl) T.e_BadText.gC rfl) pa_nil))) pa_nil))) (pa_cons (pe_tup (pa_cons pe_str (pa_cons (pe_callB call_isiX (by rfl) T.m_isinstance (by decide +kernel) (pa_cons (pv 1) (pa_cons (pe_glob (v := .ref T.e_BadNumber.C) (by rfl) T.e_BadNumber.gC rfl) pa_nil))) pa_nil))) pa_nil))))
    (pss_cons (ps_set (i := 3) sc_law_heard.nd rfl (.inl rfl) (pe_op op_cat (pv 3) (pe_lst (pa_cons (pe_tup (pa_cons pe_str (pa_cons (pe_callB call_isiX (by rfl) T.m_isinstance (by decide +kernel) (pa_cons (pv 1) (pa_cons (pe_glob (v := .ref T.e_BadHeard.C) (by rfl) T.e_BadHeard.gC rfl) pa_nil))) pa_nil))) pa_nil))))
    (pss_cons (ps_for PassesOwn.never rfl (pi_list (pv 3)) (pg_tup rfl (pgs_cons (pg_name (i := 4) sc_law_heard.nd rfl (.inl rfl)) (pgs_cons (pg_name (i := 5) sc_law_heard.nd rfl (.inl rfl)) pgs_nil)))
      (pss_one (ps_if (pt_val (pv 5))
        (pss_one (ps_ret (pe_tup (pa_cons (pv 4) (pa_cons (pe_xp (pv 1)) pa_nil)))))
        pss_nil)))
    (pss_one (ps_ret (pe_ifExp (pt_cmpR op_isN (pv 1) pe_non (nomark _)) pe_non (pe_tup (pa_cons pe_str (pa_cons pe_non pa_nil))))))))))), ?_⟩
  · refine ⟨fun pins s' σ H' D I h' => ?_⟩
    obtain ⟨Ech, hW, h1, h2, h3⟩ := h'
    exact (pss_one (ps_expr (act W pn xe Ech _ _ tk hW))).run pins s' σ H' D I ⟨h1, h2, h3⟩
  · refine go_seq (go_asg (go_c ?_))
    dsimp only [gName]
    refine go_seq ⟨_, fun cls d σ' H' h' => ?_, rfl, hc, h _⟩
    obtain ⟨dd, p, wd, hcls, rfl, hd, hq⟩ := h'
    obtain ⟨D, j, rfl, kt, ex, xf, np, em, ew⟩ : ∃ (D : Addr) (j : Nat), cls = .ref D ∧ KitH T D j ∧ ExcC X.K D ∧ XfC X.K D ∧ PySem.W.findIn X.K (.ref D) "part" = some none ∧ PySem.W.exmOne X.K (.ref D) (.ref T.e_BadNumber.L) = some true ∧ names[j]? = some wd := by
      rcases hcls with ⟨rfl, rfl⟩ | ⟨rfl, rfl⟩ | ⟨rfl, rfl⟩
      · exact ⟨_, 0, rfl, kitH_BadText T, T.e_BadText.exc, T.e_BadText.xf, T.e_BadText.np, (show T.e_BadText.L = T.e_BadNumber.L from same_ref T.e_BadText.gL T.e_BadNumber.gL) ▸ T.e_BadText.em, rfl⟩
      · exact ⟨_, 1, rfl, kitH_BadNumber T, T.e_BadNumber.exc, T.e_BadNumber.xf, T.e_BadNumber.np, T.e_BadNumber.em, rfl⟩
      · exact ⟨_, 2, rfl, kitH_BadHeard T, T.e_BadHeard.exc, T.e_BadHeard.xf, T.e_BadHeard.np, (show T.e_BadHeard.L = T.e_BadNumber.L from same_ref T.e_BadHeard.gL T.e_BadNumber.gL) ▸ T.e_BadHeard.em, rfl⟩
    refine ⟨em, fun a na hl => ?_⟩
    have hd1 := same_new (o := exT a (.ref D) (some dd)) na _ _ hd
    have s0 := same_new (o := exT a (.ref D) (some dd)) na
    have ha1 := upd_same (H := H') (a := a) (o := exT a (.ref D) (some dd))
    generalize upd H' a (exT a (.ref D) (some dd)) = H1 at hd1 s0 ha1 ⊢
    match σ', hl with
    | [x0, x1, x2, x3, x4, x5], _ =>
      dsimp only
      refine go_seq (go_if (go_b ?_))
      refine ⟨_, rfl, .inr ⟨a, D, dd, _, .ref T.k_TooMany, .ref T.k_TooMany, false, rfl, ha1, hd1, ex, fun u r => r, kt.t, _, rfl, iteF (A := _) ?_⟩⟩
      dsimp only [tNext]
      refine go_seq (go_asg ?_)
      refine ⟨_, rfl, .inr ⟨a, D, dd, _, .ref T.e_BadText.C, .ref T.e_BadText.C, decide (0 = j), rfl, ha1, hd1, ex, fun u r => r, kt.f0, sz2, fun t0 n0 => ?_⟩⟩
      have z := same_new (o := HO.tup [.str "text", .bl (decide (0 = j))]) n0
      have ha1 := z _ _ ha1
      have hd1 := z _ _ hd1
      have s0 := s0.trans z
      have ht0 := upd_same (H := H1) (a := t0) (o := HO.tup [.str "text", .bl (decide (0 = j))])
      generalize upd H1 t0 (HO.tup [.str "text", .bl (decide (0 = j))]) = H2 at ha1 hd1 ht0 s0 ⊢
      clear z n0
      refine ⟨_, rfl, .inr ⟨a, D, dd, _, .ref T.e_BadNumber.C, .ref T.e_BadNumber.C, decide (1 = j), rfl, ha1, hd1, ex, fun u r => r, kt.f1, sz2, fun t1 n1 => ?_⟩⟩
      have z := same_new (o := HO.tup [.str "number", .bl (decide (1 = j))]) n1
      have ha1 := z _ _ ha1
      have hd1 := z _ _ hd1
      have ht0 := z _ _ ht0
      have s0 := s0.trans z
      have ht1 := upd_same (H := H2) (a := t1) (o := HO.tup [.str "number", .bl (decide (1 = j))])
      generalize upd H2 t1 (HO.tup [.str "number", .bl (decide (1 = j))]) = H3 at ha1 hd1 ht0 ht1 s0 ⊢
      clear z n1
      refine ⟨sz2, fun pl npl => ?_⟩
      have z := same_new (o := HO.lst [.ref t0, .ref t1]) npl
      have ha1 := z _ _ ha1
      have hd1 := z _ _ hd1
      have ht0 := z _ _ ht0
      have ht1 := z _ _ ht1
      have s0 := s0.trans z
      have hpl := upd_same (H := H3) (a := pl) (o := HO.lst [.ref t0, .ref t1])
      generalize upd H3 pl (HO.lst [.ref t0, .ref t1]) = H4 at ha1 hd1 ht0 ht1 hpl s0 ⊢
      clear z npl
      dsimp only [gName]
      refine go_seq (go_asg ⟨_, rfl, ?_⟩)
      refine ⟨_, rfl, .inr ⟨a, D, dd, _, .ref T.e_BadHeard.C, .ref T.e_BadHeard.C, decide (2 = j), rfl, ha1, hd1, ex, fun u r => r, kt.f2, sz2, fun t2 n2 => ?_⟩⟩
      have z := same_new (o := HO.tup [.str "heard", .bl (decide (2 = j))]) n2
      have ha1 := z _ _ ha1
      have hd1 := z _ _ hd1
      have ht0 := z _ _ ht0
      have ht1 := z _ _ ht1
      have hpl := z _ _ hpl
      have s0 := s0.trans z
      have ht2 := upd_same (H := H4) (a := t2) (o := HO.tup [.str "heard", .bl (decide (2 = j))])
      generalize upd H4 t2 (HO.tup [.str "heard", .bl (decide (2 = j))]) = H5 at ha1 hd1 ht0 ht1 hpl ht2 s0 ⊢
      clear z n2
      refine ⟨sz1, fun pm npm => ?_⟩
      have z := same_new (o := HO.lst [.ref t2]) npm
      have ha1 := z _ _ ha1
      have hd1 := z _ _ hd1
      have ht0 := z _ _ ht0
      have ht1 := z _ _ ht1
      have hpl := z _ _ hpl
      have ht2 := z _ _ ht2
      have s0 := s0.trans z
      have hpm := upd_same (H := H5) (a := pm) (o := HO.lst [.ref t2])
      generalize upd H5 pm (HO.lst [.ref t2]) = H6 at ha1 hd1 ht0 ht1 hpl ht2 hpm s0 ⊢
      clear z npm
      refine ⟨pl, pm, _, _, rfl, rfl, hpl, hpm, (show 2 + 1 ≤ sizeLine by decide), fun pn npn => ?_⟩
      have z := same_new (o := HO.lst ([.ref t0, .ref t1] ++ [.ref t2])) npn
      have ha1 := z _ _ ha1
      have hd1 := z _ _ hd1
      have ht0 := z _ _ ht0
      have ht1 := z _ _ ht1
      have hpl := z _ _ hpl
      have ht2 := z _ _ ht2
      have hpm := z _ _ hpm
      have s0 := s0.trans z
      have hpn := upd_same (H := H6) (a := pn) (o := HO.lst ([.ref t0, .ref t1] ++ [.ref t2]))
      generalize upd H6 pn (HO.lst ([.ref t0, .ref t1] ++ [.ref t2])) = H7 at ha1 hd1 ht0 ht1 hpl ht2 hpm hpn s0 ⊢
      clear z npn
      dsimp only [gName]
      refine go_seq ⟨_, rfl, pn, rfl, ⟨_, .inl (.inl hpn)⟩, for_list (xs := [V.ref t0, V.ref t1, V.ref t2]) (fun i σ H5 => ∃ o4 o5, σ = [x0, some (.ref a), none, some (.ref pn), o4, o5] ∧ Same H7 H5 ∧ i ≤ j)
        ⟨x4, x5, rfl, Same.refl _, Nat.zero_le _⟩ (fun i σ2 H5 _ h => ?_) (fun i v σ2 H5 hv h => ?_) (fun σ2 H5 h => ?_)⟩
      · obtain ⟨_, _, _, e, _⟩ := h
        exact .inl (.inl (e _ _ hpn))
      · obtain ⟨o4, o5, rfl, e5, hj⟩ := h
        obtain ⟨t, rfl, ht, hi⟩ : ∃ t, v = V.ref t ∧ (∃ wi, names[i]? = some wi ∧ H5 t = some (.tup [.str wi, .bl (decide (i = j))])) ∧ i < 3 := by
          have hi : i < 3 := (List.getElem?_eq_some_iff.mp hv).1
          match i, hi with
          | 0, _ => cases hv; exact ⟨t0, rfl, ⟨_, rfl, e5 _ _ ht0⟩, by decide⟩
          | 1, _ => cases hv; exact ⟨t1, rfl, ⟨_, rfl, e5 _ _ ht1⟩, by decide⟩
          | 2, _ => cases hv; exact ⟨t2, rfl, ⟨_, rfl, e5 _ _ ht2⟩, by decide⟩
        obtain ⟨wi, hwi, ht⟩ := ht
        refine ⟨t, _, rfl, .inl (.inl ht), rfl, _, _, rfl, _, _, rfl, rfl, ?_⟩
        refine ⟨_, rfl, _, rfl, iteC (fun hb => ?_) (fun hb => ?_)⟩
        · have hij := of_decide_eq_true hb
          subst hij
          rw [hwi] at ew
          cases ew
          exact ⟨_, rfl, _, rfl, a, D, dd, _, p, rfl, e5 _ _ ha1, e5 _ _ hd1, xf, np, rfl, sz2, fun u nu => hq u _ ((s0.trans e5).trans (same_new nu)) upd_same⟩
        · have hij := of_decide_eq_false hb
          exact ⟨_, _, rfl, e5, by omega⟩
      · obtain ⟨o4, o5, rfl, e5, hj⟩ := h
        have := (List.getElem?_eq_some_iff.mp ew).1
        have h5 : names.length = 3 := rfl
        have h6 : [V.ref t0, V.ref t1, V.ref t2].length = 3 := rfl
        omega
end K54
namespace K54
open PySem PySem.Spec PyProof.Rows L2 Kx SX LamX Ms PnX
theorem numOf_lt : ∀ (ws : List (List Nat)) (i : Nat) (x : List Nat) (n : Nat), numOf i ws x = some n → n < i + ws.length
  | [], _, _, _, h => by cases h
  | w :: r, i, x, n, h => by
    rw [show numOf i (w :: r) x = if w = x then some i else numOf (i + 1) r x from rfl] at h
    rw [List.length_cons]
    by_cases e : w = x
    · rw [if_pos e] at h
      cases h
      omega
    · rw [if_neg e] at h
      have := numOf_lt r (i + 1) x n h
      omega
theorem num30 {x : List Nat} {n : Nat} (h : numOf 0 plainL x = some n) : n < 30 := by
  have := numOf_lt plainL 0 x n h
  rw [plain_len] at this
  omega
/-- the row of items -/
def rowI (its : List (List Nat)) : List Nat := its.filterMap (numOf 0 plainL)
theorem rowI_cons (it : List Nat) (its : List (List Nat)) : rowI (it :: its) = (numOf 0 plainL it).toList ++ rowI its := by
  unfold rowI
  rw [List.filterMap_cons]
  cases numOf 0 plainL it with
  | none => rfl
  | some n => rfl
/-- items that make a text -/
structure TxI (its : List (List Nat)) (k : Nat) : Prop where
  ne : its ≠ []
  ok : ∀ it ∈ its, okI it
  ln : its.length ≤ k
theorem TxI.read {its : List (List Nat)} {k : Nat} (h : TxI its k) : readN plainL (TL.joinL [32] its) = rowI its := by
  unfold readN rowI
  rw [items_join its h.ne fun it m => (h.ok it m).2.2.2]
theorem TxI.all {its : List (List Nat)} {k : Nat} (h : TxI its k) : (TL.joinL [32] its).all sg = true := joinL_all (by decide) its fun it m => (h.ok it m).2.2.1
theorem TxI.len {its : List (List Nat)} {k : Nat} (h : TxI its k) : (TL.joinL [32] its).length ≤ k * 13 :=
  Nat.le_trans (joinL_len (k := 12) its fun it m => (h.ok it m).2.1) (Nat.mul_le_mul_right _ h.ln)
theorem TxI.lt {its : List (List Nat)} {k : Nat} (h : TxI its k) : ∀ n ∈ rowI its, n < 30 := fun n m => by
  obtain ⟨it, _, e⟩ := List.mem_filterMap.mp m
  exact num30 e
theorem TxI.six {its : List (List Nat)} {k : Nat} (h : TxI its k) : 6 ∉ rowI its := fun m => by
  obtain ⟨it, hm, e⟩ := List.mem_filterMap.mp m
  exact (h.ok it hm).1 e
theorem TxI.rlen {its : List (List Nat)} {k : Nat} (h : TxI its k) : (rowI its).length ≤ k := Nat.le_trans (List.length_filterMap_le _ _) h.ln
theorem TxI.text {its : List (List Nat)} {k : Nat} (h : TxI its k) (hk : k ≤ 144) : textB (TL.joinL [32] its) = true := by
  unfold textB
  have := h.len
  rw [Bool.and_eq_true]
  exact ⟨decide_eq_true (by omega), h.all⟩
theorem iter_bd {ns : List Int} {row : List Nat} (hl : ns.length ≤ 100000) (hn : ∀ i ∈ ns, Bi 83 i) (h6 : 6 ∉ row) : ∀ j, Bd (83 + 3 * row.length * j) (iterR ns row startM j)
  | 0 => bd_start
  | j + 1 => by
    have h := iter_bd hl hn h6 j
    have g := bd_row hl row _ _ h (by omega) (fun i m => (hn i m).mono (by omega)) row.length
    rw [List.take_length, lastB_none row _ h6] at g
    exact g.mono (by rw [Nat.mul_succ]; omega)
theorem small_bd {ns : List Int} {row : List Nat} {k : Nat} (hl : ns.length ≤ 100000) (hn : ∀ i ∈ ns, Bi 83 i) (h6 : 6 ∉ row) (lr : row.length ≤ 144) (hk : k ≤ 9) : BdP ns row k := fun j hj i => by
  have g := bd_row hl row _ _ (iter_bd hl hn h6 j) (by omega) (fun i m => (hn i m).mono (by omega)) i
  rw [lastB_none row _ h6] at g
  refine g.mono ?_
  have h1 : 3 * row.length * j ≤ 3 * row.length * 8 := Nat.mul_le_mul_left _ (by omega)
  omega
theorem partedF_le (ns : List Int) (r1 r2 : List Nat) : ∀ (k j : Nat) (s t : Mst) (n : Nat), partedF ns r1 r2 k j s t = some n → n ≤ j + k
  | 0, _, _, _, _, h => by cases h
  | k + 1, j, s, t, n, h => by
    unfold partedF at h
    by_cases e : doR ns s r1 = doR ns t r2
    · rw [if_pos e] at h
      have := partedF_le ns r1 r2 k (j + 1) _ _ n h
      omega
    · rw [if_neg e] at h
      cases h
      omega
/-- each word twice -/
def thickI (its : List (List Nat)) : List (List Nat) := its.flatMap fun it => [it, it]
theorem thickI_cons (it : List Nat) (r : List (List Nat)) : thickI (it :: r) = it :: it :: thickI r := rfl
theorem thick_len : ∀ its : List (List Nat), (thickI its).length = 2 * its.length
  | [] => rfl
  | it :: r => by
    rw [thickI_cons, List.length_cons, List.length_cons, thick_len r, List.length_cons]
    omega
theorem TxI.thick {its : List (List Nat)} {k : Nat} (h : TxI its k) : TxI (thickI its) (2 * k) := by
  refine ⟨fun z => h.ne ?_, fun it m => ?_, ?_⟩
  · have := thick_len its
    rw [z] at this
    exact List.length_eq_zero_iff.mp (by simp at this; omega)
  · obtain ⟨x, hx, m⟩ := List.mem_flatMap.mp m
    have : it = x := by simpa using m
    exact this ▸ h.ok x hx
  · rw [thick_len]
    have := h.ln
    omega
theorem thick_join : ∀ its : List (List Nat), TL.joinL [32] (its.map fun it => it ++ [32] ++ it) = TL.joinL [32] (thickI its)
  | [] => rfl
  | [x] => by
    show x ++ [32] ++ x = x ++ ([32] ++ x)
    rw [List.append_assoc]
  | x :: y :: r => by
    have ih := thick_join (y :: r)
    show (x ++ [32] ++ x) ++ ([32] ++ TL.joinL [32] ((y :: r).map fun it => it ++ [32] ++ it)) = x ++ ([32] ++ (x ++ ([32] ++ TL.joinL [32] (thickI (y :: r)))))
    rw [ih, List.append_assoc, List.append_assoc]
theorem thick_same (ns : List Int) : ∀ (its : List (List Nat)) (s : Mst), doR ns s (rowI (thickI its)) = doR ns s (rowI its)
  | [], _ => rfl
  | it :: r, s => by
    rw [thickI_cons, rowI_cons, rowI_cons, rowI_cons]
    cases h : numOf 0 plainL it with
    | none => exact thick_same ns r s
    | some n =>
      show doR ns s ([n] ++ ([n] ++ rowI (thickI r))) = doR ns s ([n] ++ rowI r)
      rw [← List.append_assoc, doR_app ns _ ([n] ++ [n]), doR_app ns _ [n] (rowI r), thick_same ns r]
      exact congrArg (fun z => doR ns z (rowI r)) (doR_rep ns n (num30 h) 1 s)
theorem sh_opt {o : Option Nat} (h : ∀ n, o = some n → n ≤ 100) : ∃ d, (∀ (K : PySem.W.Frag) (H : Hp), Dp K H (optV o) d) ∧ Sh 0 0 d := by
  cases o with
  | none => exact ⟨.none, fun K H => .non, sh_none⟩
  | some n => exact ⟨.int (n : Int), fun K H => .int _, sh_int (by have := h n rfl; omega)⟩
/-- what is drawn to be heard -/
def okN (ns : List Int) : Prop := ns.length ≤ 4 ∧ ∀ i ∈ ns, -3 ≤ i ∧ i ≤ 5
theorem okN.bi {ns : List Int} (h : okN ns) : ∀ i ∈ ns, Bi 83 i := fun i m => bi_small (by have := h.2 i m; omega) (by have := h.2 i m; omega) (by decide)
section
variable {P : Program} {w : World} {K : PySem.W.Frag} {mg : Str → Option Value} {base : Heap} (T : Tx K mg)
theorem parted_call {CT EH EN : Addr} {x y z : V} {nl : Addr} {ns : List Int} {k kx ky : Nat} {X Y : List (List Nat)} {l1 l2 : List Nat} {H : Hp} {Q : VK} {E : XK} (e1 : x = .str (S l1)) (e2 : y = .str (S l2)) (j1 : l1 = TL.joinL [32] X) (j2 : l2 = TL.joinL [32] Y) (ez : z = .ref nl) (tX : TxI X kx) (tY : TxI Y ky) (hx : kx ≤ 144) (hy : ky ≤ 144) (hN : SqQ K H nl (ns.map V.int)) (ok : okN ns) (k1 : 1 ≤ k) (k2 : k ≤ 9)
    (q : ∀ H', Same H H' → Q (optV (partedF ns (rowI X) (rowI Y) k 0 startM startM)) H') : sp_parted_at K CT EH EN [x, y, z, .int (k : Int)] H Q E := by
  subst e1 e2 j1 j2 ez
  have len : ∀ {its : List (List Nat)} {k : Nat}, TxI its k → k ≤ 144 → (TL.joinL [32] its).length ≤ 1000000 := fun h hk => by have := h.len; omega
  have hl : ns.length ≤ 100000 := by have := ok.1; omega
  refine ⟨_, _, _, _, some _, rfl, ⟨rfl, len tX hx⟩, .inr ⟨_, some _, rfl, tX.text hx, ⟨rfl, len tY hy⟩, .inr ⟨_, true, rfl, tY.text hy, intsV_of hN hl, .inr ⟨rfl, hasInt_int _, .inr ⟨nl, ns, k, rowI X, rowI Y, rfl, hN, rfl, k1, by omega, tX.read.symm, tY.read.symm, Nat.le_trans tX.rlen (by omega), Nat.le_trans tY.rlen (by omega), tX.lt, tY.lt, small_bd hl ok.bi tX.six (Nat.le_trans tX.rlen hx) k2, small_bd hl ok.bi tY.six (Nat.le_trans tY.rlen hy) k2, q⟩⟩⟩⟩⟩
end
end K54
namespace K54
open PySem PySem.Spec PyProof.Rows L2 Kx SX LamX Ms PnX
theorem tx_of {its : List (List Nat)} {k : Nat} (ok : ∀ it ∈ its, okI it) (ln : its.length ≤ k) (hk : 1 ≤ k) : ∃ X, TxI X k ∧ TL.joinL [32] its = TL.joinL [32] X := by
  cases its with
  | nil => exact ⟨[[]], ⟨by simp, fun it m => by rw [List.mem_singleton.mp m]; exact nil_ok, hk⟩, rfl⟩
  | cons x r => exact ⟨x :: r, ⟨by simp, ok, ln⟩, rfl⟩
theorem core_same2 {a : Addr} {H H' : Hp} (m : Mv a H H') : Same (core a H) (core a H') := fun b o h => by
  obtain ⟨h1, h2, h3⟩ := of_core h
  exact core_at (m b o h1 h2) h1 h3
section
variable {P : Program} {w : World} {K : PySem.W.Frag} {mg : Str → Option Value} {base : Heap} (T : Tx K mg)
theorem go_yes {σ : L2.St} {H : Hp} {Q : Bool → Hp → Prop} (h : Q true H) : tYes σ H Q := h
theorem map_tx (its : List (List Nat)) : (its.map S).map V.str = its.map tx := by
  rw [List.map_map]
  rfl
theorem join_sq {p : Addr} {its : List (List Nat)} {H : Hp} (h : H p = some (.lst (its.map tx))) : SqL K H p ((its.map S).map V.str) := .inl (.inl (by rw [map_tx]; exact h))
theorem join_le {its : List (List Nat)} (hl : its.length ≤ 144) (hs : ∀ it ∈ its, it.length ≤ 25) : ((its.map S).map (·.length)).sum + (its.map S).length * (" " : Str).length ≤ 16777216 := by
  have h1 := sum_S_le its hs
  have h2 : ((its.map S).length) * (" " : Str).length = its.length * 1 := by rw [List.length_map]; rfl
  rw [h2]
  omega
theorem join_tx (its : List (List Nat)) : Txt.join (" " : Str) (its.map S) = S (TL.joinL [32] its) := join_S [32] its
theorem kb_parted_at_0_passes_heard_other_text : KBinds K T.fd_parted_at ["text", "other", "heard", "passes"] ["passes", "heard", "other", "text"] backH backH := kb_backH T.F_parted_at fun _ _ _ _ _ _ _ _ _ _ => rfl
def lamTab (Pt : Addr) : List (Addr × Str) := [(Pt, "law.<locals>.<lambda>")]
def sp_law (K : PySem.W.Frag) (Pt : Addr) : Sp := fun vs H Q _ => ∃ (a : Addr) (ns : List Int), vs = [.ref a] ∧ SqL K H a (ns.map V.int) ∧ H Pt = some (.tbl #[]) ∧ ∀ H', Q (.bl true) H'
theorem ok_law {c Pt : Addr} (FC : FunC K "law" "law" s_law T.f_law T.fd_law c) (TB : TabB base mg c Pt) : FnG P w K mg base CX0 17 T.f_law T.fd_law ["script"] (sp_law K Pt) := by
  obtain ⟨oc, od, kV, doc, pm, an, cdv, ct, osl, efd, lk, hcd⟩ := T.F_law_heard.ex
  rw [efd] at lk
  have hbd : Binds K _ ["ask"] [] := efd ▸ T.b_law_heard
  refine okC FC sc_law (fun vs H Q E h => ?_) (fun A outer s H vs Q E hg hr h => ?_)
  · obtain ⟨a, ns, rfl, _⟩ := h
    rfl
  · obtain ⟨s0, sc, rfl, hs, hP, q⟩ := h
    refine ⟨_, (pss_cons (ps_set (i := 1) sc_law.nd rfl (.inr rfl) (pe_call (ok_law_fork T) (hr.mono (by decide)) (by rfl) T.g_law_fork T.F_law_fork.kp T.b_law_fork .nil pass0 (pa_cons (pv 0) pa_nil)))
    (pss_cons (ps_for PassesOwn.never rfl (pi_range1 (by rfl) T.m_range (pa_cons (pe_ifExp (pt_cmpR (op_eqD hr.units) (pv 0) (pe_lst pa_nil) (nomark _)) pe_int pe_int) pa_nil)) (pg_name (i := 2) sc_law.nd rfl (.inl rfl))
      (pss_cons (ps_set (i := 3) sc_law.nd rfl (.inl rfl) (pe_call (ok_law_row T) (hr.mono (by decide)) (by rfl) T.g_law_row T.F_law_row.kp T.b_law_row .nil pass0 (pa_cons (pv 1) pa_nil)))
      (pss_cons (ps_set (i := 4) sc_law.nd rfl (.inl rfl) (pe_ifExp (pt_cmpR op_gt (pe_call (ok_law_tine T) (hr.mono (by decide)) (by rfl) T.g_law_tine T.F_law_tine.kp T.b_law_tine .nil pass0 (pa_cons (pv 1) (pa_cons pe_int pa_nil))) pe_int (nomark _)) (pv 3) (pe_call (ok_law_row T) (hr.mono (by decide)) (by rfl) T.g_law_row T.F_law_row.kp T.b_law_row .nil pass0 (pa_cons (pv 1) pa_nil))))
      (pss_cons (ps_set (i := 5) sc_law.nd rfl (.inl rfl) (pe_lst (pa_cons (pe_join pe_str (pe_call (ok_law_items T) (hr.mono (by decide)) (by rfl) T.g_law_items T.F_law_items.kp T.b_law_items .nil pass0 (pa_cons (pv 1) (pa_cons (pv 3) pa_nil)))) (pa_cons (pe_join pe_str (pe_call (ok_law_items T) (hr.mono (by decide)) (by rfl) T.g_law_items T.F_law_items.kp T.b_law_items .nil pass0 (pa_cons (pv 1) (pa_cons (pv 4) pa_nil)))) pa_nil))))
      (pss_cons (ps_par (i := 7) (j := 8) rfl sc_law.nd rfl rfl (by decide) rfl rfl (pa_cons (pe_lc (own := [("number", 6)]) rfl sc_law.nd (pi_range1 (by rfl) T.m_range (pa_cons (pe_call (ok_law_tine T) (hr.mono (by decide)) (by rfl) T.g_law_tine T.F_law_tine.kp T.b_law_tine .nil pass0 (pa_cons (pv 1) (pa_cons pe_int pa_nil))) pa_nil)) (blkOk_by (own := [("number", 6)]) (N := ["script", "fork", "turn", "row", "other", "texts", "number", "heard", "passes", "due", "word", "thick", "none", "bad", "few"]) (sc := defScope s_law) (by decide +kernel)) (fun _ _ _ _ _ => (pg_name (i := 6) sc_law.nd rfl (.inl rfl))) (fun _ _ _ _ _ => pts_nil) (fun _ _ _ _ _ => (pe_op op_sub (pe_call (ok_law_tine T) (hr.mono (by decide)) (by rfl) T.g_law_tine T.F_law_tine.kp T.b_law_tine .nil pass0 (pa_cons (pv 1) (pa_cons pe_int pa_nil))) pe_int))) (pa_cons (pe_op op_add pe_int (pe_call (ok_law_tine T) (hr.mono (by decide)) (by rfl) T.g_law_tine T.F_law_tine.kp T.b_law_tine .nil pass0 (pa_cons (pv 1) (pa_cons pe_int pa_nil)))) pa_nil)) (by rfl))
      (pss_cons (ps_set (i := 9) sc_law.nd rfl (.inl rfl) (pe_call (ok_law_parted T) (hr.mono (by decide)) (by rfl) T.g_law_parted T.F_law_parted.kp T.b_law_parted .nil pass0 (pa_cons (pe_call (ok_law_read T) (hr.mono (by decide)) (by rfl) T.g_law_read T.F_law_read.kp T.b_law_read .nil pass0 (pa_cons (pe_ix ix_list (pv 5) pe_int (fun _ _ => rfl)) pa_nil)) (pa_cons (pe_call (ok_law_read T) (hr.mono (by decide)) (by rfl) T.g_law_read T.F_law_read.kp T.b_law_read .nil pass0 (pa_cons (pe_ix ix_list (pv 5) pe_int (fun _ _ => rfl)) pa_nil)) (pa_cons (pv 7) (pa_cons (pv 8) pa_nil))))))
      (pss_cons (ps_if (pt_cmpR op_ne (pe_callB (call_reprD hg hr.units) (by rfl) T.m_repr (by decide +kernel) (pa_cons (pe_lst (pa_cons (pe_call (ok_parted_at T) (hr.mono (by decide)) (by rfl) T.g_parted_at T.F_parted_at.kp T.b_parted_at .nil passF (pa_cons (pe_ix ix_list (pv 5) pe_int (fun _ _ => rfl)) (pa_cons (pe_ix ix_list (pv 5) pe_int (fun _ _ => rfl)) (pa_cons (pv 7) (pa_cons (pv 8) pa_nil))))) (pa_cons (pe_call (ok_parted_at T) (hr.mono (by decide)) (by rfl) T.g_parted_at T.F_parted_at.kp T.b_parted_at .nil passF (pa_cons (pe_ix ix_list (pv 5) pe_int (fun _ _ => rfl)) (pa_cons (pe_ix ix_list (pv 5) pe_int (fun _ _ => rfl)) (pa_cons (pv 7) (pa_cons (pv 8) pa_nil))))) pa_nil))) pa_nil)) (pe_callB (call_reprD hg hr.units) (by rfl) T.m_repr (by decide +kernel) (pa_cons (pe_lst (pa_cons (pv 9) (pa_cons (pv 9) pa_nil))) pa_nil)) (nomark _))
        (pss_one (ps_ret pe_bl))
        pss_nil)
      (pss_cons (ps_set (i := 11) sc_law.nd rfl (.inl rfl) (pe_join pe_str (pe_lc (own := [("word", 10)]) rfl sc_law.nd (pi_list (pe_split (pe_ix ix_list (pv 5) pe_int (fun _ _ => rfl)) pe_str)) (blkOk_by (own := [("word", 10)]) (N := ["script", "fork", "turn", "row", "other", "texts", "number", "heard", "passes", "due", "word", "thick", "none", "bad", "few"]) (sc := defScope s_law) (by decide +kernel)) (fun _ _ _ _ _ => (pg_name (i := 10) sc_law.nd rfl (.inl rfl))) (fun _ _ _ _ _ => pts_nil) (fun _ _ _ _ _ => (pe_op op_add_str (pe_op op_add_str (pv 10) pe_str) (pv 10))))))
      (pss_one (ps_if (pt_cmpR op_notN (pe_callK0 (ok_parted_at T) (hr.mono (by decide)) (by rfl) T.g_parted_at T.F_parted_at.kp (kb_parted_at_0_passes_heard_other_text T) passF (pk_cons (pv 8) (pk_cons (pe_callTy call_tuple_of (by rfl) T.m_tuple (by decide +kernel) (pa_cons (pv 7) pa_nil)) (pk_cons (pv 11) (pk_cons (pe_ix ix_list (pv 5) pe_int (fun _ _ => rfl)) pk_nil))))) pe_non (nomark _))
        (pss_one (ps_ret pe_bl))
        pss_nil))))))))))
    (pss_cons (ps_asg (pe_tup (pa_cons (pe_call (ok_law_one_of T) (hr.mono (by decide)) (by rfl) T.g_law_one_of T.F_law_one_of.kp T.b_law_one_of .nil pass0 (pa_cons (pv 1) (pa_cons (pe_lst (pa_cons pe_non (pa_cons pe_int (pa_cons pe_str (pa_cons pe_str (pa_cons (pe_lst (pa_cons pe_str pa_nil)) (pa_cons pe_str pa_nil))))))) pa_nil))) (pa_cons (pe_call (ok_law_one_of T) (hr.mono (by decide)) (by rfl) T.g_law_one_of T.F_law_one_of.kp T.b_law_one_of .nil pass0 (pa_cons (pv 1) (pa_cons (pe_lst (pa_cons pe_non (pa_cons pe_int (pa_cons pe_str (pa_cons (pe_lst (pa_cons pe_bl pa_nil)) (pa_cons (pe_lst (pa_cons pe_non pa_nil)) (pa_cons pe_dnewK pa_nil))))))) pa_nil))) pa_nil))) (pg_tup rfl (pgs_cons (pg_name (i := 12) sc_law.nd rfl (.inr rfl)) (pgs_cons (pg_name (i := 13) sc_law.nd rfl (.inr rfl)) pgs_nil))))
    (pss_cons (ps_set (i := 14) sc_law.nd rfl (.inr rfl) (pe_call (ok_law_one_of T) (hr.mono (by decide)) (by rfl) T.g_law_one_of T.F_law_one_of.kp T.b_law_one_of .nil pass0 (pa_cons (pv 1) (pa_cons (pe_lst (pa_cons pe_int (pa_cons pe_int (pa_cons pe_non (pa_cons pe_bl (pa_cons pe_str (pa_cons (pe_un un_neg pe_int) pa_nil))))))) pa_nil))))
    (pss_cons (ps_set (i := 7) sc_law.nd rfl (.inl rfl) (pe_lst (pa_cons (pe_lamcall (T := (lamTab Pt)) (c := c) (P := Pt) (k := 12) (by rfl) T.g_law_heard T.F_law_heard.kp lk hcd hbd sc_law_heard rfl (.inl rfl) (heard_gives T) TB rfl (List.mem_singleton.mpr rfl) (fun p hp _ => by rw [List.mem_singleton.mp hp]; rfl) (hr.mono (by decide)) (lamS_by (sc := defScope s_law) (by decide +kernel)) rfl (fun _ _ _ _ _ => rfl) (fun A outer s H E f c' hr2 => (pe_call (ok_parted_at T) (hr2.mono (by decide)) (by rfl) T.g_parted_at T.F_parted_at.kp T.b_parted_at .nil (passes_call (takes_of rfl rfl rfl rfl) (fun _ _ _ _ h => h)) (pa_cons (pv 12) (pa_cons (pv 12) (pa_cons (pv 13) (pa_cons (pv 14) pa_nil))))))) (pa_cons (pe_lamcallD (T := (lamTab Pt)) (z := "a1") (c := c) (P := Pt) (k := 12) (by rfl) T.g_law_heard T.F_law_heard.kp lk hcd hbd sc_law_heard rfl (.inl rfl) (heard_gives T) TB rfl (List.mem_singleton.mpr rfl) (fun p hp _ => by rw [List.mem_singleton.mp hp]; rfl) (hr.mono (by decide)) (lamP_by (sc := defScope s_law) (by decide +kernel)) rfl rfl rfl (fun _ _ _ _ _ _ _ _ => ⟨_, rfl, rfl⟩) (fun A outer s H E f c' hr2 => (pe_call (ok_parted_at T) (hr2.mono (by decide)) (by rfl) T.g_parted_at T.F_parted_at.kp T.b_parted_at .nil (passes_call (takes_of rfl rfl rfl rfl) (fun _ _ _ _ h => h)) (pa_cons pe_str (pa_cons (pv 12) (pa_cons (pv 13) (pa_cons (pv 14) pa_nil))))))) pa_nil))))
    (pss_cons (ps_set (i := 7) sc_law.nd rfl (.inl rfl) (pe_op op_cat (pv 7) (pe_lst (pa_cons (pe_lamcall (T := (lamTab Pt)) (c := c) (P := Pt) (k := 12) (by rfl) T.g_law_heard T.F_law_heard.kp lk hcd hbd sc_law_heard rfl (.inl rfl) (heard_gives T) TB rfl (List.mem_singleton.mpr rfl) (fun p hp _ => by rw [List.mem_singleton.mp hp]; rfl) (hr.mono (by decide)) (lamS_by (sc := defScope s_law) (by decide +kernel)) rfl (fun _ _ _ _ _ => rfl) (fun A outer s H E f c' hr2 => (pe_call (ok_parted_at T) (hr2.mono (by decide)) (by rfl) T.g_parted_at T.F_parted_at.kp T.b_parted_at .nil (passes_call (takes_of rfl rfl rfl rfl) (fun _ _ _ _ h => h)) (pa_cons pe_str (pa_cons pe_str (pa_cons (pv 13) (pa_cons (pv 14) pa_nil))))))) (pa_cons (pe_lamcallD (T := (lamTab Pt)) (z := "a1") (c := c) (P := Pt) (k := 12) (by rfl) T.g_law_heard T.F_law_heard.kp lk hcd hbd sc_law_heard rfl (.inl rfl) (heard_gives T) TB rfl (List.mem_singleton.mpr rfl) (fun p hp _ => by rw [List.mem_singleton.mp hp]; rfl) (hr.mono (by decide)) (lamP_by (sc := defScope s_law) (by decide +kernel)) rfl rfl rfl (fun _ _ _ _ _ _ _ _ => ⟨_, rfl, rfl⟩) (fun A outer s H E f c' hr2 => (pe_call (ok_parted_at T) (hr2.mono (by decide)) (by rfl) T.g_parted_at T.F_parted_at.kp T.b_parted_at .nil (passes_call (takes_of rfl rfl rfl rfl) (fun _ _ _ _ h => h)) (pa_cons pe_str (pa_cons pe_str (pa_cons (pe_lst pa_nil) (pa_cons (pv 14) pa_nil))))))) pa_nil)))))
    (pss_one (ps_ret (pe_and (pe_cmpR (op_eqD hr.units) (pv 7) (pe_lst (pa_cons (pe_tup (pa_cons pe_str (pa_cons pe_str pa_nil))) (pa_cons (pe_tup (pa_cons pe_str (pa_cons pe_str pa_nil))) (pa_cons (pe_tup (pa_cons pe_str (pa_cons pe_str pa_nil))) (pa_cons (pe_tup (pa_cons pe_str (pa_cons pe_str pa_nil))) pa_nil))))) (nomark _)) (pe_one (pe_cmpR op_isN (pe_call (ok_parted_at T) (hr.mono (by decide)) (by rfl) T.g_parted_at T.F_parted_at.kp T.b_parted_at .nil passF (pa_cons pe_str (pa_cons pe_str (pa_cons (pe_tup pa_nil) (pa_cons pe_int pa_nil))))) pe_non (nomark _)))))))))))), ?_⟩
    refine go_seq (go_asg ⟨_, rfl, s0, sc, rfl, hs, fun a c H1 na e1 w0 => ?_⟩)
    have T1 : Tabs (lamTab Pt) H1 := fun p hp => by
      rw [List.mem_singleton.mp hp]
      exact TabS.nil (e1 _ _ hP)
    have hs := e1.seq hs
    clear hP na e1
    dsimp only [gName]
    refine go_seq ?_
    unfold tFor iRng1
    refine go_cons (midE (fun v H4 => ∃ t : Nat, v = .int (t : Int) ∧ t ≤ 4 ∧ Same H1 H4) (fun Q1 q1 => ?_) (fun v H4 h4 => ?_))
    · refine go_ife (go_test (go_op (go_var rfl (go_lst (go_nil ⟨Nat.zero_le _, fun N nN => ?_⟩)))))
      refine eq_ints (xs := sc) (ys := []) ((same_new nN).seq hs) (.inl (.inl upd_same)) ?_
      exact ⟨_, rfl, iteC (fun _ => go_c (q1 _ _ ⟨1, rfl, by decide, same_new nN⟩)) (fun _ => go_c (q1 _ _ ⟨4, rfl, by decide, same_new nN⟩))⟩
    obtain ⟨tn, rfl, ht, e4⟩ := h4
    have w0 := w0.same e4
    have T1 := Tabs.same T1 e4
    clear e4 hs
    refine go_nil ⟨(tn : Int), rfl, by omega, by omega, for_range (lo := 0) (n := ((tn : Int)).toNat) (fun i σ H' => ∃ (o2 o3 o4 o5 o6 o7 o8 o9 o10 o11 o12 o13 o14 : Option V), σ = [some (.ref s0), some (.ref a), o2, o3, o4, o5, o6, o7, o8, o9, o10, o11, o12, o13, o14] ∧ Wh H' a c (2000 * i) ∧ Tabs (lamTab Pt) H')
      ⟨none, none, none, none, none, none, none, none, none, none, none, none, none, rfl, w0, T1⟩ (fun i σ' Hc hi h => ?_) (fun σ' Hc h => ?_)⟩
    · clear w0 T1
      rw [Int.toNat_natCast] at hi
      obtain ⟨o2, o3, o4, o5, o6, o7, o8, o9, o10, o11, o12, o13, o14, rfl, wi, Ti⟩ := h
      dsimp only [gName]
      -- the rows
      refine go_seq (go_asg (go_call (go_cons (go_var rfl (go_nil ⟨a, c, _, rfl, wi, by omega, fun F rw H1 hR rne => ?_⟩)))))
      have T1 := Tabs.mv Ti wi hR.mv
      have hF := hR.at_
      have hFa := hR.nw
      have w1 := hR.wh
      have fok := hR.ok
      have fln := hR.ln
      clear Ti wi hR
      dsimp only [gName]
      refine go_seq (go_asg (midE (fun v H4 => ∃ (G : Addr) (rw2 : List Nat), v = .ref G ∧ G ≠ a ∧ H4 G = some (.lst (rowV rw2)) ∧ okS rw2 ∧ rw2 ≠ [] ∧ rw2.length ≤ 24 ∧ Mv a H1 H4 ∧ Wh H4 a c (2000 * i + 300)) (fun Q1 q1 => ?_) (fun v H2 h2 => ?_)))
      · refine go_ife (go_test (go_op (go_call (go_cons (go_var rfl (go_cons (go_c (go_nil ⟨a, c, 4, _, rfl, by decide, by decide, w1, by omega, fun r H2 r0 r1 m2 w2 => ?_⟩))))))))
        refine go_c ⟨_, _, rfl, rfl, _, rfl, ?_⟩
        exact iteC (fun _ => go_var rfl (q1 _ _ ⟨F, rw, rfl, hFa, m2 _ _ hFa hF, fok, rne, fln, m2, w2.lt (by omega)⟩)) (fun _ => go_call (go_cons (go_var rfl (go_nil ⟨a, c, _, rfl, w2, by omega, fun G rw2 H3 hR2 rne2 => q1 _ _ ⟨G, rw2, rfl, hR2.nw, hR2.at_, hR2.ok, rne2, hR2.ln, m2.trans hR2.mv, hR2.wh.lt (by omega)⟩⟩))))
      obtain ⟨G, rw2, rfl, hGa, hG, gok, gne, gln, m2, w2⟩ := h2
      have hF := m2 _ _ hFa hF
      have T2 := Tabs.mv T1 w1 m2
      clear m2 w1 T1
      dsimp only [gName]
      -- the texts
      refine go_seq (go_asg (go_lst (go_cons ⟨⟨_, rfl⟩, go_call (go_cons (go_var rfl (go_cons (go_var rfl (go_nil ⟨a, c, F, rw, _, rfl, w2, by omega, hFa, hF, fok, rne, fln, fun F1 its1 H3 hI1 => ?_⟩)))))⟩)))
      refine ⟨_, F1, its1.map S, rfl, rfl, .inl (join_sq hI1.at_), join_le (by have := hI1.ln; omega) (fun it m => by have := (hI1.ok it m).2.1; omega), ?_⟩
      rw [join_tx]
      obtain ⟨X, tX, eX⟩ := tx_of hI1.ok hI1.ln (by decide)
      rw [eX]
      have hG := hI1.mv _ _ hGa hG
      have T3 := Tabs.mv T2 w2 hI1.mv
      have w3 := hI1.wh
      clear eX hI1 hF hFa fok rne fln w2 T2
      refine go_cons ⟨⟨_, rfl⟩, go_call (go_cons (go_var rfl (go_cons (go_var rfl (go_nil ⟨a, c, G, rw2, _, rfl, w3, by omega, hGa, hG, gok, gne, gln, fun F2 its2 H4 hI2 => ?_⟩)))))⟩
      refine ⟨_, F2, its2.map S, rfl, rfl, .inl (join_sq hI2.at_), join_le (by have := hI2.ln; omega) (fun it m => by have := (hI2.ok it m).2.1; omega), ?_⟩
      rw [join_tx]
      obtain ⟨Y, tY, eY⟩ := tx_of hI2.ok hI2.ln (by decide)
      rw [eY]
      have T4 := Tabs.mv T3 w3 hI2.mv
      have w4 := hI2.wh
      clear eY hI2 hG hGa gok gne gln w3 T3
      refine go_nil ⟨sz2, fun W nW => ?_⟩
      have hWa := w4.ne nW
      have w5 := w4.new (o := HO.lst [V.str (S (TL.joinL [32] X)), V.str (S (TL.joinL [32] Y))]) nW
      have T5 := Tabs.same T4 (same_new (o := HO.lst [V.str (S (TL.joinL [32] X)), V.str (S (TL.joinL [32] Y))]) nW)
      have hW := upd_same (H := H4) (a := W) (o := HO.lst [V.str (S (TL.joinL [32] X)), V.str (S (TL.joinL [32] Y))])
      generalize upd H4 W (HO.lst [V.str (S (TL.joinL [32] X)), V.str (S (TL.joinL [32] Y))]) = H5 at w5 T5 hW ⊢
      clear nW w4 T4
      dsimp only [gName]
      -- what is heard, how many passes
      refine go_seq (go_par2 (go_cons ?_))
      refine ⟨_, rfl, a, c, 4, _, rfl, by decide, by decide, w5, by omega, fun kb H6 k0 k4 m6 w6 => ⟨kb, rfl, by omega, by omega, fun L nL => ?_⟩⟩
      refine lc_range (lo := 0) (n := kb.toNat) (fun j H' => ∃ ns : List Int, H' L = some (.lst (ns.map V.int)) ∧ (∀ i ∈ ns, -3 ≤ i ∧ i ≤ 5) ∧ ns.length = j ∧ Mv a H6 H' ∧ Wh H' a c (2000 * i + 600 + j))
        ⟨[], upd_same, (fun y h => by cases h), rfl, Mv.of (same_new nL), (w6.new nL).lt (by omega)⟩ (fun j Hd hj h => ?_) (fun Hd h => ?_)
      · obtain ⟨ns, hL, hy, ly, mv, wd⟩ := h
        have hLa := w6.ne nL
        refine ⟨rfl, iteT (B := True) ?_⟩
        refine go_op (go_call (go_cons (go_var rfl (go_cons (go_c (go_nil ⟨a, c, 9, _, rfl, by decide, by decide, wd, by omega, fun r H7 r0 r9 m7 w7 => ?_⟩))))))
        refine go_c ⟨_, _, rfl, rfl, ?_⟩
        refine ⟨_, m7 _ _ hLa hL, ?_, ns ++ [r - 3], ?_, ?_, ?_, ?_, ?_⟩
        · rw [List.length_map, ly]
          exact Nat.lt_of_lt_of_le (show j < 4 by omega) (by decide)
        · rw [upd_same, List.map_append]
          rfl
        · intro y' h'
          rcases List.mem_append.mp h' with h' | h'
          · exact hy y' h'
          · rw [List.mem_singleton.mp h']
            omega
        · rw [List.length_append, ly]
          rfl
        · intro b o' nb h'
          rw [upd_ne (ne_of_none h' nL)]
          exact (mv.trans m7) b o' nb h'
        · exact (w7.lt (show 2000 * i + 600 + j + 1 ≤ 2000 * i + 600 + (j + 1) by omega)).set hLa (w6.nc nL)
      obtain ⟨ns, hL, hy, ly, mv, wd⟩ := h
      have hLa := w6.ne nL
      have hNs : okN ns := ⟨by omega, hy⟩
      have m7 := m6.trans mv
      have hW := m7 _ _ hWa hW
      have T7 := Tabs.mv T5 w5 m7
      clear hy ly mv m6 m7 w5 T5 nL w6
      refine go_cons (go_op (go_c (go_call (go_cons (go_var rfl (go_cons (go_c (go_nil ⟨a, c, 8, _, rfl, by decide, by decide, wd, by omega, fun r H8 r0 r8 m8 w8 => ?_⟩))))))))
      refine ⟨_, _, rfl, rfl, ?_⟩
      obtain ⟨k, rfl⟩ : ∃ k : Nat, r = k := ⟨r.toNat, by omega⟩
      refine go_nil ⟨_, _, rfl, ?_⟩
      have hW := m8 _ _ hWa hW
      have hL := m8 _ _ hLa hL
      have T8 := Tabs.mv T7 wd m8
      clear m8 wd T7 hWa hLa
      dsimp only
      rw [show (1 + (k : Int)) = ((k + 1 : Nat) : Int) by omega]
      have hk : k + 1 ≤ 9 := by omega
      have hk1 : 1 ≤ k + 1 := by omega
      generalize k + 1 = kp at hk hk1 ⊢
      clear r0 r8
      have lX : (TL.joinL [32] X).length ≤ 200000 := by have := tX.len; omega
      have lY : (TL.joinL [32] Y).length ≤ 200000 := by have := tY.len; omega
      -- what is due
      refine go_seq (go_asg (go_call (go_cons (go_call (go_cons (go_op (go_var rfl (go_c ⟨W, _, _, _, rfl, rfl, .inl (.inl hW), rfl, go_nil ⟨_, rfl, lX, fun p1 H9 e9 n9 h9 => ?_⟩⟩))))))))
      refine go_cons (go_call (go_cons (go_op (go_var rfl (go_c ⟨W, _, _, _, rfl, rfl, .inl (.inl (e9 _ _ hW)), rfl, go_nil ⟨_, rfl, lY, fun p2 H10 e10 n10 h10 => ?_⟩⟩)))))
      have h9 := e10 _ _ h9
      have e9 := e9.trans e10
      have hW := e9 _ _ hW
      have hL := e9 _ _ hL
      have w9 := w8.same e9
      have T9 := Tabs.same T8 e9
      clear e9 e10 n9 n10 w8 T8
      rw [tX.read] at h9
      rw [tY.read] at h10
      have hl : ns.length ≤ 100000 := by have := hNs.1; omega
      refine go_cons (go_var rfl (go_cons (go_var rfl (go_nil ⟨p1, p2, L, ns, kp, rowI X, rowI Y, rfl, .inl (.inl h9), .inl (.inl h10), .inl (.inl hL), by omega, Nat.le_trans tX.rlen (by omega), Nat.le_trans tY.rlen (by omega), tX.lt, tY.lt, small_bd hl hNs.bi tX.six (Nat.le_trans tX.rlen (by decide)) hk, small_bd hl hNs.bi tY.six (Nat.le_trans tY.rlen (by decide)) hk, fun H11 e11 => ?_⟩))))
      have hW := e11 _ _ hW
      have hL := e11 _ _ hL
      have w11 := w9.same e11
      have T11 := Tabs.same T9 e11
      clear e11 h9 h10 w9 T9
      dsimp only [gName]
      -- twice
      obtain ⟨d, hd, shd⟩ := sh_opt (o := partedF ns (rowI X) (rowI Y) kp 0 startM startM) (fun n h => by have := partedF_le _ _ _ _ _ _ _ n h; omega)
      have h72 : 72 ≤ 144 := by decide
      refine go_seq (nerepr_if (.list [d, d]) (ShA.cons shd (ShA.cons shd .nil)).lst (by decide) (by decide) (fun Q1 q1 => ?_) (fun H0 e0 Q1 q1 => ?_) (fun H12 e12 => ?_))
      · refine go_lst (go_cons (go_call (go_cons (go_op (go_var rfl (go_c ⟨W, _, _, _, rfl, rfl, .inl (.inl hW), rfl, ?_⟩))))))
        refine go_cons (go_op (go_var rfl (go_c ⟨W, _, _, _, rfl, rfl, .inl (.inl hW), rfl, ?_⟩)))
        refine go_cons (go_var rfl (go_cons (go_var rfl (go_nil ?_))))
        refine parted_call rfl rfl rfl rfl rfl tX tY h72 h72 (.inl (.inl (.inl hL))) hNs hk1 hk fun H12 e12 => ?_
        refine go_cons (go_call (go_cons (go_op (go_var rfl (go_c ⟨W, _, _, _, rfl, rfl, .inl (.inl (e12 _ _ hW)), rfl, ?_⟩)))))
        refine go_cons (go_op (go_var rfl (go_c ⟨W, _, _, _, rfl, rfl, .inl (.inl (e12 _ _ hW)), rfl, ?_⟩)))
        refine go_cons (go_var rfl (go_cons (go_var rfl (go_nil ?_))))
        refine parted_call rfl rfl rfl rfl rfl tY tX h72 h72 (.inl (.inl (.inl (e12 _ _ hL)))) hNs hk1 hk fun H13 e13 => ?_
        rw [partedF_swap ns (rowI Y) (rowI X)]
        exact go_nil ⟨sz2, fun p np => q1 p _ (e12.trans (e13.trans (same_new np))) (.lst (.inl (.inl upd_same)) (.cons (hd _ _) (.cons (hd _ _) .nil)))⟩
      · exact go_lst (go_cons (go_var rfl (go_cons (go_var rfl (go_nil ⟨sz2, fun p np => q1 p _ (same_new np) (.lst (.inl (.inl upd_same)) (.cons (hd _ _) (.cons (hd _ _) .nil)))⟩)))))
      have hW := e12 _ _ hW
      have hL := e12 _ _ hL
      have w12 := w11.same e12
      have T12 := Tabs.same T11 e12
      clear e12 w11 T11 hd shd
      dsimp only [tNext]
      -- each word twice
      refine go_seq (go_asg ⟨⟨_, rfl⟩, ?_⟩)
      refine ⟨_, rfl, W, _, _, _, rfl, rfl, .inl (.inl hW), rfl, ⟨_, rfl⟩, _, _, rfl, rfl, rfl, by rw [S_len]; exact Nat.le_trans (Nat.add_le_add_right lX 2) (by decide : 200000 + 2 ≤ sizeLine), fun p np => ?_⟩
      rw [split_items, items_join X tX.ne fun it m => (tX.ok it m).2.2.2, map_tx]
      have hp1 := upd_same (H := H12) (a := p) (o := HO.lst (X.map tx))
      have e13 := same_new (o := HO.lst (X.map tx)) np
      have hW := e13 _ _ hW
      have hL := e13 _ _ hL
      have w13 := w12.same e13
      have T13 := Tabs.same T12 e13
      generalize upd H12 p (HO.lst (X.map tx)) = H13 at hp1 hW hL w13 T13 ⊢
      clear e13 np w12 T12
      refine ⟨p, rfl, ⟨_, .inl (.inl hp1)⟩, fun D nD => lc_keep (walk_list (xs := X.map tx)) (X.map fun it => some (tx (it ++ [32] ++ it))) (by rw [List.length_map, List.length_map]) nD (by rw [List.length_map]; have := tX.ln; omega) (fun Hd e2 => .inl (.inl (e2 _ _ hp1))) (fun i x z Hd Hx Q' R' _ hzi e2 y q' r' => ?_) (fun Hd e2 hD => ?_)⟩
      · obtain ⟨rfl, hx⟩ := y
        obtain ⟨it, hit, rfl⟩ := map_at hx
        obtain ⟨it2, hit2, rfl⟩ := map_at hzi
        rw [hit] at hit2
        cases hit2
        have li := (tX.ok it (List.mem_of_getElem? hit)).2.1
        refine ⟨rfl, ?_⟩
        refine go_yes ?_
        refine iteT (A := tOp _ _ _ _ _ _) ?_
        refine go_op ?_
        refine go_op (go_var rfl (go_c ⟨_, _, rfl, rfl, ?_, ?_⟩))
        · rw [S_len]
          exact Nat.le_trans (show it.length + 1 ≤ 13 by omega) (by decide)
        refine go_var rfl ⟨_, _, rfl, rfl, ?_, ?_⟩
        · rw [show S it ++ (" " : Str) = S (it ++ [32]) from S_cat it [32], S_len, S_len, List.length_append]
          exact Nat.le_trans (show it.length + 1 + it.length ≤ 25 by omega) (by decide)
        · rw [show S it ++ (" " : Str) = S (it ++ [32]) from S_cat it [32], S_cat]
          exact q' _ _ rfl (Same.refl _)
      have eD : ((X.map fun it => some (tx (it ++ [32] ++ it))).filterMap id) = (X.map fun it => it ++ [32] ++ it).map tx := by
        rw [List.filterMap_map, List.map_map]
        exact congrFun (List.filterMap_eq_map (f := tx ∘ fun it => it ++ [32] ++ it)) X
      rw [eD] at hD
      refine ⟨_, D, (X.map fun it => it ++ [32] ++ it).map S, rfl, rfl, .inl (join_sq hD), join_le (by rw [List.length_map]; have := tX.ln; omega) (fun it m => ?_), ?_⟩
      · obtain ⟨x, hx, rfl⟩ := List.mem_map.mp m
        have := (tX.ok x hx).2.1
        rw [List.length_append, List.length_append]
        show x.length + 1 + x.length ≤ 25
        omega
      rw [join_tx, thick_join]
      have hW := e2 _ _ hW
      have hL := e2 _ _ hL
      have w14 := w13.same e2
      have T14 := Tabs.same T13 e2
      clear e2 w13 T13 hp1 hD nD
      dsimp only [gName]
      -- nothing is parted
      refine go_if (go_test (go_op ?_))
      refine go_nil ?_
      refine go_cons (go_var rfl (go_cons (go_cb (go_cons (go_var rfl (go_nil ⟨L, _, rfl, .inl ⟨.inl (.inl hL), fun M nM => ?_⟩⟩))))))
      have e15 := same_new (o := HO.tup (ns.map V.int)) nM
      have hW := e15 _ _ hW
      have w15 := w14.same e15
      have T15 := Tabs.same T14 e15
      have hM := upd_same (H := Hd) (a := M) (o := HO.tup (ns.map V.int))
      generalize upd Hd M (HO.tup (ns.map V.int)) = H15 at hW w15 T15 hM ⊢
      clear e15 nM w14 T14 hL
      refine go_cons (go_var rfl (go_cons (go_op (go_var rfl (go_c ⟨W, _, _, _, rfl, rfl, .inl (.inl hW), rfl, ?_⟩)))))
      refine go_nil ?_
      have tZ := tX.thick
      refine parted_call rfl rfl rfl rfl rfl tX tZ (by decide) (by decide) (.inr (.inl (.inl hM))) hNs hk1 hk fun H16 e16 => ?_
      rw [partedF_none ns (rowI X) (rowI (thickI X)) (fun s => (thick_same ns X s).symm)]
      refine go_c ⟨rfl, _, rfl, iteF (A := _) ?_⟩
      dsimp only [tNext]
      exact ⟨_, _, _, _, _, _, _, _, _, _, _, _, _, rfl, (w15.same e16).lt (by omega), Tabs.same T15 e16⟩
    · obtain ⟨o2, o3, o4, o5, o6, o7, o8, o9, o10, o11, o12, o13, o14, rfl, wz, Tz⟩ := h
      rw [Int.toNat_natCast] at wz
      clear w0 T1
      dsimp only
      have tyn : ∀ {H' : Hp}, ∃ n, TyX K H' .non (.type n) ∧ kitB n "str" = some false := fun {H'} => ⟨"NoneType", .base .non, by decide +kernel⟩
      have tyi : ∀ {H' : Hp}, ∃ n, TyX K H' (.int 5) (.type n) ∧ kitB n "str" = some false := fun {H'} => ⟨"int", .base (.int 5), by decide +kernel⟩
      -- what is no text
      refine go_seq (go_asg ⟨_, rfl, ?_⟩)
      refine go_cons (go_lst (go_cons (go_c (go_cons (go_c (go_cons (go_c (go_cons (go_c (go_cons (go_lst (go_cons (go_c (go_nil ⟨sz1, fun p np => ?_⟩))))))))))))))
      have hp1 := upd_same (H := Hc) (a := p) (o := HO.lst [V.str "outset"])
      have hpa := wz.ne np
      have w1 := wz.new (o := HO.lst [V.str "outset"]) np
      have T1 := Tabs.same Tz (same_new (o := HO.lst [V.str "outset"]) np)
      generalize upd Hc p (HO.lst [V.str "outset"]) = H1 at hp1 w1 T1 ⊢
      refine go_cons (go_c (go_nil ⟨show 6 ≤ sizeLine by decide, fun p8 n8 => ?_⟩))
      refine go_nil (pick_new n8 w1 (by omega) (by simp) (show 6 ≤ 1000000 by decide) fun nv H2 hv m2 w2 => ?_)
      have hp2 := m2 _ _ hpa hp1
      have T2 := Tabs.mv T1 w1 m2
      have hO : ∃ o, StrIs K (core a H2) nv o ∧ o.elim false textB = false := by
        simp only [List.mem_cons, List.not_mem_nil, or_false] at hv
        rcases hv with rfl | rfl | rfl | rfl | rfl | rfl
        · exact ⟨none, tyn, rfl⟩
        · exact ⟨none, tyi, rfl⟩
        · exact ⟨some [65], ⟨rfl, by decide⟩, by decide +kernel⟩
        · exact ⟨some [97, 45, 98], ⟨rfl, by decide⟩, by decide +kernel⟩
        · exact ⟨none, ⟨"list", tyL (.inl (.inl (core_at hp2 hpa (fun _ z => by cases z)))), by decide +kernel⟩, rfl⟩
        · exact ⟨some [97, 9], ⟨rfl, by decide⟩, by decide +kernel⟩
      clear hv m2 n8 w1 T1 hp1 np hpa hp2 wz Tz
      -- what is heard by none
      refine go_cons ⟨_, rfl, ?_⟩
      refine go_cons (go_lst (go_cons (go_c (go_cons (go_c (go_cons (go_c (go_cons (go_lst (go_cons (go_c (go_nil ⟨sz1, fun p np => ?_⟩))))))))))))
      have hp1 := upd_same (H := H2) (a := p) (o := HO.lst [V.bl true])
      have hpa := w2.ne np
      have w1 := w2.new (o := HO.lst [V.bl true]) np
      have x1 := same_new (o := HO.lst [V.bl true]) np
      have T1 := Tabs.same T2 x1
      obtain ⟨o, hO, hOf⟩ := hO
      have hO := hO.same (core_same2 (Mv.of x1))
      generalize upd H2 p (HO.lst [V.bl true]) = H3 at hp1 w1 T1 hO ⊢
      clear np w2 T2 x1
      refine go_cons (go_lst (go_cons (go_c (go_nil ⟨sz1, fun p2 np2 => ?_⟩))))
      have hq1 := upd_same (H := H3) (a := p2) (o := HO.lst [V.non])
      have hqa := w1.ne np2
      have w2 := w1.new (o := HO.lst [V.non]) np2
      have x1 := same_new (o := HO.lst [V.non]) np2
      have T2 := Tabs.same T1 x1
      have hO := hO.same (core_same2 (Mv.of x1))
      have hp1 := x1 _ _ hp1
      generalize upd H3 p2 (HO.lst [V.non]) = H4 at hp1 hq1 w2 T2 hO ⊢
      clear np2 w1 T1 x1
      refine go_cons fun p3 np3 => ?_
      have hr1 := upd_same (H := H4) (a := p3) (o := HO.dK [])
      have hra := w2.ne np3
      have w3 := w2.new (o := HO.dK []) np3
      have x1 := same_new (o := HO.dK []) np3
      have T3 := Tabs.same T2 x1
      have hO := hO.same (core_same2 (Mv.of x1))
      have hp1 := x1 _ _ hp1
      have hq1 := x1 _ _ hq1
      generalize upd H4 p3 (HO.dK []) = H5 at hp1 hq1 hr1 w3 T3 hO ⊢
      clear np3 w2 T2 x1
      refine go_nil ⟨show 6 ≤ sizeLine by decide, fun p8 n8 => ?_⟩
      refine go_nil (pick_new n8 w3 (by omega) (by simp) (show 6 ≤ 1000000 by decide) fun ov H6 hv m6 w6 => ?_)
      have hp2 := m6 _ _ hpa hp1
      have hq2 := m6 _ _ hqa hq1
      have hr2 := m6 _ _ hra hr1
      have T6 := Tabs.mv T3 w3 m6
      have hO := hO.same (core_same2 m6)
      have hI : IntsV K (core a H6) ov false := by
        simp only [List.mem_cons, List.not_mem_nil, or_false] at hv
        rcases hv with rfl | rfl | rfl | rfl | rfl | rfl
        · exact .inl ⟨"NoneType", .base .non, kit_at (a := false) (b := false) (by decide +kernel) (by decide +kernel), rfl⟩
        · exact .inl ⟨"int", .base (.int 5), kit_at (a := false) (b := false) (by decide +kernel) (by decide +kernel), rfl⟩
        · exact .inl ⟨"str", .base (.str _), kit_at (a := false) (b := false) (by decide +kernel) (by decide +kernel), rfl⟩
        · exact .inr ⟨p, [.bl true], rfl, .inl (.inl (.inl (core_at hp2 hpa (fun _ z => by cases z)))), fun z m => by rw [List.mem_singleton.mp m]; exact hasInt_bl _, by decide, rfl⟩
        · exact .inr ⟨p2, [.non], rfl, .inl (.inl (.inl (core_at hq2 hqa (fun _ z => by cases z)))), fun z m => by rw [List.mem_singleton.mp m]; exact hasInt_non, by decide, rfl⟩
        · exact .inl ⟨"dict", .base (.dK (core_at hr2 hra (fun _ z => by cases z))), kit_at (a := false) (b := false) (by decide +kernel) (by decide +kernel), rfl⟩
      clear hv hp1 hq1 hr1 hp2 hq2 hr2 hpa hqa hra n8 m6 w3 T3
      refine go_nil ⟨sz2, fun pt npt => ⟨pt, _, rfl, .inl (.inl upd_same), rfl, _, _, rfl, _, _, rfl, rfl, ?_⟩⟩
      have x1 := same_new (o := HO.tup [nv, ov]) npt
      have w7 := w6.new (o := HO.tup [nv, ov]) npt
      have T7 := Tabs.same T6 x1
      have hO := hO.same (core_same2 (Mv.of x1))
      have hI := hI.same (core_same2 (Mv.of x1))
      generalize upd H6 pt (HO.tup [nv, ov]) = H7 at w7 T7 hO hI ⊢
      clear x1 npt w6 T6
      dsimp only [gName]
      -- what is no number of passes
      refine go_seq (go_asg ⟨_, rfl, ?_⟩)
      refine go_cons (go_lst (go_cons (go_c (go_cons (go_c (go_cons (go_c (go_cons (go_c (go_cons (go_c (go_cons (go_c ⟨_, rfl, ?_⟩)))))))))))))
      refine go_nil ⟨show 6 ≤ sizeLine by decide, fun p8 n8 => ?_⟩
      refine go_nil (pick_new n8 w7 (by omega) (by simp) (show 6 ≤ 1000000 by decide) fun bv H8 hv m8 w8 => ?_)
      have T8 := Tabs.mv T7 w7 m8
      have hO := hO.same (core_same2 m8)
      have hI := hI.same (core_same2 m8)
      obtain ⟨hN, hNf⟩ : (∀ H', HasInt K H' bv) ∧ withinV bv (some 1) (some 20000) = false := by
        simp only [List.mem_cons, List.not_mem_nil, or_false] at hv
        rcases hv with rfl | rfl | rfl | rfl | rfl | rfl
        · exact ⟨fun _ => hasInt_int _, by decide +kernel⟩
        · exact ⟨fun _ => hasInt_int _, by decide +kernel⟩
        · exact ⟨fun _ => hasInt_non, by decide +kernel⟩
        · exact ⟨fun _ => hasInt_bl _, by decide +kernel⟩
        · exact ⟨fun _ => hasInt_str _, by decide +kernel⟩
        · exact ⟨fun _ => hasInt_int _, by decide +kernel⟩
      clear hv m8 n8 w7 T7 w8
      dsimp only [gName]
      have hB0 : textB [] = true := by decide +kernel
      -- what is refused
      refine go_seq (go_asg (go_lst (go_cons ⟨T8, fun H15 e15 T15 N1 => ?_⟩)))
      refine ⟨_, rfl, _, rfl, _, rfl, _, rfl, ?_⟩
      refine ⟨_, _, _, _, o, rfl, hO.same (core_ext core_sub e15), .inl ⟨hOf, fun d H16 e16 hd => ⟨d, .str "text", "text", .inl ⟨rfl, rfl⟩, rfl, hd, fun v1 H17 e17 hv1 => ?_⟩⟩⟩
      have x17 := e16.trans e17
      have E17 := e15.trans (ExtN.of x17)
      have T17 := Tabs.same T15 x17
      clear x17 e17 hd e16 T15 e15
      refine go_cons ⟨T17, fun H15 e15 T15 N1 => ?_⟩
      refine go_cons (go_c ⟨_, rfl, _, rfl, _, rfl, ?_⟩)
      refine ⟨_, _, _, _, some [], rfl, ⟨rfl, by decide⟩, .inr ⟨[], o, rfl, hB0, hO.same (core_ext core_sub (E17.trans e15)), .inl ⟨hOf, fun d H16 e16 hd => ⟨d, .str "other", "text", .inl ⟨rfl, rfl⟩, rfl, hd, fun v2 H18 e18 hv2 => ?_⟩⟩⟩⟩
      have x18 := e16.trans e18
      have E18 := e15.trans (ExtN.of x18)
      have T18 := Tabs.same T15 x18
      have hv1 := ext_at E18 hv1
      have E18 := E17.trans E18
      clear x18 e18 hd e16 T15 e15 T17 E17
      refine go_nil ⟨sz2, fun pl npl => ?_⟩
      have t0 := same_new (o := HO.lst [V.ref v1, V.ref v2]) npl
      have hv1 := t0 _ _ hv1
      have hv2 := t0 _ _ hv2
      have T20 := Tabs.same T18 t0
      have E20 := E18.trans (ExtN.of t0)
      have hpl : upd H18 pl (HO.lst [V.ref v1, V.ref v2]) pl = some (.lst [V.ref v1, V.ref v2]) := upd_same
      generalize upd H18 pl (HO.lst [V.ref v1, V.ref v2]) = H20 at hv1 hv2 T20 E20 hpl ⊢
      clear t0 npl T18 E18
      dsimp only [gName]
      refine go_seq (go_asg (go_op (go_var rfl (go_lst (go_cons ⟨T20, fun H15 e15 T15 N1 => ?_⟩)))))
      refine go_cons (go_c (go_cons (go_c ⟨_, rfl, _, rfl, ?_⟩)))
      refine ⟨_, _, _, _, some [], rfl, ⟨rfl, by decide⟩, .inr ⟨[], some [], rfl, hB0, ⟨rfl, by decide⟩, .inr ⟨[], false, rfl, hB0, hI.same (core_ext core_sub (E20.trans e15)), .inl ⟨rfl, fun d H16 e16 hd => ⟨d, .str "heard", "heard", .inr (.inr ⟨rfl, rfl⟩), rfl, hd, fun v3 H21 e21 hv3 => ?_⟩⟩⟩⟩⟩
      have x21 := e16.trans e21
      have E21 := e15.trans (ExtN.of x21)
      have T21 := Tabs.same T15 x21
      have hv1 := ext_at E21 hv1
      have hv2 := ext_at E21 hv2
      have hpl := ext_at E21 hpl
      clear x21 e21 hd e16 T15 e15 T20 E21 E20
      refine go_cons ⟨T21, fun H15 e15 T15 N1 => ?_⟩
      refine go_cons (go_c (go_cons (go_c (go_cons (go_lst (go_nil ⟨Nat.zero_le _, fun pe npe => ?_⟩))))))
      refine ⟨_, rfl, ?_⟩
      refine ⟨_, _, _, _, some [], rfl, ⟨rfl, by decide⟩, .inr ⟨[], some [], rfl, hB0, ⟨rfl, by decide⟩, .inr ⟨[], true, rfl, hB0, intsV_of (l := []) (.inl (.inl (.inl upd_same))) (by decide), .inr ⟨rfl, hN _, .inl ⟨hNf, fun d H16 e16 hd => ⟨d, .str "passes", "number", .inr (.inl ⟨rfl, rfl⟩), rfl, hd, fun v4 H22 e22 hv4 => ?_⟩⟩⟩⟩⟩⟩
      have E22 := e15.trans (ExtN.of ((same_new npe).trans (e16.trans e22)))
      have hv1 := ext_at E22 hv1
      have hv2 := ext_at E22 hv2
      have hv3 := ext_at E22 hv3
      have hpl := ext_at E22 hpl
      clear e22 e16 T15 e15 T21 E22 npe hd
      refine go_nil ⟨sz2, fun pl2 npl2 => ?_⟩
      have t0 := same_new (o := HO.lst [V.ref v3, V.ref v4]) npl2
      refine ⟨pl, pl2, _, _, rfl, rfl, t0 _ _ hpl, upd_same, (show 2 + 2 ≤ sizeLine by decide), fun pl3 npl3 => ?_⟩
      have t1 := t0.trans (same_new (o := HO.lst ([V.ref v1, V.ref v2] ++ [V.ref v3, V.ref v4])) npl3)
      have hv1 := t1 _ _ hv1
      have hv2 := t1 _ _ hv2
      have hv3 := t1 _ _ hv3
      have hv4 := t1 _ _ hv4
      have hp3 : upd (upd H22 pl2 (HO.lst [V.ref v3, V.ref v4])) pl3 (HO.lst ([V.ref v1, V.ref v2] ++ [V.ref v3, V.ref v4])) pl3 = some (.lst [V.ref v1, V.ref v2, V.ref v3, V.ref v4]) := upd_same
      generalize upd (upd H22 pl2 (HO.lst [V.ref v3, V.ref v4])) pl3 (HO.lst ([V.ref v1, V.ref v2] ++ [V.ref v3, V.ref v4])) = H23 at hv1 hv2 hv3 hv4 hp3 ⊢
      clear t0 t1 npl2 npl3 hpl
      dsimp only [gName]
      refine go_ret (go_and ?_)
      refine go_op (go_var rfl (go_lst (go_cons (go_tup (go_cons (go_c (go_cons (go_c (go_nil ⟨sz2, fun a1 n1 => ?_⟩)))))))))
      have y1 := same_new (o := HO.tup [V.str "text", V.str "text"]) n1
      have g1 := upd_same (H := H23) (a := a1) (o := HO.tup [V.str "text", V.str "text"])
      generalize upd H23 a1 (HO.tup [V.str "text", V.str "text"]) = H24 at y1 g1 ⊢
      refine go_cons (go_tup (go_cons (go_c (go_cons (go_c (go_nil ⟨sz2, fun a2 n2 => ?_⟩))))))
      have y2 := same_new (o := HO.tup [V.str "text", V.str "other"]) n2
      have g2 := upd_same (H := H24) (a := a2) (o := HO.tup [V.str "text", V.str "other"])
      generalize upd H24 a2 (HO.tup [V.str "text", V.str "other"]) = H25 at y2 g2 ⊢
      refine go_cons (go_tup (go_cons (go_c (go_cons (go_c (go_nil ⟨sz2, fun a3 n3 => ?_⟩))))))
      have y3 := same_new (o := HO.tup [V.str "heard", V.str "heard"]) n3
      have g3 := upd_same (H := H25) (a := a3) (o := HO.tup [V.str "heard", V.str "heard"])
      generalize upd H25 a3 (HO.tup [V.str "heard", V.str "heard"]) = H26 at y3 g3 ⊢
      refine go_cons (go_tup (go_cons (go_c (go_cons (go_c (go_nil ⟨sz2, fun a4 n4 => ?_⟩))))))
      have y4 := same_new (o := HO.tup [V.str "number", V.str "passes"]) n4
      have g4 := upd_same (H := H26) (a := a4) (o := HO.tup [V.str "number", V.str "passes"])
      generalize upd H26 a4 (HO.tup [V.str "number", V.str "passes"]) = H27 at y4 g4 ⊢
      refine go_nil ⟨sz4, fun a5 n5 => ?_⟩
      have y5 := same_new (o := HO.lst [V.ref a1, V.ref a2, V.ref a3, V.ref a4]) n5
      have z4 := y4.trans y5
      have z3 := y3.trans z4
      have z2 := y2.trans z3
      have yA := y1.trans z2
      refine ⟨.list [.tuple [.str "text", .str "text"], .tuple [.str "text", .str "other"], .tuple [.str "heard", .str "heard"], .tuple [.str "number", .str "passes"]],
        .list [.tuple [.str "text", .str "text"], .tuple [.str "text", .str "other"], .tuple [.str "heard", .str "heard"], .tuple [.str "number", .str "passes"]],
        .lst (.inl (.inl (yA _ _ hp3))) (.cons (.tup (.inl (.inl (yA _ _ hv1))) (.cons (.str _) (.cons (.str _) .nil))) (.cons (.tup (.inl (.inl (yA _ _ hv2))) (.cons (.str _) (.cons (.str _) .nil))) (.cons (.tup (.inl (.inl (yA _ _ hv3))) (.cons (.str _) (.cons (.str _) .nil))) (.cons (.tup (.inl (.inl (yA _ _ hv4))) (.cons (.str _) (.cons (.str _) .nil))) .nil)))),
        .lst (.inl (.inl upd_same)) (.cons (.tup (.inl (.inl (z2 _ _ g1))) (.cons (.str _) (.cons (.str _) .nil))) (.cons (.tup (.inl (.inl (z3 _ _ g2))) (.cons (.str _) (.cons (.str _) .nil))) (.cons (.tup (.inl (.inl (z4 _ _ g3))) (.cons (.str _) (.cons (.str _) .nil))) (.cons (.tup (.inl (.inl (y5 _ _ g4))) (.cons (.str _) (.cons (.str _) .nil))) .nil)))), by decide +kernel, by decide +kernel, ?_⟩
      rw [show (PyData.eqv (.list [.tuple [.str "text", .str "text"], .tuple [.str "text", .str "other"], .tuple [.str "heard", .str "heard"], .tuple [.str "number", .str "passes"]]) (.list [.tuple [.str "text", .str "text"], .tuple [.str "text", .str "other"], .tuple [.str "heard", .str "heard"], .tuple [.str "number", .str "passes"]])) = true by decide +kernel]
      refine ⟨_, rfl, iteT (A := _) ?_⟩
      -- nothing and nothing
      refine go_op (go_call (go_cons (go_c (go_cons (go_c (go_cons (go_tup (go_nil ⟨Nat.zero_le _, fun pe npe => ?_⟩))))))))
      refine go_cons (go_c (go_nil ?_))
      have t0 : TxI [[]] 144 := ⟨by simp, fun it m => by rw [List.mem_singleton.mp m]; exact nil_ok, by decide⟩
      have okA : okI [97] := okI_of (by decide +kernel)
      have okB : okI [98] := okI_of (by decide +kernel)
      have t1 : TxI [[97], [98]] 144 := ⟨by simp, fun it m => by
        rcases List.mem_cons.mp m with rfl | m
        · exact okA
        · rw [List.mem_singleton.mp m]
          exact okB, by decide⟩
      have r0 : rowI [[]] = [] := by decide +kernel
      have r1 : rowI [[97], [98]] = [] := by decide +kernel
      refine parted_call (X := [[]]) (Y := [[97], [98]]) (ns := []) (k := 9) rfl rfl rfl rfl rfl t0 t1 (Nat.le_refl _) (Nat.le_refl _) (.inr (.inl (.inl upd_same))) ⟨by decide, fun i m => by cases m⟩ (by decide) (by decide) fun H30 e30 => ?_
      rw [r0, r1, partedF_none [] [] [] (fun s => rfl)]
      exact go_c ⟨rfl, q _⟩
end
end K54
namespace K54
open PySem PySem.Spec PyProof.Rows L2 Kx SX LamX Ms PnX ItX
def tx_mk {K : PySem.W.Frag} {h : Heap} {mg : Str → Option Value} (X : K.In h) (G : h.Ns mainGlobals mg)
    {f0 : Addr} {od0 an0 : Option Addr} {sl0 : Array (Option Value)} {oc0 kV0 dc0 pm0 cd0 ct0 : Value}
    {f1 : Addr} {od1 an1 : Option Addr} {sl1 : Array (Option Value)} {oc1 kV1 dc1 pm1 cd1 ct1 : Value}
    {f2 : Addr} {od2 an2 : Option Addr} {sl2 : Array (Option Value)} {oc2 kV2 dc2 pm2 cd2 ct2 : Value}
    {f3 : Addr} {od3 an3 : Option Addr} {sl3 : Array (Option Value)} {oc3 kV3 dc3 pm3 cd3 ct3 : Value}
    {f4 : Addr} {od4 an4 : Option Addr} {sl4 : Array (Option Value)} {oc4 kV4 dc4 pm4 cd4 ct4 : Value}
    {f5 : Addr} {od5 an5 : Option Addr} {sl5 : Array (Option Value)} {oc5 kV5 dc5 pm5 cd5 ct5 : Value}
    {f6 : Addr} {od6 an6 : Option Addr} {sl6 : Array (Option Value)} {oc6 kV6 dc6 pm6 cd6 ct6 : Value}
    {f7 : Addr} {od7 an7 : Option Addr} {sl7 : Array (Option Value)} {oc7 kV7 dc7 pm7 cd7 ct7 : Value}
    {f8 : Addr} {od8 an8 : Option Addr} {sl8 : Array (Option Value)} {oc8 kV8 dc8 pm8 cd8 ct8 : Value}
    {f9 : Addr} {od9 an9 : Option Addr} {sl9 : Array (Option Value)} {oc9 kV9 dc9 pm9 cd9 ct9 : Value}
    {f10 : Addr} {od10 an10 : Option Addr} {sl10 : Array (Option Value)} {oc10 kV10 dc10 pm10 cd10 ct10 : Value}
    {f11 : Addr} {od11 an11 : Option Addr} {sl11 : Array (Option Value)} {oc11 kV11 dc11 pm11 cd11 ct11 : Value}
    {f12 : Addr} {od12 an12 : Option Addr} {sl12 : Array (Option Value)} {oc12 kV12 dc12 pm12 cd12 ct12 : Value}
    {f13 : Addr} {od13 an13 : Option Addr} {sl13 : Array (Option Value)} {oc13 kV13 dc13 pm13 cd13 ct13 : Value}
    {f14 : Addr} {od14 an14 : Option Addr} {sl14 : Array (Option Value)} {oc14 kV14 dc14 pm14 cd14 ct14 : Value}
    {f15 : Addr} {od15 an15 : Option Addr} {sl15 : Array (Option Value)} {oc15 kV15 dc15 pm15 cd15 ct15 : Value}
    {f16 : Addr} {od16 an16 : Option Addr} {sl16 : Array (Option Value)} {oc16 kV16 dc16 pm16 cd16 ct16 : Value}
    {f17 : Addr} {od17 an17 : Option Addr} {sl17 : Array (Option Value)} {oc17 kV17 dc17 pm17 cd17 ct17 : Value}
    {f18 : Addr} {od18 an18 : Option Addr} {sl18 : Array (Option Value)} {oc18 kV18 dc18 pm18 cd18 ct18 : Value}
    {f19 : Addr} {od19 an19 : Option Addr} {sl19 : Array (Option Value)} {oc19 kV19 dc19 pm19 cd19 ct19 : Value}
    {f20 : Addr} {od20 an20 : Option Addr} {sl20 : Array (Option Value)} {oc20 kV20 dc20 pm20 cd20 ct20 : Value}
    {f21 : Addr} {od21 an21 : Option Addr} {sl21 : Array (Option Value)} {oc21 kV21 dc21 pm21 cd21 ct21 : Value}
    {f22 : Addr} {od22 an22 : Option Addr} {sl22 : Array (Option Value)} {oc22 kV22 dc22 pm22 cd22 ct22 : Value}
    {f23 : Addr} {od23 an23 : Option Addr} {sl23 : Array (Option Value)} {oc23 kV23 dc23 pm23 cd23 ct23 : Value}
    {f24 : Addr} {od24 an24 : Option Addr} {sl24 : Array (Option Value)} {oc24 kV24 dc24 pm24 cd24 ct24 : Value}
    {f25 : Addr} {od25 an25 : Option Addr} {sl25 : Array (Option Value)} {oc25 kV25 dc25 pm25 cd25 ct25 : Value}
    {f26 : Addr} {od26 an26 : Option Addr} {sl26 : Array (Option Value)} {oc26 kV26 dc26 pm26 cd26 ct26 : Value}
    {f27 : Addr} {od27 an27 : Option Addr} {sl27 : Array (Option Value)} {oc27 kV27 dc27 pm27 cd27 ct27 : Value}
    {f28 : Addr} {od28 an28 : Option Addr} {sl28 : Array (Option Value)} {oc28 kV28 dc28 pm28 cd28 ct28 : Value}
    {f29 : Addr} {od29 an29 : Option Addr} {sl29 : Array (Option Value)} {oc29 kV29 dc29 pm29 cd29 ct29 : Value}
    {f30 : Addr} {od30 an30 : Option Addr} {sl30 : Array (Option Value)} {oc30 kV30 dc30 pm30 cd30 ct30 : Value}
    {f31 : Addr} {od31 an31 : Option Addr} {sl31 : Array (Option Value)} {oc31 kV31 dc31 pm31 cd31 ct31 : Value}
    {f32 : Addr} {od32 an32 : Option Addr} {sl32 : Array (Option Value)} {oc32 kV32 dc32 pm32 cd32 ct32 : Value}
    {f33 : Addr} {od33 an33 : Option Addr} {sl33 : Array (Option Value)} {oc33 kV33 dc33 pm33 cd33 ct33 : Value}
    {f34 : Addr} {od34 an34 : Option Addr} {sl34 : Array (Option Value)} {oc34 kV34 dc34 pm34 cd34 ct34 : Value}
    {f35 : Addr} {od35 an35 : Option Addr} {sl35 : Array (Option Value)} {oc35 kV35 dc35 pm35 cd35 ct35 : Value}
    {f36 : Addr} {od36 an36 : Option Addr} {sl36 : Array (Option Value)} {oc36 kV36 dc36 pm36 cd36 ct36 : Value}
    {f37 : Addr} {od37 an37 : Option Addr} {sl37 : Array (Option Value)} {oc37 kV37 dc37 pm37 cd37 ct37 : Value}
    {f38 : Addr} {od38 an38 : Option Addr} {sl38 : Array (Option Value)} {oc38 kV38 dc38 pm38 cd38 ct38 : Value}
    {f39 : Addr} {od39 an39 : Option Addr} {sl39 : Array (Option Value)} {oc39 kV39 dc39 pm39 cd39 ct39 : Value}
    {f40 : Addr} {od40 an40 : Option Addr} {sl40 : Array (Option Value)} {oc40 kV40 dc40 pm40 cd40 ct40 : Value}
    {f41 : Addr} {od41 an41 : Option Addr} {sl41 : Array (Option Value)} {oc41 kV41 dc41 pm41 cd41 ct41 : Value}
    {f42 : Addr} {od42 an42 : Option Addr} {sl42 : Array (Option Value)} {oc42 kV42 dc42 pm42 cd42 ct42 : Value}
    {f43 : Addr} {od43 an43 : Option Addr} {sl43 : Array (Option Value)} {oc43 kV43 dc43 pm43 cd43 ct43 : Value}
    {f44 : Addr} {od44 an44 : Option Addr} {sl44 : Array (Option Value)} {oc44 kV44 dc44 pm44 cd44 ct44 : Value}
    {f45 : Addr} {od45 an45 : Option Addr} {sl45 : Array (Option Value)} {oc45 kV45 dc45 pm45 cd45 ct45 : Value}
    {f46 : Addr} {od46 an46 : Option Addr} {sl46 : Array (Option Value)} {oc46 kV46 dc46 pm46 cd46 ct46 : Value}
    {f47 : Addr} {od47 an47 : Option Addr} {sl47 : Array (Option Value)} {oc47 kV47 dc47 pm47 cd47 ct47 : Value}
    {f48 : Addr} {od48 an48 : Option Addr} {sl48 : Array (Option Value)} {oc48 kV48 dc48 pm48 cd48 ct48 : Value}
    {f49 : Addr} {od49 an49 : Option Addr} {sl49 : Array (Option Value)} {oc49 kV49 dc49 pm49 cd49 ct49 : Value}
    {f50 : Addr} {od50 an50 : Option Addr} {sl50 : Array (Option Value)} {oc50 kV50 dc50 pm50 cd50 ct50 : Value}
    {f51 : Addr} {od51 an51 : Option Addr} {sl51 : Array (Option Value)} {oc51 kV51 dc51 pm51 cd51 ct51 : Value}
    {f52 : Addr} {od52 an52 : Option Addr} {sl52 : Array (Option Value)} {oc52 kV52 dc52 pm52 cd52 ct52 : Value}
    {f53 : Addr} {od53 an53 : Option Addr} {sl53 : Array (Option Value)} {oc53 kV53 dc53 pm53 cd53 ct53 : Value}
    {f54 : Addr} {od54 an54 : Option Addr} {sl54 : Array (Option Value)} {oc54 kV54 dc54 pm54 cd54 ct54 : Value}
    {mf0 : Addr} {mod0 man0 : Option Addr} {msl0 : Array (Option Value)} {moc0 mkV0 mdc0 mpm0 mcd0 mct0 : Value}
    {mf1 : Addr} {mod1 man1 : Option Addr} {msl1 : Array (Option Value)} {moc1 mkV1 mdc1 mpm1 mcd1 mct1 : Value}
    {mf2 : Addr} {mod2 man2 : Option Addr} {msl2 : Array (Option Value)} {moc2 mkV2 mdc2 mpm2 mcd2 mct2 : Value}
    {KC_Book : Addr}
    {KC_Work : Addr}
    {KC_Course : Addr}
    {KD_TooMany : Addr}
    {KD_BadNumber : Addr}
    {KD_BadText : Addr}
    {KD_BadHeard : Addr}
    {KT_DEEDS : Addr} {es_DEEDS : Array DictEntry} {nn_DEEDS : Nat}
    {KW_PLAIN_WORDS : Addr} {wi_PLAIN_WORDS : Array Value} {wn_PLAIN_WORDS : Nat} {ws_PLAIN_WORDS : Array (Option Value)}
    {t0 : Tok}
    {t1 : Tok}
    {t2 : Tok}
    {t3 : Tok}
    {t4 : Tok}
    {t5 : Tok}
    {t6 : Tok}
    {t7 : Tok}
    {t8 : Tok}
    {t9 : Tok}
    {t10 : Tok}
    {t11 : Tok}
    {t12 : Tok}
    {t13 : Tok}
    {t14 : Tok}
    {t15 : Tok}
    (a0 : PySem.W.nsIn K mainGlobals "is_list" = some (some (.ref f0))) (l0 : K.lookup f0 = some ⟨oc0, od0, .func (PySem.W.fnOf "is_list" "is_list" (defArgs s_is_list) (defBody s_is_list) (defScope s_is_list) .none kV0 dc0 pm0 an0 cd0 ct0), sl0⟩) (c0 : PySem.W.codeIn K cd0 "is_list" = true) (k0 : PySem.W.keepIn K (.ref f0) = true)
    (a1 : PySem.W.nsIn K mainGlobals "is_integer" = some (some (.ref f1))) (l1 : K.lookup f1 = some ⟨oc1, od1, .func (PySem.W.fnOf "is_integer" "is_integer" (defArgs s_is_integer) (defBody s_is_integer) (defScope s_is_integer) .none kV1 dc1 pm1 an1 cd1 ct1), sl1⟩) (c1 : PySem.W.codeIn K cd1 "is_integer" = true) (k1 : PySem.W.keepIn K (.ref f1) = true)
    (a2 : PySem.W.nsIn K mainGlobals "is_within" = some (some (.ref f2))) (l2 : K.lookup f2 = some ⟨oc2, od2, .func (PySem.W.fnOf "is_within" "is_within" (defArgs s_is_within) (defBody s_is_within) (defScope s_is_within) .none kV2 dc2 pm2 an2 cd2 ct2), sl2⟩) (c2 : PySem.W.codeIn K cd2 "is_within" = true) (k2 : PySem.W.keepIn K (.ref f2) = true)
    (a3 : PySem.W.nsIn K mainGlobals "are_integers" = some (some (.ref f3))) (l3 : K.lookup f3 = some ⟨oc3, od3, .func (PySem.W.fnOf "are_integers" "are_integers" (defArgs s_are_integers) (defBody s_are_integers) (defScope s_are_integers) .none kV3 dc3 pm3 an3 cd3 ct3), sl3⟩) (c3 : PySem.W.codeIn K cd3 "are_integers" = true) (k3 : PySem.W.keepIn K (.ref f3) = true)
    (a4 : PySem.W.nsIn K mainGlobals "are_letters" = some (some (.ref f4))) (l4 : K.lookup f4 = some ⟨oc4, od4, .func (PySem.W.fnOf "are_letters" "are_letters" (defArgs s_are_letters) (defBody s_are_letters) (defScope s_are_letters) .none kV4 dc4 pm4 an4 cd4 ct4), sl4⟩) (c4 : PySem.W.codeIn K cd4 "are_letters" = true) (k4 : PySem.W.keepIn K (.ref f4) = true)
    (a5 : PySem.W.nsIn K mainGlobals "is_word" = some (some (.ref f5))) (l5 : K.lookup f5 = some ⟨oc5, od5, .func (PySem.W.fnOf "is_word" "is_word" (defArgs s_is_word) (defBody s_is_word) (defScope s_is_word) .none kV5 dc5 pm5 an5 cd5 ct5), sl5⟩) (c5 : PySem.W.codeIn K cd5 "is_word" = true) (k5 : PySem.W.keepIn K (.ref f5) = true)
    (a6 : PySem.W.nsIn K mainGlobals "is_text" = some (some (.ref f6))) (l6 : K.lookup f6 = some ⟨oc6, od6, .func (PySem.W.fnOf "is_text" "is_text" (defArgs s_is_text) (defBody s_is_text) (defScope s_is_text) .none kV6 dc6 pm6 an6 cd6 ct6), sl6⟩) (c6 : PySem.W.codeIn K cd6 "is_text" = true) (k6 : PySem.W.keepIn K (.ref f6) = true)
    (a7 : PySem.W.nsIn K mainGlobals "are_words" = some (some (.ref f7))) (l7 : K.lookup f7 = some ⟨oc7, od7, .func (PySem.W.fnOf "are_words" "are_words" (defArgs s_are_words) (defBody s_are_words) (defScope s_are_words) .none kV7 dc7 pm7 an7 cd7 ct7), sl7⟩) (c7 : PySem.W.codeIn K cd7 "are_words" = true) (k7 : PySem.W.keepIn K (.ref f7) = true)
    (a8 : PySem.W.nsIn K mainGlobals "read" = some (some (.ref f8))) (l8 : K.lookup f8 = some ⟨oc8, od8, .func (PySem.W.fnOf "read" "read" (defArgs s_read) (defBody s_read) (defScope s_read) .none kV8 dc8 pm8 an8 cd8 ct8), sl8⟩) (c8 : PySem.W.codeIn K cd8 "read" = true) (k8 : PySem.W.keepIn K (.ref f8) = true)
    (a9 : PySem.W.nsIn K mainGlobals "outset" = some (some (.ref f9))) (l9 : K.lookup f9 = some ⟨oc9, od9, .func (PySem.W.fnOf "outset" "outset" (defArgs s_outset) (defBody s_outset) (defScope s_outset) .none kV9 dc9 pm9 an9 cd9 ct9), sl9⟩) (c9 : PySem.W.codeIn K cd9 "outset" = true) (k9 : PySem.W.keepIn K (.ref f9) = true)
    (a10 : PySem.W.nsIn K mainGlobals "uplift" = some (some (.ref f10))) (l10 : K.lookup f10 = some ⟨oc10, od10, .func (PySem.W.fnOf "uplift" "uplift" (defArgs s_uplift) (defBody s_uplift) (defScope s_uplift) .none kV10 dc10 pm10 an10 cd10 ct10), sl10⟩) (c10 : PySem.W.codeIn K cd10 "uplift" = true) (k10 : PySem.W.keepIn K (.ref f10) = true)
    (a11 : PySem.W.nsIn K mainGlobals "advance" = some (some (.ref f11))) (l11 : K.lookup f11 = some ⟨oc11, od11, .func (PySem.W.fnOf "advance" "advance" (defArgs s_advance) (defBody s_advance) (defScope s_advance) .none kV11 dc11 pm11 an11 cd11 ct11), sl11⟩) (c11 : PySem.W.codeIn K cd11 "advance" = true) (k11 : PySem.W.keepIn K (.ref f11) = true)
    (a12 : PySem.W.nsIn K mainGlobals "prepare" = some (some (.ref f12))) (l12 : K.lookup f12 = some ⟨oc12, od12, .func (PySem.W.fnOf "prepare" "prepare" (defArgs s_prepare) (defBody s_prepare) (defScope s_prepare) .none kV12 dc12 pm12 an12 cd12 ct12), sl12⟩) (c12 : PySem.W.codeIn K cd12 "prepare" = true) (k12 : PySem.W.keepIn K (.ref f12) = true)
    (a13 : PySem.W.nsIn K mainGlobals "augment" = some (some (.ref f13))) (l13 : K.lookup f13 = some ⟨oc13, od13, .func (PySem.W.fnOf "augment" "augment" (defArgs s_augment) (defBody s_augment) (defScope s_augment) .none kV13 dc13 pm13 an13 cd13 ct13), sl13⟩) (c13 : PySem.W.codeIn K cd13 "augment" = true) (k13 : PySem.W.keepIn K (.ref f13) = true)
    (a14 : PySem.W.nsIn K mainGlobals "lessen" = some (some (.ref f14))) (l14 : K.lookup f14 = some ⟨oc14, od14, .func (PySem.W.fnOf "lessen" "lessen" (defArgs s_lessen) (defBody s_lessen) (defScope s_lessen) .none kV14 dc14 pm14 an14 cd14 ct14), sl14⟩) (c14 : PySem.W.codeIn K cd14 "lessen" = true) (k14 : PySem.W.keepIn K (.ref f14) = true)
    (a15 : PySem.W.nsIn K mainGlobals "multiply" = some (some (.ref f15))) (l15 : K.lookup f15 = some ⟨oc15, od15, .func (PySem.W.fnOf "multiply" "multiply" (defArgs s_multiply) (defBody s_multiply) (defScope s_multiply) .none kV15 dc15 pm15 an15 cd15 ct15), sl15⟩) (c15 : PySem.W.codeIn K cd15 "multiply" = true) (k15 : PySem.W.keepIn K (.ref f15) = true)
    (a16 : PySem.W.nsIn K mainGlobals "portion" = some (some (.ref f16))) (l16 : K.lookup f16 = some ⟨oc16, od16, .func (PySem.W.fnOf "portion" "portion" (defArgs s_portion) (defBody s_portion) (defScope s_portion) .none kV16 dc16 pm16 an16 cd16 ct16), sl16⟩) (c16 : PySem.W.codeIn K cd16 "portion" = true) (k16 : PySem.W.keepIn K (.ref f16) = true)
    (a17 : PySem.W.nsIn K mainGlobals "exchange" = some (some (.ref f17))) (l17 : K.lookup f17 = some ⟨oc17, od17, .func (PySem.W.fnOf "exchange" "exchange" (defArgs s_exchange) (defBody s_exchange) (defScope s_exchange) .none kV17 dc17 pm17 an17 cd17 ct17), sl17⟩) (c17 : PySem.W.codeIn K cd17 "exchange" = true) (k17 : PySem.W.keepIn K (.ref f17) = true)
    (a18 : PySem.W.nsIn K mainGlobals "inquire" = some (some (.ref f18))) (l18 : K.lookup f18 = some ⟨oc18, od18, .func (PySem.W.fnOf "inquire" "inquire" (defArgs s_inquire) (defBody s_inquire) (defScope s_inquire) .none kV18 dc18 pm18 an18 cd18 ct18), sl18⟩) (c18 : PySem.W.codeIn K cd18 "inquire" = true) (k18 : PySem.W.keepIn K (.ref f18) = true)
    (a19 : PySem.W.nsIn K mainGlobals "proclaim" = some (some (.ref f19))) (l19 : K.lookup f19 = some ⟨oc19, od19, .func (PySem.W.fnOf "proclaim" "proclaim" (defArgs s_proclaim) (defBody s_proclaim) (defScope s_proclaim) .none kV19 dc19 pm19 an19 cd19 ct19), sl19⟩) (c19 : PySem.W.codeIn K cd19 "proclaim" = true) (k19 : PySem.W.keepIn K (.ref f19) = true)
    (a20 : PySem.W.nsIn K mainGlobals "obtain" = some (some (.ref f20))) (l20 : K.lookup f20 = some ⟨oc20, od20, .func (PySem.W.fnOf "obtain" "obtain" (defArgs s_obtain) (defBody s_obtain) (defScope s_obtain) .none kV20 dc20 pm20 an20 cd20 ct20), sl20⟩) (c20 : PySem.W.codeIn K cd20 "obtain" = true) (k20 : PySem.W.keepIn K (.ref f20) = true)
    (a21 : PySem.W.nsIn K mainGlobals "nothing" = some (some (.ref f21))) (l21 : K.lookup f21 = some ⟨oc21, od21, .func (PySem.W.fnOf "nothing" "nothing" (defArgs s_nothing) (defBody s_nothing) (defScope s_nothing) .none kV21 dc21 pm21 an21 cd21 ct21), sl21⟩) (c21 : PySem.W.codeIn K cd21 "nothing" = true) (k21 : PySem.W.keepIn K (.ref f21) = true)
    (a22 : PySem.W.nsIn K mainGlobals "duplicate" = some (some (.ref f22))) (l22 : K.lookup f22 = some ⟨oc22, od22, .func (PySem.W.fnOf "duplicate" "duplicate" (defArgs s_duplicate) (defBody s_duplicate) (defScope s_duplicate) .none kV22 dc22 pm22 an22 cd22 ct22), sl22⟩) (c22 : PySem.W.codeIn K cd22 "duplicate" = true) (k22 : PySem.W.keepIn K (.ref f22) = true)
    (a23 : PySem.W.nsIn K mainGlobals "deposit" = some (some (.ref f23))) (l23 : K.lookup f23 = some ⟨oc23, od23, .func (PySem.W.fnOf "deposit" "deposit" (defArgs s_deposit) (defBody s_deposit) (defScope s_deposit) .none kV23 dc23 pm23 an23 cd23 ct23), sl23⟩) (c23 : PySem.W.codeIn K cd23 "deposit" = true) (k23 : PySem.W.keepIn K (.ref f23) = true)
    (a24 : PySem.W.nsIn K mainGlobals "whether" = some (some (.ref f24))) (l24 : K.lookup f24 = some ⟨oc24, od24, .func (PySem.W.fnOf "whether" "whether" (defArgs s_whether) (defBody s_whether) (defScope s_whether) .none kV24 dc24 pm24 an24 cd24 ct24), sl24⟩) (c24 : PySem.W.codeIn K cd24 "whether" = true) (k24 : PySem.W.keepIn K (.ref f24) = true)
    (a25 : PySem.W.nsIn K mainGlobals "negative" = some (some (.ref f25))) (l25 : K.lookup f25 = some ⟨oc25, od25, .func (PySem.W.fnOf "negative" "negative" (defArgs s_negative) (defBody s_negative) (defScope s_negative) .none kV25 dc25 pm25 an25 cd25 ct25), sl25⟩) (c25 : PySem.W.codeIn K cd25 "negative" = true) (k25 : PySem.W.keepIn K (.ref f25) = true)
    (a26 : PySem.W.nsIn K mainGlobals "journey" = some (some (.ref f26))) (l26 : K.lookup f26 = some ⟨oc26, od26, .func (PySem.W.fnOf "journey" "journey" (defArgs s_journey) (defBody s_journey) (defScope s_journey) .none kV26 dc26 pm26 an26 cd26 ct26), sl26⟩) (c26 : PySem.W.codeIn K cd26 "journey" = true) (k26 : PySem.W.keepIn K (.ref f26) = true)
    (a27 : PySem.W.nsIn K mainGlobals "finish" = some (some (.ref f27))) (l27 : K.lookup f27 = some ⟨oc27, od27, .func (PySem.W.fnOf "finish" "finish" (defArgs s_finish) (defBody s_finish) (defScope s_finish) .none kV27 dc27 pm27 an27 cd27 ct27), sl27⟩) (c27 : PySem.W.codeIn K cd27 "finish" = true) (k27 : PySem.W.keepIn K (.ref f27) = true)
    (a28 : PySem.W.nsIn K mainGlobals "may_do" = some (some (.ref f28))) (l28 : K.lookup f28 = some ⟨oc28, od28, .func (PySem.W.fnOf "may_do" "may_do" (defArgs s_may_do) (defBody s_may_do) (defScope s_may_do) .none kV28 dc28 pm28 an28 cd28 ct28), sl28⟩) (c28 : PySem.W.codeIn K cd28 "may_do" = true) (k28 : PySem.W.keepIn K (.ref f28) = true)
    (a29 : PySem.W.nsIn K mainGlobals "do_word" = some (some (.ref f29))) (l29 : K.lookup f29 = some ⟨oc29, od29, .func (PySem.W.fnOf "do_word" "do_word" (defArgs s_do_word) (defBody s_do_word) (defScope s_do_word) .none kV29 dc29 pm29 an29 cd29 ct29), sl29⟩) (c29 : PySem.W.codeIn K cd29 "do_word" = true) (k29 : PySem.W.keepIn K (.ref f29) = true)
    (a30 : PySem.W.nsIn K mainGlobals "do_row" = some (some (.ref f30))) (l30 : K.lookup f30 = some ⟨oc30, od30, .func (PySem.W.fnOf "do_row" "do_row" (defArgs s_do_row) (defBody s_do_row) (defScope s_do_row) .none kV30 dc30 pm30 an30 cd30 ct30), sl30⟩) (c30 : PySem.W.codeIn K cd30 "do_row" = true) (k30 : PySem.W.keepIn K (.ref f30) = true)
    (a31 : PySem.W.nsIn K mainGlobals "behind_words" = some (some (.ref f31))) (l31 : K.lookup f31 = some ⟨oc31, od31, .func (PySem.W.fnOf "behind_words" "behind_words" (defArgs s_behind_words) (defBody s_behind_words) (defScope s_behind_words) .none kV31 dc31 pm31 an31 cd31 ct31), sl31⟩) (c31 : PySem.W.codeIn K cd31 "behind_words" = true) (k31 : PySem.W.keepIn K (.ref f31) = true)
    (a32 : PySem.W.nsIn K mainGlobals "thinned" = some (some (.ref f32))) (l32 : K.lookup f32 = some ⟨oc32, od32, .func (PySem.W.fnOf "thinned" "thinned" (defArgs s_thinned) (defBody s_thinned) (defScope s_thinned) .none kV32 dc32 pm32 an32 cd32 ct32), sl32⟩) (c32 : PySem.W.codeIn K cd32 "thinned" = true) (k32 : PySem.W.keepIn K (.ref f32) = true)
    (a33 : PySem.W.nsIn K mainGlobals "stretches_of" = some (some (.ref f33))) (l33 : K.lookup f33 = some ⟨oc33, od33, .func (PySem.W.fnOf "stretches_of" "stretches_of" (defArgs s_stretches_of) (defBody s_stretches_of) (defScope s_stretches_of) .none kV33 dc33 pm33 an33 cd33 ct33), sl33⟩) (c33 : PySem.W.codeIn K cd33 "stretches_of" = true) (k33 : PySem.W.keepIn K (.ref f33) = true)
    (a34 : PySem.W.nsIn K mainGlobals "do_pass" = some (some (.ref f34))) (l34 : K.lookup f34 = some ⟨oc34, od34, .func (PySem.W.fnOf "do_pass" "do_pass" (defArgs s_do_pass) (defBody s_do_pass) (defScope s_do_pass) .none kV34 dc34 pm34 an34 cd34 ct34), sl34⟩) (c34 : PySem.W.codeIn K cd34 "do_pass" = true) (k34 : PySem.W.keepIn K (.ref f34) = true)
    (a35 : PySem.W.nsIn K mainGlobals "plain_book" = some (some (.ref f35))) (l35 : K.lookup f35 = some ⟨oc35, od35, .func (PySem.W.fnOf "plain_book" "plain_book" (defArgs s_plain_book) (defBody s_plain_book) (defScope s_plain_book) .none kV35 dc35 pm35 an35 cd35 ct35), sl35⟩) (c35 : PySem.W.codeIn K cd35 "plain_book" = true) (k35 : PySem.W.keepIn K (.ref f35) = true)
    (a36 : PySem.W.nsIn K mainGlobals "check_run" = some (some (.ref f36))) (l36 : K.lookup f36 = some ⟨oc36, od36, .func (PySem.W.fnOf "check_run" "check_run" (defArgs s_check_run) (defBody s_check_run) (defScope s_check_run) .none kV36 dc36 pm36 an36 cd36 ct36), sl36⟩) (c36 : PySem.W.codeIn K cd36 "check_run" = true) (k36 : PySem.W.keepIn K (.ref f36) = true)
    (a37 : PySem.W.nsIn K mainGlobals "stand_parts" = some (some (.ref f37))) (l37 : K.lookup f37 = some ⟨oc37, od37, .func (PySem.W.fnOf "stand_parts" "stand_parts" (defArgs s_stand_parts) (defBody s_stand_parts) (defScope s_stand_parts) .none kV37 dc37 pm37 an37 cd37 ct37), sl37⟩) (c37 : PySem.W.codeIn K cd37 "stand_parts" = true) (k37 : PySem.W.keepIn K (.ref f37) = true)
    (a38 : PySem.W.nsIn K mainGlobals "parted_at" = some (some (.ref f38))) (l38 : K.lookup f38 = some ⟨oc38, od38, .func (PySem.W.fnOf "parted_at" "parted_at" (defArgs s_parted_at) (defBody s_parted_at) (defScope s_parted_at) .none kV38 dc38 pm38 an38 cd38 ct38), sl38⟩) (c38 : PySem.W.codeIn K cd38 "parted_at" = true) (k38 : PySem.W.keepIn K (.ref f38) = true)
    (a39 : PySem.W.nsIn K mainGlobals "_law_fork" = some (some (.ref f39))) (l39 : K.lookup f39 = some ⟨oc39, od39, .func (PySem.W.fnOf "_law_fork" "_law_fork" (defArgs s_law_fork) (defBody s_law_fork) (defScope s_law_fork) .none kV39 dc39 pm39 an39 cd39 ct39), sl39⟩) (c39 : PySem.W.codeIn K cd39 "_law_fork" = true) (k39 : PySem.W.keepIn K (.ref f39) = true)
    (a40 : PySem.W.nsIn K mainGlobals "_law_tine" = some (some (.ref f40))) (l40 : K.lookup f40 = some ⟨oc40, od40, .func (PySem.W.fnOf "_law_tine" "_law_tine" (defArgs s_law_tine) (defBody s_law_tine) (defScope s_law_tine) .none kV40 dc40 pm40 an40 cd40 ct40), sl40⟩) (c40 : PySem.W.codeIn K cd40 "_law_tine" = true) (k40 : PySem.W.keepIn K (.ref f40) = true)
    (a41 : PySem.W.nsIn K mainGlobals "_law_one_of" = some (some (.ref f41))) (l41 : K.lookup f41 = some ⟨oc41, od41, .func (PySem.W.fnOf "_law_one_of" "_law_one_of" (defArgs s_law_one_of) (defBody s_law_one_of) (defScope s_law_one_of) .none kV41 dc41 pm41 an41 cd41 ct41), sl41⟩) (c41 : PySem.W.codeIn K cd41 "_law_one_of" = true) (k41 : PySem.W.keepIn K (.ref f41) = true)
    (a42 : PySem.W.nsIn K mainGlobals "_law_vocabulary" = some (some (.ref f42))) (l42 : K.lookup f42 = some ⟨oc42, od42, .func (PySem.W.fnOf "_law_vocabulary" "_law_vocabulary" (defArgs s_law_vocabulary) (defBody s_law_vocabulary) (defScope s_law_vocabulary) .none kV42 dc42 pm42 an42 cd42 ct42), sl42⟩) (c42 : PySem.W.codeIn K cd42 "_law_vocabulary" = true) (k42 : PySem.W.keepIn K (.ref f42) = true)
    (a43 : PySem.W.nsIn K mainGlobals "_law_begun" = some (some (.ref f43))) (l43 : K.lookup f43 = some ⟨oc43, od43, .func (PySem.W.fnOf "_law_begun" "_law_begun" (defArgs s_law_begun) (defBody s_law_begun) (defScope s_law_begun) .none kV43 dc43 pm43 an43 cd43 ct43), sl43⟩) (c43 : PySem.W.codeIn K cd43 "_law_begun" = true) (k43 : PySem.W.keepIn K (.ref f43) = true)
    (a44 : PySem.W.nsIn K mainGlobals "_law_flagged" = some (some (.ref f44))) (l44 : K.lookup f44 = some ⟨oc44, od44, .func (PySem.W.fnOf "_law_flagged" "_law_flagged" (defArgs s_law_flagged) (defBody s_law_flagged) (defScope s_law_flagged) .none kV44 dc44 pm44 an44 cd44 ct44), sl44⟩) (c44 : PySem.W.codeIn K cd44 "_law_flagged" = true) (k44 : PySem.W.keepIn K (.ref f44) = true)
    (a45 : PySem.W.nsIn K mainGlobals "_law_bare" = some (some (.ref f45))) (l45 : K.lookup f45 = some ⟨oc45, od45, .func (PySem.W.fnOf "_law_bare" "_law_bare" (defArgs s_law_bare) (defBody s_law_bare) (defScope s_law_bare) .none kV45 dc45 pm45 an45 cd45 ct45), sl45⟩) (c45 : PySem.W.codeIn K cd45 "_law_bare" = true) (k45 : PySem.W.keepIn K (.ref f45) = true)
    (a46 : PySem.W.nsIn K mainGlobals "_law_do" = some (some (.ref f46))) (l46 : K.lookup f46 = some ⟨oc46, od46, .func (PySem.W.fnOf "_law_do" "_law_do" (defArgs s_law_do) (defBody s_law_do) (defScope s_law_do) .none kV46 dc46 pm46 an46 cd46 ct46), sl46⟩) (c46 : PySem.W.codeIn K cd46 "_law_do" = true) (k46 : PySem.W.keepIn K (.ref f46) = true)
    (a47 : PySem.W.nsIn K mainGlobals "_law_read" = some (some (.ref f47))) (l47 : K.lookup f47 = some ⟨oc47, od47, .func (PySem.W.fnOf "_law_read" "_law_read" (defArgs s_law_read) (defBody s_law_read) (defScope s_law_read) .none kV47 dc47 pm47 an47 cd47 ct47), sl47⟩) (c47 : PySem.W.codeIn K cd47 "_law_read" = true) (k47 : PySem.W.keepIn K (.ref f47) = true)
    (a48 : PySem.W.nsIn K mainGlobals "_law_seen" = some (some (.ref f48))) (l48 : K.lookup f48 = some ⟨oc48, od48, .func (PySem.W.fnOf "_law_seen" "_law_seen" (defArgs s_law_seen) (defBody s_law_seen) (defScope s_law_seen) .none kV48 dc48 pm48 an48 cd48 ct48), sl48⟩) (c48 : PySem.W.codeIn K cd48 "_law_seen" = true) (k48 : PySem.W.keepIn K (.ref f48) = true)
    (a49 : PySem.W.nsIn K mainGlobals "_law_heard" = some (some (.ref f49))) (l49 : K.lookup f49 = some ⟨oc49, od49, .func (PySem.W.fnOf "_law_heard" "_law_heard" (defArgs s_law_heard) (defBody s_law_heard) (defScope s_law_heard) .none kV49 dc49 pm49 an49 cd49 ct49), sl49⟩) (c49 : PySem.W.codeIn K cd49 "_law_heard" = true) (k49 : PySem.W.keepIn K (.ref f49) = true)
    (a50 : PySem.W.nsIn K mainGlobals "_law_any" = some (some (.ref f50))) (l50 : K.lookup f50 = some ⟨oc50, od50, .func (PySem.W.fnOf "_law_any" "_law_any" (defArgs s_law_any) (defBody s_law_any) (defScope s_law_any) .none kV50 dc50 pm50 an50 cd50 ct50), sl50⟩) (c50 : PySem.W.codeIn K cd50 "_law_any" = true) (k50 : PySem.W.keepIn K (.ref f50) = true)
    (a51 : PySem.W.nsIn K mainGlobals "_law_row" = some (some (.ref f51))) (l51 : K.lookup f51 = some ⟨oc51, od51, .func (PySem.W.fnOf "_law_row" "_law_row" (defArgs s_law_row) (defBody s_law_row) (defScope s_law_row) .none kV51 dc51 pm51 an51 cd51 ct51), sl51⟩) (c51 : PySem.W.codeIn K cd51 "_law_row" = true) (k51 : PySem.W.keepIn K (.ref f51) = true)
    (a52 : PySem.W.nsIn K mainGlobals "_law_items" = some (some (.ref f52))) (l52 : K.lookup f52 = some ⟨oc52, od52, .func (PySem.W.fnOf "_law_items" "_law_items" (defArgs s_law_items) (defBody s_law_items) (defScope s_law_items) .none kV52 dc52 pm52 an52 cd52 ct52), sl52⟩) (c52 : PySem.W.codeIn K cd52 "_law_items" = true) (k52 : PySem.W.keepIn K (.ref f52) = true)
    (a53 : PySem.W.nsIn K mainGlobals "_law_parted" = some (some (.ref f53))) (l53 : K.lookup f53 = some ⟨oc53, od53, .func (PySem.W.fnOf "_law_parted" "_law_parted" (defArgs s_law_parted) (defBody s_law_parted) (defScope s_law_parted) .none kV53 dc53 pm53 an53 cd53 ct53), sl53⟩) (c53 : PySem.W.codeIn K cd53 "_law_parted" = true) (k53 : PySem.W.keepIn K (.ref f53) = true)
    (a54 : PySem.W.nsIn K mainGlobals "law" = some (some (.ref f54))) (l54 : K.lookup f54 = some ⟨oc54, od54, .func (PySem.W.fnOf "law" "law" (defArgs s_law) (defBody s_law) (defScope s_law) .none kV54 dc54 pm54 an54 cd54 ct54), sl54⟩) (c54 : PySem.W.codeIn K cd54 "law" = true) (k54 : PySem.W.keepIn K (.ref f54) = true)
    (ca_Book : PySem.W.nsIn K mainGlobals "Book" = some (some (.ref KC_Book)))
    (cp_Book : PySem.W.plainGet K KC_Book Str.empty = true)
    (cd_Book : PySem.W.hasDictIn K KC_Book = true)
    (co_Book : PySem.W.plainOver K KC_Book = true)
    (cs_Book : PySem.W.findIn K (.ref KC_Book) "__setattr__" = some (some (.builtin "object.__setattr__")))
    (cm_Book : PySem.W.makesIn K KC_Book = true)
    (ck_Book : PySem.W.keepIn K (.ref KC_Book) = true)
    (cb_Book : PySem.W.mroIn K KC_Book (.type "object") = some true)
    (cn_Book : PySem.W.findIn K (.ref KC_Book) "__ne__" = some (some (.builtin "object.__ne__")))
    (cc_Book : PySem.W.findIn K (.ref KC_Book) "__class__" = some (some (.builtin "object.__class__")))
    (cg_Book : PySem.W.specialIn K (.builtin "object.__class__") "__get__" = some (some (.builtin "getset_descriptor.__get__")))
    (ct_Book : PySem.W.takesIn K (.builtin "object.__class__") = some true)
    (ci_Book : PySem.W.isClsIn K KC_Book = true)
    (cy_Book : PySem.W.typeIn K (.ref KC_Book) = some (.type "type"))
    (cx_Book_words : PySem.W.findIn K (.ref KC_Book) "words" = some none)
    (ca_Work : PySem.W.nsIn K mainGlobals "Work" = some (some (.ref KC_Work)))
    (cp_Work : PySem.W.plainGet K KC_Work Str.empty = true)
    (cd_Work : PySem.W.hasDictIn K KC_Work = true)
    (co_Work : PySem.W.plainOver K KC_Work = true)
    (cs_Work : PySem.W.findIn K (.ref KC_Work) "__setattr__" = some (some (.builtin "object.__setattr__")))
    (cm_Work : PySem.W.makesIn K KC_Work = true)
    (ck_Work : PySem.W.keepIn K (.ref KC_Work) = true)
    (cb_Work : PySem.W.mroIn K KC_Work (.type "object") = some true)
    (cn_Work : PySem.W.findIn K (.ref KC_Work) "__ne__" = some (some (.builtin "object.__ne__")))
    (cc_Work : PySem.W.findIn K (.ref KC_Work) "__class__" = some (some (.builtin "object.__class__")))
    (cg_Work : PySem.W.specialIn K (.builtin "object.__class__") "__get__" = some (some (.builtin "getset_descriptor.__get__")))
    (ct_Work : PySem.W.takesIn K (.builtin "object.__class__") = some true)
    (ci_Work : PySem.W.isClsIn K KC_Work = true)
    (cy_Work : PySem.W.typeIn K (.ref KC_Work) = some (.type "type"))
    (cx_Work_numbers : PySem.W.findIn K (.ref KC_Work) "numbers" = some none)
    (cx_Work_block : PySem.W.findIn K (.ref KC_Work) "block" = some none)
    (cx_Work_room : PySem.W.findIn K (.ref KC_Work) "room" = some none)
    (cx_Work_tick : PySem.W.findIn K (.ref KC_Work) "tick" = some none)
    (cx_Work_flag : PySem.W.findIn K (.ref KC_Work) "flag" = some none)
    (cx_Work_test : PySem.W.findIn K (.ref KC_Work) "test" = some none)
    (cx_Work_mode : PySem.W.findIn K (.ref KC_Work) "mode" = some none)
    (cx_Work_first : PySem.W.findIn K (.ref KC_Work) "first" = some none)
    (cx_Work_second : PySem.W.findIn K (.ref KC_Work) "second" = some none)
    (cx_Work_cells : PySem.W.findIn K (.ref KC_Work) "cells" = some none)
    (cx_Work_heard : PySem.W.findIn K (.ref KC_Work) "heard" = some none)
    (cx_Work_said : PySem.W.findIn K (.ref KC_Work) "said" = some none)
    (cx_Work_is_done : PySem.W.findIn K (.ref KC_Work) "is_done" = some none)
    (ca_Course : PySem.W.nsIn K mainGlobals "Course" = some (some (.ref KC_Course)))
    (cp_Course : PySem.W.plainGet K KC_Course Str.empty = true)
    (cd_Course : PySem.W.hasDictIn K KC_Course = true)
    (co_Course : PySem.W.plainOver K KC_Course = true)
    (cs_Course : PySem.W.findIn K (.ref KC_Course) "__setattr__" = some (some (.builtin "object.__setattr__")))
    (cm_Course : PySem.W.makesIn K KC_Course = true)
    (ck_Course : PySem.W.keepIn K (.ref KC_Course) = true)
    (cb_Course : PySem.W.mroIn K KC_Course (.type "object") = some true)
    (cn_Course : PySem.W.findIn K (.ref KC_Course) "__ne__" = some (some (.builtin "object.__ne__")))
    (cc_Course : PySem.W.findIn K (.ref KC_Course) "__class__" = some (some (.builtin "object.__class__")))
    (cg_Course : PySem.W.specialIn K (.builtin "object.__class__") "__get__" = some (some (.builtin "getset_descriptor.__get__")))
    (ct_Course : PySem.W.takesIn K (.builtin "object.__class__") = some true)
    (ci_Course : PySem.W.isClsIn K KC_Course = true)
    (cy_Course : PySem.W.typeIn K (.ref KC_Course) = some (.type "type"))
    (cx_Course_row : PySem.W.findIn K (.ref KC_Course) "row" = some none)
    (cx_Course_is_steady : PySem.W.findIn K (.ref KC_Course) "is_steady" = some none)
    (cx_Course_stretches : PySem.W.findIn K (.ref KC_Course) "stretches" = some none)
    (cx_Course_last_pair : PySem.W.findIn K (.ref KC_Course) "last_pair" = some none)
    (da_TooMany : PySem.W.nsIn K mainGlobals "TooMany" = some (some (.ref KD_TooMany)))
    (di_TooMany : PySem.W.isClsIn K KD_TooMany = true)
    (dy_TooMany : PySem.W.typeIn K (.ref KD_TooMany) = some (.type "type"))
    (da_BadNumber : PySem.W.nsIn K mainGlobals "BadNumber" = some (some (.ref KD_BadNumber)))
    (di_BadNumber : PySem.W.isClsIn K KD_BadNumber = true)
    (dy_BadNumber : PySem.W.typeIn K (.ref KD_BadNumber) = some (.type "type"))
    (da_BadText : PySem.W.nsIn K mainGlobals "BadText" = some (some (.ref KD_BadText)))
    (di_BadText : PySem.W.isClsIn K KD_BadText = true)
    (dy_BadText : PySem.W.typeIn K (.ref KD_BadText) = some (.type "type"))
    (da_BadHeard : PySem.W.nsIn K mainGlobals "BadHeard" = some (some (.ref KD_BadHeard)))
    (di_BadHeard : PySem.W.isClsIn K KD_BadHeard = true)
    (dy_BadHeard : PySem.W.typeIn K (.ref KD_BadHeard) = some (.type "type"))
    (ds_BadNumber_TooMany : PySem.W.subIn K (.ref KD_BadNumber) (.ref KD_TooMany) = some false)
    (ds_BadNumber_BadNumber : PySem.W.subIn K (.ref KD_BadNumber) (.ref KD_BadNumber) = some true)
    (ds_BadNumber_BadText : PySem.W.subIn K (.ref KD_BadNumber) (.ref KD_BadText) = some false)
    (ds_BadNumber_BadHeard : PySem.W.subIn K (.ref KD_BadNumber) (.ref KD_BadHeard) = some false)
    (ds_BadText_TooMany : PySem.W.subIn K (.ref KD_BadText) (.ref KD_TooMany) = some false)
    (ds_BadText_BadNumber : PySem.W.subIn K (.ref KD_BadText) (.ref KD_BadNumber) = some false)
    (ds_BadText_BadText : PySem.W.subIn K (.ref KD_BadText) (.ref KD_BadText) = some true)
    (ds_BadText_BadHeard : PySem.W.subIn K (.ref KD_BadText) (.ref KD_BadHeard) = some false)
    (ds_BadHeard_TooMany : PySem.W.subIn K (.ref KD_BadHeard) (.ref KD_TooMany) = some false)
    (ds_BadHeard_BadNumber : PySem.W.subIn K (.ref KD_BadHeard) (.ref KD_BadNumber) = some false)
    (ds_BadHeard_BadText : PySem.W.subIn K (.ref KD_BadHeard) (.ref KD_BadText) = some false)
    (ds_BadHeard_BadHeard : PySem.W.subIn K (.ref KD_BadHeard) (.ref KD_BadHeard) = some true)
    (ds_Book_Book : PySem.W.subIn K (.ref KC_Book) (.ref KC_Book) = some true)
    (ma0 : PySem.W.findIn K (.ref KC_Book) "__init__" = some (some (.ref mf0))) (mi0 : PySem.W.isFn K (.ref mf0) = true) (ml0 : K.lookup mf0 = some ⟨moc0, mod0, .func (PySem.W.fnOf "__init__" "Book.__init__" (defArgs s_Book_init) (defBody s_Book_init) (defScope s_Book_init) .none mkV0 mdc0 mpm0 man0 mcd0 mct0), msl0⟩) (mc0 : PySem.W.codeIn K mcd0 "Book.__init__" = true) (mk0 : PySem.W.keepIn K (.ref mf0) = true)
    (ma1 : PySem.W.findIn K (.ref KC_Work) "__init__" = some (some (.ref mf1))) (mi1 : PySem.W.isFn K (.ref mf1) = true) (ml1 : K.lookup mf1 = some ⟨moc1, mod1, .func (PySem.W.fnOf "__init__" "Work.__init__" (defArgs s_Work_init) (defBody s_Work_init) (defScope s_Work_init) .none mkV1 mdc1 mpm1 man1 mcd1 mct1), msl1⟩) (mc1 : PySem.W.codeIn K mcd1 "Work.__init__" = true) (mk1 : PySem.W.keepIn K (.ref mf1) = true)
    (ma2 : PySem.W.findIn K (.ref KC_Course) "__init__" = some (some (.ref mf2))) (mi2 : PySem.W.isFn K (.ref mf2) = true) (ml2 : K.lookup mf2 = some ⟨moc2, mod2, .func (PySem.W.fnOf "__init__" "Course.__init__" (defArgs s_Course_init) (defBody s_Course_init) (defScope s_Course_init) .none mkV2 mdc2 mpm2 man2 mcd2 mct2), msl2⟩) (mc2 : PySem.W.codeIn K mcd2 "Course.__init__" = true) (mk2 : PySem.W.keepIn K (.ref mf2) = true)
    (z0 : PySem.W.nsIn K mainGlobals "isinstance" = some none)
    (z1 : PySem.W.nsIn K mainGlobals "list" = some none)
    (z2 : PySem.W.nsIn K mainGlobals "tuple" = some none)
    (z3 : PySem.W.nsIn K mainGlobals "int" = some none)
    (z4 : PySem.W.nsIn K mainGlobals "bool" = some none)
    (z5 : PySem.W.nsIn K mainGlobals "all" = some none)
    (z6 : PySem.W.nsIn K mainGlobals "str" = some none)
    (z7 : PySem.W.nsIn K mainGlobals "len" = some none)
    (z8 : PySem.W.nsIn K mainGlobals "set" = some none)
    (z9 : PySem.W.nsIn K mainGlobals "enumerate" = some none)
    (z10 : PySem.W.nsIn K mainGlobals "zip" = some none)
    (z11 : PySem.W.nsIn K mainGlobals "range" = some none)
    (z12 : PySem.W.nsIn K mainGlobals "abs" = some none)
    (z13 : PySem.W.nsIn K mainGlobals "dict" = some none)
    (z14 : PySem.W.nsIn K mainGlobals "sorted" = some none)
    (z15 : PySem.W.nsIn K mainGlobals "repr" = some none)
    (er_BadNumber : Er K mg "BadNumber" "BadNumber.__init__" s_BadNumber_init "LetterError")
    (er_BadText : Er K mg "BadText" "BadText.__init__" s_BadText_init "LetterError")
    (er_BadHeard : Er K mg "BadHeard" "BadHeard.__init__" s_BadHeard_init "LetterError")
    (er_BadBook : Er K mg "BadBook" "BadBook.__init__" s_BadBook_init "LetterError")
    (ta_DEEDS : PySem.W.nsIn K mainGlobals "DEEDS" = some (some (.ref KT_DEEDS))) (tl_DEEDS : K.lookup KT_DEEDS = some ⟨.type "dict", none, .dict es_DEEDS nn_DEEDS, #[]⟩) (tk_DEEDS : keysI es_DEEDS.toList = true) (tv_DEEDS : es_DEEDS.toList.map (fun e => (keyI e, e.val)) = [(some (0 : Int), Value.ref f9), (some (1 : Int), Value.ref f10), (some (2 : Int), Value.ref f11), (some (3 : Int), Value.ref f12), (some (4 : Int), Value.ref f13), (some (5 : Int), Value.ref f14), (some (6 : Int), Value.ref f15), (some (7 : Int), Value.ref f16), (some (8 : Int), Value.ref f17), (some (9 : Int), Value.ref f18), (some (10 : Int), Value.ref f19), (some (11 : Int), Value.ref f20), (some (20 : Int), Value.ref f21), (some (21 : Int), Value.ref f22), (some (22 : Int), Value.ref f23), (some (23 : Int), Value.ref f24), (some (24 : Int), Value.ref f25), (some (28 : Int), Value.ref f26), (some (29 : Int), Value.ref f27)])
    (wa_PLAIN_WORDS : PySem.W.nsIn K mainGlobals "PLAIN_WORDS" = some (some (.ref KW_PLAIN_WORDS))) (wl_PLAIN_WORDS : K.lookup KW_PLAIN_WORDS = some ⟨.type "tuple", none, .seq wi_PLAIN_WORDS wn_PLAIN_WORDS, ws_PLAIN_WORDS⟩) (wz_PLAIN_WORDS : wi_PLAIN_WORDS.size ≤ sizeLine) (wv_PLAIN_WORDS : Vals [.str "outset", .str "uplift", .str "advance", .str "prepare", .str "augment", .str "lessen", .str "multiply", .str "portion", .str "exchange", .str "inquire", .str "proclaim", .str "obtain", .str "cipher", .str "single", .str "couple", .str "tripled", .str "quarter", .str "fivefold", .str "hexagon", .str "weekday", .str "nothing", .str "duplicate", .str "deposit", .str "whether", .str "negative", .str "granted", .str "otherwise", .str "anyway", .str "journey", .str "finish"] wi_PLAIN_WORDS.toList)
    (q0 : PySem.W.nsIn K mainGlobals "MOST_LETTERS" = some (some (.int 12 t0)))
    (q1 : PySem.W.nsIn K mainGlobals "MOST_SIGNS" = some (some (.int 200000 t1)))
    (q2 : PySem.W.nsIn K mainGlobals "MOST_WORDS" = some (some (.int 40 t2)))
    (q3 : PySem.W.nsIn K mainGlobals "FIRST_HERE" = some (some (.int 3 t3)))
    (q4 : PySem.W.nsIn K mainGlobals "FIRST_OF_FLAG" = some (some (.int 4 t4)))
    (q5 : PySem.W.nsIn K mainGlobals "LAST_OF_FLAG" = some (some (.int 19 t5)))
    (q6 : PySem.W.nsIn K mainGlobals "FIRST_DIGIT" = some (some (.int 12 t6)))
    (q7 : PySem.W.nsIn K mainGlobals "LAST_DIGIT" = some (some (.int 19 t7)))
    (q8 : PySem.W.nsIn K mainGlobals "FIRST_MODE" = some (some (.int 25 t8)))
    (q9 : PySem.W.nsIn K mainGlobals "LAST_MODE" = some (some (.int 27 t9)))
    (q10 : PySem.W.nsIn K mainGlobals "MODE_IF_SO" = some (some (.int 0 t10)))
    (q11 : PySem.W.nsIn K mainGlobals "MODE_ANYWAY" = some (some (.int 2 t11)))
    (q12 : PySem.W.nsIn K mainGlobals "OUTSET" = some (some (.int 0 t12)))
    (q13 : PySem.W.nsIn K mainGlobals "UPLIFT" = some (some (.int 1 t13)))
    (q14 : PySem.W.nsIn K mainGlobals "ADVANCE" = some (some (.int 2 t14)))
    (q15 : PySem.W.nsIn K mainGlobals "MOST_PASSES" = some (some (.int 20000 t15))) : Tx K mg :=
  {
    f_is_list := f0
    fd_is_list := _
    F_is_list := fun_mk (st := s_is_list) l0 c0 k0
    g_is_list := PySem.W.mg_of X G a0
    b_is_list := (fun_mk (st := s_is_list) l0 c0 k0).binds (ps := ["value"]) fun _ _ _ _ _ _ us hl => match us, hl with | [_], _ => rfl
    f_is_integer := f1
    fd_is_integer := _
    F_is_integer := fun_mk (st := s_is_integer) l1 c1 k1
    g_is_integer := PySem.W.mg_of X G a1
    b_is_integer := (fun_mk (st := s_is_integer) l1 c1 k1).binds (ps := ["value"]) fun _ _ _ _ _ _ us hl => match us, hl with | [_], _ => rfl
    f_is_within := f2
    fd_is_within := _
    F_is_within := fun_mk (st := s_is_within) l2 c2 k2
    g_is_within := PySem.W.mg_of X G a2
    b_is_within := (fun_mk (st := s_is_within) l2 c2 k2).binds (ps := ["value", "least", "most"]) fun _ _ _ _ _ _ us hl => match us, hl with | [_, _, _], _ => rfl
    f_are_integers := f3
    fd_are_integers := _
    F_are_integers := fun_mk (st := s_are_integers) l3 c3 k3
    g_are_integers := PySem.W.mg_of X G a3
    b_are_integers := (fun_mk (st := s_are_integers) l3 c3 k3).binds (ps := ["value"]) fun _ _ _ _ _ _ us hl => match us, hl with | [_], _ => rfl
    f_are_letters := f4
    fd_are_letters := _
    F_are_letters := fun_mk (st := s_are_letters) l4 c4 k4
    g_are_letters := PySem.W.mg_of X G a4
    b_are_letters := (fun_mk (st := s_are_letters) l4 c4 k4).binds (ps := ["text"]) fun _ _ _ _ _ _ us hl => match us, hl with | [_], _ => rfl
    f_is_word := f5
    fd_is_word := _
    F_is_word := fun_mk (st := s_is_word) l5 c5 k5
    g_is_word := PySem.W.mg_of X G a5
    b_is_word := (fun_mk (st := s_is_word) l5 c5 k5).binds (ps := ["value"]) fun _ _ _ _ _ _ us hl => match us, hl with | [_], _ => rfl
    f_is_text := f6
    fd_is_text := _
    F_is_text := fun_mk (st := s_is_text) l6 c6 k6
    g_is_text := PySem.W.mg_of X G a6
    b_is_text := (fun_mk (st := s_is_text) l6 c6 k6).binds (ps := ["value"]) fun _ _ _ _ _ _ us hl => match us, hl with | [_], _ => rfl
    f_are_words := f7
    fd_are_words := _
    F_are_words := fun_mk (st := s_are_words) l7 c7 k7
    g_are_words := PySem.W.mg_of X G a7
    b_are_words := (fun_mk (st := s_are_words) l7 c7 k7).binds (ps := ["value", "most"]) fun _ _ _ _ _ _ us hl => match us, hl with | [_, _], _ => rfl
    f_read := f8
    fd_read := _
    F_read := fun_mk (st := s_read) l8 c8 k8
    g_read := PySem.W.mg_of X G a8
    b_read := (fun_mk (st := s_read) l8 c8 k8).binds (ps := ["book", "text"]) fun _ _ _ _ _ _ us hl => match us, hl with | [_, _], _ => rfl
    f_outset := f9
    fd_outset := _
    F_outset := fun_mk (st := s_outset) l9 c9 k9
    g_outset := PySem.W.mg_of X G a9
    b_outset := (fun_mk (st := s_outset) l9 c9 k9).binds (ps := ["work"]) fun _ _ _ _ _ _ us hl => match us, hl with | [_], _ => rfl
    f_uplift := f10
    fd_uplift := _
    F_uplift := fun_mk (st := s_uplift) l10 c10 k10
    g_uplift := PySem.W.mg_of X G a10
    b_uplift := (fun_mk (st := s_uplift) l10 c10 k10).binds (ps := ["work"]) fun _ _ _ _ _ _ us hl => match us, hl with | [_], _ => rfl
    f_advance := f11
    fd_advance := _
    F_advance := fun_mk (st := s_advance) l11 c11 k11
    g_advance := PySem.W.mg_of X G a11
    b_advance := (fun_mk (st := s_advance) l11 c11 k11).binds (ps := ["work"]) fun _ _ _ _ _ _ us hl => match us, hl with | [_], _ => rfl
    f_prepare := f12
    fd_prepare := _
    F_prepare := fun_mk (st := s_prepare) l12 c12 k12
    g_prepare := PySem.W.mg_of X G a12
    b_prepare := (fun_mk (st := s_prepare) l12 c12 k12).binds (ps := ["work"]) fun _ _ _ _ _ _ us hl => match us, hl with | [_], _ => rfl
    f_augment := f13
    fd_augment := _
    F_augment := fun_mk (st := s_augment) l13 c13 k13
    g_augment := PySem.W.mg_of X G a13
    b_augment := (fun_mk (st := s_augment) l13 c13 k13).binds (ps := ["work"]) fun _ _ _ _ _ _ us hl => match us, hl with | [_], _ => rfl
    f_lessen := f14
    fd_lessen := _
    F_lessen := fun_mk (st := s_lessen) l14 c14 k14
    g_lessen := PySem.W.mg_of X G a14
    b_lessen := (fun_mk (st := s_lessen) l14 c14 k14).binds (ps := ["work"]) fun _ _ _ _ _ _ us hl => match us, hl with | [_], _ => rfl
    f_multiply := f15
    fd_multiply := _
    F_multiply := fun_mk (st := s_multiply) l15 c15 k15
    g_multiply := PySem.W.mg_of X G a15
    b_multiply := (fun_mk (st := s_multiply) l15 c15 k15).binds (ps := ["work"]) fun _ _ _ _ _ _ us hl => match us, hl with | [_], _ => rfl
    f_portion := f16
    fd_portion := _
    F_portion := fun_mk (st := s_portion) l16 c16 k16
    g_portion := PySem.W.mg_of X G a16
    b_portion := (fun_mk (st := s_portion) l16 c16 k16).binds (ps := ["work"]) fun _ _ _ _ _ _ us hl => match us, hl with | [_], _ => rfl
    f_exchange := f17
    fd_exchange := _
    F_exchange := fun_mk (st := s_exchange) l17 c17 k17
    g_exchange := PySem.W.mg_of X G a17
    b_exchange := (fun_mk (st := s_exchange) l17 c17 k17).binds (ps := ["work"]) fun _ _ _ _ _ _ us hl => match us, hl with | [_], _ => rfl
    f_inquire := f18
    fd_inquire := _
    F_inquire := fun_mk (st := s_inquire) l18 c18 k18
    g_inquire := PySem.W.mg_of X G a18
    b_inquire := (fun_mk (st := s_inquire) l18 c18 k18).binds (ps := ["work"]) fun _ _ _ _ _ _ us hl => match us, hl with | [_], _ => rfl
    f_proclaim := f19
    fd_proclaim := _
    F_proclaim := fun_mk (st := s_proclaim) l19 c19 k19
    g_proclaim := PySem.W.mg_of X G a19
    b_proclaim := (fun_mk (st := s_proclaim) l19 c19 k19).binds (ps := ["work"]) fun _ _ _ _ _ _ us hl => match us, hl with | [_], _ => rfl
    f_obtain := f20
    fd_obtain := _
    F_obtain := fun_mk (st := s_obtain) l20 c20 k20
    g_obtain := PySem.W.mg_of X G a20
    b_obtain := (fun_mk (st := s_obtain) l20 c20 k20).binds (ps := ["work"]) fun _ _ _ _ _ _ us hl => match us, hl with | [_], _ => rfl
    f_nothing := f21
    fd_nothing := _
    F_nothing := fun_mk (st := s_nothing) l21 c21 k21
    g_nothing := PySem.W.mg_of X G a21
    b_nothing := (fun_mk (st := s_nothing) l21 c21 k21).binds (ps := ["work"]) fun _ _ _ _ _ _ us hl => match us, hl with | [_], _ => rfl
    f_duplicate := f22
    fd_duplicate := _
    F_duplicate := fun_mk (st := s_duplicate) l22 c22 k22
    g_duplicate := PySem.W.mg_of X G a22
    b_duplicate := (fun_mk (st := s_duplicate) l22 c22 k22).binds (ps := ["work"]) fun _ _ _ _ _ _ us hl => match us, hl with | [_], _ => rfl
    f_deposit := f23
    fd_deposit := _
    F_deposit := fun_mk (st := s_deposit) l23 c23 k23
    g_deposit := PySem.W.mg_of X G a23
    b_deposit := (fun_mk (st := s_deposit) l23 c23 k23).binds (ps := ["work"]) fun _ _ _ _ _ _ us hl => match us, hl with | [_], _ => rfl
    f_whether := f24
    fd_whether := _
    F_whether := fun_mk (st := s_whether) l24 c24 k24
    g_whether := PySem.W.mg_of X G a24
    b_whether := (fun_mk (st := s_whether) l24 c24 k24).binds (ps := ["work"]) fun _ _ _ _ _ _ us hl => match us, hl with | [_], _ => rfl
    f_negative := f25
    fd_negative := _
    F_negative := fun_mk (st := s_negative) l25 c25 k25
    g_negative := PySem.W.mg_of X G a25
    b_negative := (fun_mk (st := s_negative) l25 c25 k25).binds (ps := ["work"]) fun _ _ _ _ _ _ us hl => match us, hl with | [_], _ => rfl
    f_journey := f26
    fd_journey := _
    F_journey := fun_mk (st := s_journey) l26 c26 k26
    g_journey := PySem.W.mg_of X G a26
    b_journey := (fun_mk (st := s_journey) l26 c26 k26).binds (ps := ["work"]) fun _ _ _ _ _ _ us hl => match us, hl with | [_], _ => rfl
    f_finish := f27
    fd_finish := _
    F_finish := fun_mk (st := s_finish) l27 c27 k27
    g_finish := PySem.W.mg_of X G a27
    b_finish := (fun_mk (st := s_finish) l27 c27 k27).binds (ps := ["work"]) fun _ _ _ _ _ _ us hl => match us, hl with | [_], _ => rfl
    f_may_do := f28
    fd_may_do := _
    F_may_do := fun_mk (st := s_may_do) l28 c28 k28
    g_may_do := PySem.W.mg_of X G a28
    b_may_do := (fun_mk (st := s_may_do) l28 c28 k28).binds (ps := ["work", "number"]) fun _ _ _ _ _ _ us hl => match us, hl with | [_, _], _ => rfl
    f_do_word := f29
    fd_do_word := _
    F_do_word := fun_mk (st := s_do_word) l29 c29 k29
    g_do_word := PySem.W.mg_of X G a29
    b_do_word := (fun_mk (st := s_do_word) l29 c29 k29).binds (ps := ["work", "number"]) fun _ _ _ _ _ _ us hl => match us, hl with | [_, _], _ => rfl
    f_do_row := f30
    fd_do_row := _
    F_do_row := fun_mk (st := s_do_row) l30 c30 k30
    g_do_row := PySem.W.mg_of X G a30
    b_do_row := (fun_mk (st := s_do_row) l30 c30 k30).binds (ps := ["work", "row"]) fun _ _ _ _ _ _ us hl => match us, hl with | [_, _], _ => rfl
    f_behind_words := f31
    fd_behind_words := _
    F_behind_words := fun_mk (st := s_behind_words) l31 c31 k31
    g_behind_words := PySem.W.mg_of X G a31
    b_behind_words := (fun_mk (st := s_behind_words) l31 c31 k31).binds (ps := ["row"]) fun _ _ _ _ _ _ us hl => match us, hl with | [_], _ => rfl
    f_thinned := f32
    fd_thinned := _
    F_thinned := fun_mk (st := s_thinned) l32 c32 k32
    g_thinned := PySem.W.mg_of X G a32
    b_thinned := (fun_mk (st := s_thinned) l32 c32 k32).binds (ps := ["row"]) fun _ _ _ _ _ _ us hl => match us, hl with | [_], _ => rfl
    f_stretches_of := f33
    fd_stretches_of := _
    F_stretches_of := fun_mk (st := s_stretches_of) l33 c33 k33
    g_stretches_of := PySem.W.mg_of X G a33
    b_stretches_of := (fun_mk (st := s_stretches_of) l33 c33 k33).binds (ps := ["row"]) fun _ _ _ _ _ _ us hl => match us, hl with | [_], _ => rfl
    f_do_pass := f34
    fd_do_pass := _
    F_do_pass := fun_mk (st := s_do_pass) l34 c34 k34
    g_do_pass := PySem.W.mg_of X G a34
    b_do_pass := (fun_mk (st := s_do_pass) l34 c34 k34).binds (ps := ["work", "course"]) fun _ _ _ _ _ _ us hl => match us, hl with | [_, _], _ => rfl
    f_plain_book := f35
    fd_plain_book := _
    F_plain_book := fun_mk (st := s_plain_book) l35 c35 k35
    g_plain_book := PySem.W.mg_of X G a35
    b_plain_book := (fun_mk (st := s_plain_book) l35 c35 k35).binds (ps := []) fun _ _ _ _ _ _ us hl => match us, hl with | [], _ => rfl
    f_check_run := f36
    fd_check_run := _
    F_check_run := fun_mk (st := s_check_run) l36 c36 k36
    g_check_run := PySem.W.mg_of X G a36
    b_check_run := (fun_mk (st := s_check_run) l36 c36 k36).binds (ps := ["heard", "passes"]) fun _ _ _ _ _ _ us hl => match us, hl with | [_, _], _ => rfl
    f_stand_parts := f37
    fd_stand_parts := _
    F_stand_parts := fun_mk (st := s_stand_parts) l37 c37 k37
    g_stand_parts := PySem.W.mg_of X G a37
    b_stand_parts := (fun_mk (st := s_stand_parts) l37 c37 k37).binds (ps := ["work"]) fun _ _ _ _ _ _ us hl => match us, hl with | [_], _ => rfl
    f_parted_at := f38
    fd_parted_at := _
    F_parted_at := fun_mk (st := s_parted_at) l38 c38 k38
    g_parted_at := PySem.W.mg_of X G a38
    b_parted_at := (fun_mk (st := s_parted_at) l38 c38 k38).binds (ps := ["text", "other", "heard", "passes"]) fun _ _ _ _ _ _ us hl => match us, hl with | [_, _, _, _], _ => rfl
    f_law_fork := f39
    fd_law_fork := _
    F_law_fork := fun_mk (st := s_law_fork) l39 c39 k39
    g_law_fork := PySem.W.mg_of X G a39
    b_law_fork := (fun_mk (st := s_law_fork) l39 c39 k39).binds (ps := ["script"]) fun _ _ _ _ _ _ us hl => match us, hl with | [_], _ => rfl
    f_law_tine := f40
    fd_law_tine := _
    F_law_tine := fun_mk (st := s_law_tine) l40 c40 k40
    g_law_tine := PySem.W.mg_of X G a40
    b_law_tine := (fun_mk (st := s_law_tine) l40 c40 k40).binds (ps := ["fork", "many"]) fun _ _ _ _ _ _ us hl => match us, hl with | [_, _], _ => rfl
    f_law_one_of := f41
    fd_law_one_of := _
    F_law_one_of := fun_mk (st := s_law_one_of) l41 c41 k41
    g_law_one_of := PySem.W.mg_of X G a41
    b_law_one_of := (fun_mk (st := s_law_one_of) l41 c41 k41).binds (ps := ["fork", "some"]) fun _ _ _ _ _ _ us hl => match us, hl with | [_, _], _ => rfl
    f_law_vocabulary := f42
    fd_law_vocabulary := _
    F_law_vocabulary := fun_mk (st := s_law_vocabulary) l42 c42 k42
    g_law_vocabulary := PySem.W.mg_of X G a42
    b_law_vocabulary := (fun_mk (st := s_law_vocabulary) l42 c42 k42).binds (ps := []) fun _ _ _ _ _ _ us hl => match us, hl with | [], _ => rfl
    f_law_begun := f43
    fd_law_begun := _
    F_law_begun := fun_mk (st := s_law_begun) l43 c43 k43
    g_law_begun := PySem.W.mg_of X G a43
    b_law_begun := (fun_mk (st := s_law_begun) l43 c43 k43).binds (ps := []) fun _ _ _ _ _ _ us hl => match us, hl with | [], _ => rfl
    f_law_flagged := f44
    fd_law_flagged := _
    F_law_flagged := fun_mk (st := s_law_flagged) l44 c44 k44
    g_law_flagged := PySem.W.mg_of X G a44
    b_law_flagged := (fun_mk (st := s_law_flagged) l44 c44 k44).binds (ps := ["stand", "number", "heard"]) fun _ _ _ _ _ _ us hl => match us, hl with | [_, _, _], _ => rfl
    f_law_bare := f45
    fd_law_bare := _
    F_law_bare := fun_mk (st := s_law_bare) l45 c45 k45
    g_law_bare := PySem.W.mg_of X G a45
    b_law_bare := (fun_mk (st := s_law_bare) l45 c45 k45).binds (ps := ["stand", "number"]) fun _ _ _ _ _ _ us hl => match us, hl with | [_, _], _ => rfl
    f_law_do := f46
    fd_law_do := _
    F_law_do := fun_mk (st := s_law_do) l46 c46 k46
    g_law_do := PySem.W.mg_of X G a46
    b_law_do := (fun_mk (st := s_law_do) l46 c46 k46).binds (ps := ["stand", "number", "heard"]) fun _ _ _ _ _ _ us hl => match us, hl with | [_, _, _], _ => rfl
    f_law_read := f47
    fd_law_read := _
    F_law_read := fun_mk (st := s_law_read) l47 c47 k47
    g_law_read := PySem.W.mg_of X G a47
    b_law_read := (fun_mk (st := s_law_read) l47 c47 k47).binds (ps := ["text"]) fun _ _ _ _ _ _ us hl => match us, hl with | [_], _ => rfl
    f_law_seen := f48
    fd_law_seen := _
    F_law_seen := fun_mk (st := s_law_seen) l48 c48 k48
    g_law_seen := PySem.W.mg_of X G a48
    b_law_seen := (fun_mk (st := s_law_seen) l48 c48 k48).binds (ps := ["stand"]) fun _ _ _ _ _ _ us hl => match us, hl with | [_], _ => rfl
    f_law_heard := f49
    fd_law_heard := _
    F_law_heard := fun_mk (st := s_law_heard) l49 c49 k49
    g_law_heard := PySem.W.mg_of X G a49
    b_law_heard := (fun_mk (st := s_law_heard) l49 c49 k49).binds (ps := ["ask"]) fun _ _ _ _ _ _ us hl => match us, hl with | [_], _ => rfl
    f_law_any := f50
    fd_law_any := _
    F_law_any := fun_mk (st := s_law_any) l50 c50 k50
    g_law_any := PySem.W.mg_of X G a50
    b_law_any := (fun_mk (st := s_law_any) l50 c50 k50).binds (ps := ["fork"]) fun _ _ _ _ _ _ us hl => match us, hl with | [_], _ => rfl
    f_law_row := f51
    fd_law_row := _
    F_law_row := fun_mk (st := s_law_row) l51 c51 k51
    g_law_row := PySem.W.mg_of X G a51
    b_law_row := (fun_mk (st := s_law_row) l51 c51 k51).binds (ps := ["fork"]) fun _ _ _ _ _ _ us hl => match us, hl with | [_], _ => rfl
    f_law_items := f52
    fd_law_items := _
    F_law_items := fun_mk (st := s_law_items) l52 c52 k52
    g_law_items := PySem.W.mg_of X G a52
    b_law_items := (fun_mk (st := s_law_items) l52 c52 k52).binds (ps := ["fork", "row"]) fun _ _ _ _ _ _ us hl => match us, hl with | [_, _], _ => rfl
    f_law_parted := f53
    fd_law_parted := _
    F_law_parted := fun_mk (st := s_law_parted) l53 c53 k53
    g_law_parted := PySem.W.mg_of X G a53
    b_law_parted := (fun_mk (st := s_law_parted) l53 c53 k53).binds (ps := ["mine", "its", "heard", "passes"]) fun _ _ _ _ _ _ us hl => match us, hl with | [_, _, _, _], _ => rfl
    f_law := f54
    fd_law := _
    F_law := fun_mk (st := s_law) l54 c54 k54
    g_law := PySem.W.mg_of X G a54
    b_law := (fun_mk (st := s_law) l54 c54 k54).binds (ps := ["script"]) fun _ _ _ _ _ _ us hl => match us, hl with | [_], _ => rfl
    n_law := a54
    f_Book_init := mf0
    fd_Book_init := _
    F_Book_init := fun_mk (st := s_Book_init) ml0 mc0 mk0
    b_Book_init := (fun_mk (st := s_Book_init) ml0 mc0 mk0).binds (ps := ["self", "words"]) fun _ _ _ _ _ _ us hl => match us, hl with | [_, _], _ => rfl
    mk_Book := ⟨cm_Book, ma0, mi0, ck_Book⟩
    f_Work_init := mf1
    fd_Work_init := _
    F_Work_init := fun_mk (st := s_Work_init) ml1 mc1 mk1
    b_Work_init := (fun_mk (st := s_Work_init) ml1 mc1 mk1).binds (ps := ["self", "numbers"]) fun _ _ _ _ _ _ us hl => match us, hl with | [_, _], _ => rfl
    mk_Work := ⟨cm_Work, ma1, mi1, ck_Work⟩
    f_Course_init := mf2
    fd_Course_init := _
    F_Course_init := fun_mk (st := s_Course_init) ml2 mc2 mk2
    b_Course_init := (fun_mk (st := s_Course_init) ml2 mc2 mk2).binds (ps := ["self", "row"]) fun _ _ _ _ _ _ us hl => match us, hl with | [_, _], _ => rfl
    mk_Course := ⟨cm_Course, ma2, mi2, ck_Course⟩
    na_Book_words := cx_Book_words
    C_Book := KC_Book
    gC_Book := PySem.W.mg_of X G ca_Book
    cl_Book := ⟨cp_Book, cd_Book, co_Book, cs_Book⟩
    ob_Book := cb_Book
    ne_Book := cn_Book
    oc_Book := cc_Book
    on_Book := cg_Book
    ot_Book := ct_Book
    kc_Book := ci_Book
    kt_Book := cy_Book
    na_Work_numbers := cx_Work_numbers
    na_Work_block := cx_Work_block
    na_Work_room := cx_Work_room
    na_Work_tick := cx_Work_tick
    na_Work_flag := cx_Work_flag
    na_Work_test := cx_Work_test
    na_Work_mode := cx_Work_mode
    na_Work_first := cx_Work_first
    na_Work_second := cx_Work_second
    na_Work_cells := cx_Work_cells
    na_Work_heard := cx_Work_heard
    na_Work_said := cx_Work_said
    na_Work_is_done := cx_Work_is_done
    C_Work := KC_Work
    gC_Work := PySem.W.mg_of X G ca_Work
    cl_Work := ⟨cp_Work, cd_Work, co_Work, cs_Work⟩
    ob_Work := cb_Work
    ne_Work := cn_Work
    oc_Work := cc_Work
    on_Work := cg_Work
    ot_Work := ct_Work
    kc_Work := ci_Work
    kt_Work := cy_Work
    na_Course_row := cx_Course_row
    na_Course_is_steady := cx_Course_is_steady
    na_Course_stretches := cx_Course_stretches
    na_Course_last_pair := cx_Course_last_pair
    C_Course := KC_Course
    gC_Course := PySem.W.mg_of X G ca_Course
    cl_Course := ⟨cp_Course, cd_Course, co_Course, cs_Course⟩
    ob_Course := cb_Course
    ne_Course := cn_Course
    oc_Course := cc_Course
    on_Course := cg_Course
    ot_Course := ct_Course
    kc_Course := ci_Course
    kt_Course := cy_Course
    k_TooMany := KD_TooMany
    gk_TooMany := PySem.W.mg_of X G da_TooMany
    kc_TooMany := di_TooMany
    kt_TooMany := dy_TooMany
    k_BadNumber := KD_BadNumber
    gk_BadNumber := PySem.W.mg_of X G da_BadNumber
    kc_BadNumber := di_BadNumber
    kt_BadNumber := dy_BadNumber
    k_BadText := KD_BadText
    gk_BadText := PySem.W.mg_of X G da_BadText
    kc_BadText := di_BadText
    kt_BadText := dy_BadText
    k_BadHeard := KD_BadHeard
    gk_BadHeard := PySem.W.mg_of X G da_BadHeard
    kc_BadHeard := di_BadHeard
    kt_BadHeard := dy_BadHeard
    su_BadNumber_TooMany := ds_BadNumber_TooMany
    su_BadNumber_BadNumber := ds_BadNumber_BadNumber
    su_BadNumber_BadText := ds_BadNumber_BadText
    su_BadNumber_BadHeard := ds_BadNumber_BadHeard
    su_BadText_TooMany := ds_BadText_TooMany
    su_BadText_BadNumber := ds_BadText_BadNumber
    su_BadText_BadText := ds_BadText_BadText
    su_BadText_BadHeard := ds_BadText_BadHeard
    su_BadHeard_TooMany := ds_BadHeard_TooMany
    su_BadHeard_BadNumber := ds_BadHeard_BadNumber
    su_BadHeard_BadText := ds_BadHeard_BadText
    su_BadHeard_BadHeard := ds_BadHeard_BadHeard
    su_Book_Book := ds_Book_Book
    m_isinstance := PySem.W.mg_none_of X G z0
    m_list := PySem.W.mg_none_of X G z1
    m_tuple := PySem.W.mg_none_of X G z2
    m_int := PySem.W.mg_none_of X G z3
    m_bool := PySem.W.mg_none_of X G z4
    m_all := PySem.W.mg_none_of X G z5
    m_str := PySem.W.mg_none_of X G z6
    m_len := PySem.W.mg_none_of X G z7
    m_set := PySem.W.mg_none_of X G z8
    m_enumerate := PySem.W.mg_none_of X G z9
    m_zip := PySem.W.mg_none_of X G z10
    m_range := PySem.W.mg_none_of X G z11
    m_abs := PySem.W.mg_none_of X G z12
    m_dict := PySem.W.mg_none_of X G z13
    m_sorted := PySem.W.mg_none_of X G z14
    m_repr := PySem.W.mg_none_of X G z15
    e_BadNumber := er_BadNumber
    e_BadText := er_BadText
    e_BadHeard := er_BadHeard
    e_BadBook := er_BadBook
    D_DEEDS := KT_DEEDS
    gD_DEEDS := PySem.W.mg_of X G ta_DEEDS
    tD_DEEDS := ⟨es_DEEDS, nn_DEEDS, tl_DEEDS, tk_DEEDS, [Value.ref f9, Value.ref f10, Value.ref f11, Value.ref f12, Value.ref f13, Value.ref f14, Value.ref f15, Value.ref f16, Value.ref f17, Value.ref f18, Value.ref f19, Value.ref f20, Value.ref f21, Value.ref f22, Value.ref f23, Value.ref f24, Value.ref f25, Value.ref f26, Value.ref f27], tv_DEEDS, .cons rfl (.cons rfl (.cons rfl (.cons rfl (.cons rfl (.cons rfl (.cons rfl (.cons rfl (.cons rfl (.cons rfl (.cons rfl (.cons rfl (.cons rfl (.cons rfl (.cons rfl (.cons rfl (.cons rfl (.cons rfl (.cons rfl (.nil)))))))))))))))))))⟩
    D_PLAIN_WORDS := KW_PLAIN_WORDS
    gD_PLAIN_WORDS := PySem.W.mg_of X G wa_PLAIN_WORDS
    tD_PLAIN_WORDS := fun _ => .inr ⟨_, wi_PLAIN_WORDS, wn_PLAIN_WORDS, wl_PLAIN_WORDS, rfl, rfl, wz_PLAIN_WORDS, wv_PLAIN_WORDS⟩
    nD_PLAIN_WORDS := ⟨_, wl_PLAIN_WORDS, rfl, rfl⟩
    t_MOST_LETTERS := t0
    c_MOST_LETTERS := PySem.W.mg_of X G q0
    t_MOST_SIGNS := t1
    c_MOST_SIGNS := PySem.W.mg_of X G q1
    t_MOST_WORDS := t2
    c_MOST_WORDS := PySem.W.mg_of X G q2
    t_FIRST_HERE := t3
    c_FIRST_HERE := PySem.W.mg_of X G q3
    t_FIRST_OF_FLAG := t4
    c_FIRST_OF_FLAG := PySem.W.mg_of X G q4
    t_LAST_OF_FLAG := t5
    c_LAST_OF_FLAG := PySem.W.mg_of X G q5
    t_FIRST_DIGIT := t6
    c_FIRST_DIGIT := PySem.W.mg_of X G q6
    t_LAST_DIGIT := t7
    c_LAST_DIGIT := PySem.W.mg_of X G q7
    t_FIRST_MODE := t8
    c_FIRST_MODE := PySem.W.mg_of X G q8
    t_LAST_MODE := t9
    c_LAST_MODE := PySem.W.mg_of X G q9
    t_MODE_IF_SO := t10
    c_MODE_IF_SO := PySem.W.mg_of X G q10
    t_MODE_ANYWAY := t11
    c_MODE_ANYWAY := PySem.W.mg_of X G q11
    t_OUTSET := t12
    c_OUTSET := PySem.W.mg_of X G q12
    t_UPLIFT := t13
    c_UPLIFT := PySem.W.mg_of X G q13
    t_ADVANCE := t14
    c_ADVANCE := PySem.W.mg_of X G q14
    t_MOST_PASSES := t15
    c_MOST_PASSES := PySem.W.mg_of X G q15 }
end K54
open PySem PySem.W PyProof.Rows
set_option maxHeartbeats 0 in
theorem PySem.Challenge.cw_anyletter_k54_where_two_texts_part_holds : PySem.Challenge.rw_anyletter_k54_where_two_texts_part.Holds := by
  w_on; o_law; k_head; (case hw => w_witness2)
  k_fill
  refine Kx.walkL (l := PySem.Challenge.rw_anyletter_k54_where_two_texts_part) (n := 63) (k := 17) (x := "script") (y := "law") K54.sp_law rfl (by decide) rfl ⟨rfl, by decide, by decide⟩ (fun w h Y => PySem.W.km_in_of Y) ?hcs ?FF (fun K Pt H a ns hl ht hS => ⟨a, ns, rfl, hS, ht, fun _ => rfl⟩)
  case hcs =>
    intro p
    refine' ⟨⟨_, rfl⟩, Kx.tabIn_of ?ta ?tl ?te ?tl2 ?tv ?tn⟩
    case ta => k_is
    case tl => k_is
    case te => rfl
    case tl2 => k_is
    case tv => rfl
    case tn => rfl
  case FF =>
    intro w mg fa h KX G hmg
    refine' Kx.useIt (K54.tx_mk KX G ?a0 ?l0 ?c0 ?k0 ?a1 ?l1 ?c1 ?k1 ?a2 ?l2 ?c2 ?k2 ?a3 ?l3 ?c3 ?k3 ?a4 ?l4 ?c4 ?k4 ?a5 ?l5 ?c5 ?k5 ?a6 ?l6 ?c6 ?k6 ?a7 ?l7 ?c7 ?k7 ?a8 ?l8 ?c8 ?k8 ?a9 ?l9 ?c9 ?k9 ?a10 ?l10 ?c10 ?k10 ?a11 ?l11 ?c11 ?k11 ?a12 ?l12 ?c12 ?k12 ?a13 ?l13 ?c13 ?k13 ?a14 ?l14 ?c14 ?k14 ?a15 ?l15 ?c15 ?k15 ?a16 ?l16 ?c16 ?k16 ?a17 ?l17 ?c17 ?k17 ?a18 ?l18 ?c18 ?k18 ?a19 ?l19 ?c19 ?k19 ?a20 ?l20 ?c20 ?k20 ?a21 ?l21 ?c21 ?k21 ?a22 ?l22 ?c22 ?k22 ?a23 ?l23 ?c23 ?k23 ?a24 ?l24 ?c24 ?k24 ?a25 ?l25 ?c25 ?k25 ?a26 ?l26 ?c26 ?k26 ?a27 ?l27 ?c27 ?k27 ?a28 ?l28 ?c28 ?k28 ?a29 ?l29 ?c29 ?k29 ?a30 ?l30 ?c30 ?k30 ?a31 ?l31 ?c31 ?k31 ?a32 ?l32 ?c32 ?k32 ?a33 ?l33 ?c33 ?k33 ?a34 ?l34 ?c34 ?k34 ?a35 ?l35 ?c35 ?k35 ?a36 ?l36 ?c36 ?k36 ?a37 ?l37 ?c37 ?k37 ?a38 ?l38 ?c38 ?k38 ?a39 ?l39 ?c39 ?k39 ?a40 ?l40 ?c40 ?k40 ?a41 ?l41 ?c41 ?k41 ?a42 ?l42 ?c42 ?k42 ?a43 ?l43 ?c43 ?k43 ?a44 ?l44 ?c44 ?k44 ?a45 ?l45 ?c45 ?k45 ?a46 ?l46 ?c46 ?k46 ?a47 ?l47 ?c47 ?k47 ?a48 ?l48 ?c48 ?k48 ?a49 ?l49 ?c49 ?k49 ?a50 ?l50 ?c50 ?k50 ?a51 ?l51 ?c51 ?k51 ?a52 ?l52 ?c52 ?k52 ?a53 ?l53 ?c53 ?k53 ?a54 ?l54 ?c54 ?k54 ?ca_Book ?cp_Book ?cd_Book ?co_Book ?cs_Book ?cm_Book ?ck_Book ?cb_Book ?cn_Book ?cc_Book ?cg_Book ?ct_Book ?ci_Book ?cy_Book ?cx_Book_words ?ca_Work ?cp_Work ?cd_Work ?co_Work ?cs_Work ?cm_Work ?ck_Work ?cb_Work ?cn_Work ?cc_Work ?cg_Work ?ct_Work ?ci_Work ?cy_Work ?cx_Work_numbers ?cx_Work_block ?cx_Work_room ?cx_Work_tick ?cx_Work_flag ?cx_Work_test ?cx_Work_mode ?cx_Work_first ?cx_Work_second ?cx_Work_cells ?cx_Work_heard ?cx_Work_said ?cx_Work_is_done ?ca_Course ?cp_Course ?cd_Course ?co_Course ?cs_Course ?cm_Course ?ck_Course ?cb_Course ?cn_Course ?cc_Course ?cg_Course ?ct_Course ?ci_Course ?cy_Course ?cx_Course_row ?cx_Course_is_steady ?cx_Course_stretches ?cx_Course_last_pair ?da_TooMany ?di_TooMany ?dy_TooMany ?da_BadNumber ?di_BadNumber ?dy_BadNumber ?da_BadText ?di_BadText ?dy_BadText ?da_BadHeard ?di_BadHeard ?dy_BadHeard ?ds_BadNumber_TooMany ?ds_BadNumber_BadNumber ?ds_BadNumber_BadText ?ds_BadNumber_BadHeard ?ds_BadText_TooMany ?ds_BadText_BadNumber ?ds_BadText_BadText ?ds_BadText_BadHeard ?ds_BadHeard_TooMany ?ds_BadHeard_BadNumber ?ds_BadHeard_BadText ?ds_BadHeard_BadHeard ?ds_Book_Book ?ma0 ?mi0 ?ml0 ?mc0 ?mk0 ?ma1 ?mi1 ?ml1 ?mc1 ?mk1 ?ma2 ?mi2 ?ml2 ?mc2 ?mk2 ?z0 ?z1 ?z2 ?z3 ?z4 ?z5 ?z6 ?z7 ?z8 ?z9 ?z10 ?z11 ?z12 ?z13 ?z14 ?z15 ?er_BadNumber ?er_BadText ?er_BadHeard ?er_BadBook ?ta_DEEDS ?tl_DEEDS ?tk_DEEDS ?tv_DEEDS ?wa_PLAIN_WORDS ?wl_PLAIN_WORDS ?wz_PLAIN_WORDS ?wv_PLAIN_WORDS ?q0 ?q1 ?q2 ?q3 ?q4 ?q5 ?q6 ?q7 ?q8 ?q9 ?q10 ?q11 ?q12 ?q13 ?q14 ?q15) (fun T => ?main)
    (case a0 => k_is)
    (case l0 => k_is)
    (case c0 => k_is)
    (case k0 => k_is)
    (case a1 => k_is)
    (case l1 => k_is)
    (case c1 => k_is)
    (case k1 => k_is)
    (case a2 => k_is)
    (case l2 => k_is)
    (case c2 => k_is)
    (case k2 => k_is)
    (case a3 => k_is)
    (case l3 => k_is)
    (case c3 => k_is)
    (case k3 => k_is)
    (case a4 => k_is)
    (case l4 => k_is)
    (case c4 => k_is)
    (case k4 => k_is)
    (case a5 => k_is)
    (case l5 => k_is)
    (case c5 => k_is)
    (case k5 => k_is)
    (case a6 => k_is)
    (case l6 => k_is)
    (case c6 => k_is)
    (case k6 => k_is)
    (case a7 => k_is)
    (case l7 => k_is)
    (case c7 => k_is)
    (case k7 => k_is)
    (case a8 => k_is)
    (case l8 => k_is)
    (case c8 => k_is)
    (case k8 => k_is)
    (case a9 => k_is)
    (case l9 => k_is)
    (case c9 => k_is)
    (case k9 => k_is)
    (case a10 => k_is)
    (case l10 => k_is)
    (case c10 => k_is)
    (case k10 => k_is)
    (case a11 => k_is)
    (case l11 => k_is)
    (case c11 => k_is)
    (case k11 => k_is)
    (case a12 => k_is)
    (case l12 => k_is)
    (case c12 => k_is)
    (case k12 => k_is)
    (case a13 => k_is)
    (case l13 => k_is)
    (case c13 => k_is)
    (case k13 => k_is)
    (case a14 => k_is)
    (case l14 => k_is)
    (case c14 => k_is)
    (case k14 => k_is)
    (case a15 => k_is)
    (case l15 => k_is)
    (case c15 => k_is)
    (case k15 => k_is)
    (case a16 => k_is)
    (case l16 => k_is)
    (case c16 => k_is)
    (case k16 => k_is)
    (case a17 => k_is)
    (case l17 => k_is)
    (case c17 => k_is)
    (case k17 => k_is)
    (case a18 => k_is)
    (case l18 => k_is)
    (case c18 => k_is)
    (case k18 => k_is)
    (case a19 => k_is)
    (case l19 => k_is)
    (case c19 => k_is)
    (case k19 => k_is)
    (case a20 => k_is)
    (case l20 => k_is)
    (case c20 => k_is)
    (case k20 => k_is)
    (case a21 => k_is)
    (case l21 => k_is)
    (case c21 => k_is)
    (case k21 => k_is)
    (case a22 => k_is)
    (case l22 => k_is)
    (case c22 => k_is)
    (case k22 => k_is)
    (case a23 => k_is)
    (case l23 => k_is)
    (case c23 => k_is)
    (case k23 => k_is)
    (case a24 => k_is)
    (case l24 => k_is)
    (case c24 => k_is)
    (case k24 => k_is)
    (case a25 => k_is)
    (case l25 => k_is)
    (case c25 => k_is)
    (case k25 => k_is)
    (case a26 => k_is)
    (case l26 => k_is)
    (case c26 => k_is)
    (case k26 => k_is)
    (case a27 => k_is)
    (case l27 => k_is)
    (case c27 => k_is)
    (case k27 => k_is)
    (case a28 => k_is)
    (case l28 => k_is)
    (case c28 => k_is)
    (case k28 => k_is)
    (case a29 => k_is)
    (case l29 => k_is)
    (case c29 => k_is)
    (case k29 => k_is)
    (case a30 => k_is)
    (case l30 => k_is)
    (case c30 => k_is)
    (case k30 => k_is)
    (case a31 => k_is)
    (case l31 => k_is)
    (case c31 => k_is)
    (case k31 => k_is)
    (case a32 => k_is)
    (case l32 => k_is)
    (case c32 => k_is)
    (case k32 => k_is)
    (case a33 => k_is)
    (case l33 => k_is)
    (case c33 => k_is)
    (case k33 => k_is)
    (case a34 => k_is)
    (case l34 => k_is)
    (case c34 => k_is)
    (case k34 => k_is)
    (case a35 => k_is)
    (case l35 => k_is)
    (case c35 => k_is)
    (case k35 => k_is)
    (case a36 => k_is)
    (case l36 => k_is)
    (case c36 => k_is)
    (case k36 => k_is)
    (case a37 => k_is)
    (case l37 => k_is)
    (case c37 => k_is)
    (case k37 => k_is)
    (case a38 => k_is)
    (case l38 => k_is)
    (case c38 => k_is)
    (case k38 => k_is)
    (case a39 => k_is)
    (case l39 => k_is)
    (case c39 => k_is)
    (case k39 => k_is)
    (case a40 => k_is)
    (case l40 => k_is)
    (case c40 => k_is)
    (case k40 => k_is)
    (case a41 => k_is)
    (case l41 => k_is)
    (case c41 => k_is)
    (case k41 => k_is)
    (case a42 => k_is)
    (case l42 => k_is)
    (case c42 => k_is)
    (case k42 => k_is)
    (case a43 => k_is)
    (case l43 => k_is)
    (case c43 => k_is)
    (case k43 => k_is)
    (case a44 => k_is)
    (case l44 => k_is)
    (case c44 => k_is)
    (case k44 => k_is)
    (case a45 => k_is)
    (case l45 => k_is)
    (case c45 => k_is)
    (case k45 => k_is)
    (case a46 => k_is)
    (case l46 => k_is)
    (case c46 => k_is)
    (case k46 => k_is)
    (case a47 => k_is)
    (case l47 => k_is)
    (case c47 => k_is)
    (case k47 => k_is)
    (case a48 => k_is)
    (case l48 => k_is)
    (case c48 => k_is)
    (case k48 => k_is)
    (case a49 => k_is)
    (case l49 => k_is)
    (case c49 => k_is)
    (case k49 => k_is)
    (case a50 => k_is)
    (case l50 => k_is)
    (case c50 => k_is)
    (case k50 => k_is)
    (case a51 => k_is)
    (case l51 => k_is)
    (case c51 => k_is)
    (case k51 => k_is)
    (case a52 => k_is)
    (case l52 => k_is)
    (case c52 => k_is)
    (case k52 => k_is)
    (case a53 => k_is)
    (case l53 => k_is)
    (case c53 => k_is)
    (case k53 => k_is)
    (case a54 => k_is)
    (case l54 => k_is)
    (case c54 => k_is)
    (case k54 => k_is)
    (case ca_Book => k_is)
    (case cp_Book => k_is)
    (case cd_Book => k_is)
    (case co_Book => k_is)
    (case cs_Book => k_is)
    (case cm_Book => k_is)
    (case ck_Book => k_is)
    (case cb_Book => k_is)
    (case cn_Book => k_is)
    (case cc_Book => k_is)
    (case cg_Book => k_is)
    (case ct_Book => k_is)
    (case ci_Book => k_is)
    (case cy_Book => k_is)
    (case cx_Book_words => k_is)
    (case ca_Work => k_is)
    (case cp_Work => k_is)
    (case cd_Work => k_is)
    (case co_Work => k_is)
    (case cs_Work => k_is)
    (case cm_Work => k_is)
    (case ck_Work => k_is)
    (case cb_Work => k_is)
    (case cn_Work => k_is)
    (case cc_Work => k_is)
    (case cg_Work => k_is)
    (case ct_Work => k_is)
    (case ci_Work => k_is)
    (case cy_Work => k_is)
    (case cx_Work_numbers => k_is)
    (case cx_Work_block => k_is)
    (case cx_Work_room => k_is)
    (case cx_Work_tick => k_is)
    (case cx_Work_flag => k_is)
    (case cx_Work_test => k_is)
    (case cx_Work_mode => k_is)
    (case cx_Work_first => k_is)
    (case cx_Work_second => k_is)
    (case cx_Work_cells => k_is)
    (case cx_Work_heard => k_is)
    (case cx_Work_said => k_is)
    (case cx_Work_is_done => k_is)
    (case ca_Course => k_is)
    (case cp_Course => k_is)
    (case cd_Course => k_is)
    (case co_Course => k_is)
    (case cs_Course => k_is)
    (case cm_Course => k_is)
    (case ck_Course => k_is)
    (case cb_Course => k_is)
    (case cn_Course => k_is)
    (case cc_Course => k_is)
    (case cg_Course => k_is)
    (case ct_Course => k_is)
    (case ci_Course => k_is)
    (case cy_Course => k_is)
    (case cx_Course_row => k_is)
    (case cx_Course_is_steady => k_is)
    (case cx_Course_stretches => k_is)
    (case cx_Course_last_pair => k_is)
    (case da_TooMany => k_is)
    (case di_TooMany => k_is)
    (case dy_TooMany => k_is)
    (case da_BadNumber => k_is)
    (case di_BadNumber => k_is)
    (case dy_BadNumber => k_is)
    (case da_BadText => k_is)
    (case di_BadText => k_is)
    (case dy_BadText => k_is)
    (case da_BadHeard => k_is)
    (case di_BadHeard => k_is)
    (case dy_BadHeard => k_is)
    (case ds_BadNumber_TooMany => k_is)
    (case ds_BadNumber_BadNumber => k_is)
    (case ds_BadNumber_BadText => k_is)
    (case ds_BadNumber_BadHeard => k_is)
    (case ds_BadText_TooMany => k_is)
    (case ds_BadText_BadNumber => k_is)
    (case ds_BadText_BadText => k_is)
    (case ds_BadText_BadHeard => k_is)
    (case ds_BadHeard_TooMany => k_is)
    (case ds_BadHeard_BadNumber => k_is)
    (case ds_BadHeard_BadText => k_is)
    (case ds_BadHeard_BadHeard => k_is)
    (case ds_Book_Book => k_is)
    (case ma0 => k_is)
    (case mi0 => k_is)
    (case ml0 => k_is)
    (case mc0 => k_is)
    (case mk0 => k_is)
    (case ma1 => k_is)
    (case mi1 => k_is)
    (case ml1 => k_is)
    (case mc1 => k_is)
    (case mk1 => k_is)
    (case ma2 => k_is)
    (case mi2 => k_is)
    (case ml2 => k_is)
    (case mc2 => k_is)
    (case mk2 => k_is)
    (case z0 => k_is)
    (case z1 => k_is)
    (case z2 => k_is)
    (case z3 => k_is)
    (case z4 => k_is)
    (case z5 => k_is)
    (case z6 => k_is)
    (case z7 => k_is)
    (case z8 => k_is)
    (case z9 => k_is)
    (case z10 => k_is)
    (case z11 => k_is)
    (case z12 => k_is)
    (case z13 => k_is)
    (case z14 => k_is)
    (case z15 => k_is)
    (case er_BadNumber =>
      refine' Kx.er_mk KX G ?waC ?waL ?wxL ?whbm ?wsa ?weC ?wtC ?wkC ?wa1 ?wt1 ?wl1 ?wc1 ?wk1 ?wb1 ?wnb ?wga ?wgg ?whd ?whc ?whn ?wht ?whm ?weL ?wdL ?wtL ?wsCL
      (case waC => k_is); (case waL => k_is); (case wxL => k_is); (case whbm => rfl); (case wsa => k_is); (case weC => k_is); (case wtC => k_is); (case wkC => k_is); (case wa1 => k_is); (case wt1 => k_is); (case wl1 => k_is); (case wc1 => k_is); (case wk1 => k_is)
      (case wb1 => exact fun _ _ _ _ _ _ us hl => match us, hl with | [_, _], _ => rfl)
      (case wnb => k_is); (case wga => k_is); (case wgg => k_is); (case whd => k_is); (case whc => k_is); (case whn => k_is); (case wht => k_is); (case whm => k_is); (case weL => k_is); (case wdL => k_is); (case wtL => k_is); (case wsCL => k_is))
    (case er_BadText =>
      refine' Kx.er_mk KX G ?waC ?waL ?wxL ?whbm ?wsa ?weC ?wtC ?wkC ?wa1 ?wt1 ?wl1 ?wc1 ?wk1 ?wb1 ?wnb ?wga ?wgg ?whd ?whc ?whn ?wht ?whm ?weL ?wdL ?wtL ?wsCL
      (case waC => k_is); (case waL => k_is); (case wxL => k_is); (case whbm => rfl); (case wsa => k_is); (case weC => k_is); (case wtC => k_is); (case wkC => k_is); (case wa1 => k_is); (case wt1 => k_is); (case wl1 => k_is); (case wc1 => k_is); (case wk1 => k_is)
      (case wb1 => exact fun _ _ _ _ _ _ us hl => match us, hl with | [_, _], _ => rfl)
      (case wnb => k_is); (case wga => k_is); (case wgg => k_is); (case whd => k_is); (case whc => k_is); (case whn => k_is); (case wht => k_is); (case whm => k_is); (case weL => k_is); (case wdL => k_is); (case wtL => k_is); (case wsCL => k_is))
    (case er_BadHeard =>
      refine' Kx.er_mk KX G ?waC ?waL ?wxL ?whbm ?wsa ?weC ?wtC ?wkC ?wa1 ?wt1 ?wl1 ?wc1 ?wk1 ?wb1 ?wnb ?wga ?wgg ?whd ?whc ?whn ?wht ?whm ?weL ?wdL ?wtL ?wsCL
      (case waC => k_is); (case waL => k_is); (case wxL => k_is); (case whbm => rfl); (case wsa => k_is); (case weC => k_is); (case wtC => k_is); (case wkC => k_is); (case wa1 => k_is); (case wt1 => k_is); (case wl1 => k_is); (case wc1 => k_is); (case wk1 => k_is)
      (case wb1 => exact fun _ _ _ _ _ _ us hl => match us, hl with | [_, _], _ => rfl)
      (case wnb => k_is); (case wga => k_is); (case wgg => k_is); (case whd => k_is); (case whc => k_is); (case whn => k_is); (case wht => k_is); (case whm => k_is); (case weL => k_is); (case wdL => k_is); (case wtL => k_is); (case wsCL => k_is))
    (case er_BadBook =>
      refine' Kx.er_mk KX G ?waC ?waL ?wxL ?whbm ?wsa ?weC ?wtC ?wkC ?wa1 ?wt1 ?wl1 ?wc1 ?wk1 ?wb1 ?wnb ?wga ?wgg ?whd ?whc ?whn ?wht ?whm ?weL ?wdL ?wtL ?wsCL
      (case waC => k_is); (case waL => k_is); (case wxL => k_is); (case whbm => rfl); (case wsa => k_is); (case weC => k_is); (case wtC => k_is); (case wkC => k_is); (case wa1 => k_is); (case wt1 => k_is); (case wl1 => k_is); (case wc1 => k_is); (case wk1 => k_is)
      (case wb1 => exact fun _ _ _ _ _ _ us hl => match us, hl with | [_, _], _ => rfl)
      (case wnb => k_is); (case wga => k_is); (case wgg => k_is); (case whd => k_is); (case whc => k_is); (case whn => k_is); (case wht => k_is); (case whm => k_is); (case weL => k_is); (case wdL => k_is); (case wtL => k_is); (case wsCL => k_is))
    (case ta_DEEDS => k_is)
    (case tl_DEEDS => k_is)
    (case tk_DEEDS => first | rfl | decide +kernel)
    (case tv_DEEDS => first | rfl | decide +kernel)
    (case wa_PLAIN_WORDS => k_is)
    (case wl_PLAIN_WORDS => k_is)
    (case wz_PLAIN_WORDS => first | decide | decide +kernel | (exact Nat.le_of_ble_eq_true rfl))
    (case wv_PLAIN_WORDS => exact .cons ⟨_, rfl⟩ (.cons ⟨_, rfl⟩ (.cons ⟨_, rfl⟩ (.cons ⟨_, rfl⟩ (.cons ⟨_, rfl⟩ (.cons ⟨_, rfl⟩ (.cons ⟨_, rfl⟩ (.cons ⟨_, rfl⟩ (.cons ⟨_, rfl⟩ (.cons ⟨_, rfl⟩ (.cons ⟨_, rfl⟩ (.cons ⟨_, rfl⟩ (.cons ⟨_, rfl⟩ (.cons ⟨_, rfl⟩ (.cons ⟨_, rfl⟩ (.cons ⟨_, rfl⟩ (.cons ⟨_, rfl⟩ (.cons ⟨_, rfl⟩ (.cons ⟨_, rfl⟩ (.cons ⟨_, rfl⟩ (.cons ⟨_, rfl⟩ (.cons ⟨_, rfl⟩ (.cons ⟨_, rfl⟩ (.cons ⟨_, rfl⟩ (.cons ⟨_, rfl⟩ (.cons ⟨_, rfl⟩ (.cons ⟨_, rfl⟩ (.cons ⟨_, rfl⟩ (.cons ⟨_, rfl⟩ (.cons ⟨_, rfl⟩ (.nil)))))))))))))))))))))))))))))))
    (case q0 => k_is)
    (case q1 => k_is)
    (case q2 => k_is)
    (case q3 => k_is)
    (case q4 => k_is)
    (case q5 => k_is)
    (case q6 => k_is)
    (case q7 => k_is)
    (case q8 => k_is)
    (case q9 => k_is)
    (case q10 => k_is)
    (case q11 => k_is)
    (case q12 => k_is)
    (case q13 => k_is)
    (case q14 => k_is)
    (case q15 => k_is)
    case main =>
      obtain rfl := Kx.same_ref (x := "law") T.g_law hmg
      exact ⟨T.fd_law, Kx.binds_one T.F_law (fun _ _ _ _ _ _ _ => rfl), fun c Pt ht base hk hg hTB => K54.ok_law T (Kx.funC_of T.F_law T.n_law ht) hTB⟩
