import PyProof.Rows.All
import Wide.All
import OpenK.AllK
import Wide.FinOn
import PyProof.EqAt
import PyProof.EqKinds
import PyProof.TupleCall
import HandS.ForMost
import HandS.Exc
import HandS.IsInst
import HandS.StrMore
import HandS.Replace
import HandS.ReplaceDef
import HandS.ReplaceLit
import HandS.ReplaceList
import HandS.Defaults
import HandS.Style
import HandS.Zip
import HandS.Conv
import HandS.Lambda
import HandS.Codes
import HandS.Evl
import HandS.ExcValue
import HandS.ExcInit
import HandS.ExcIs
import HandS.ExcField
import KE.KDflt
import KE.KExcIs
import HandS.EndTab
import PyProof.ReprRoads
import PyProof.ReprBulk
import HandS.ExcOwn
import HandS.WordsExc
import HandS.Walk
import PyProof.Rows.StrStrike
import PyProof.Draws
import PyProof.ListStr
import PyProof.Rows.RegStrFacts
import PyProof.Rows.RegReprOcc
import KE.KxIndex
import HandS.OwnEq
import HandS.More
import HandS.Strs
import HandS.SetFor
import KE.KRevSl
import KE.GoesMore
import HandS.DictComp
import PyProof.StrCalls6
import PyProof.MeetsStr3
import PyProof.CallFns
import HandS.MakeKwOnly
import PySem.Challenge.RW_anyletter_k10_rows_spelled_and_read
set_option Elab.async false
set_option linter.all false
set_option maxRecDepth 100000
set_option maxHeartbeats 4000000
set_option autoImplicit false
namespace Kx
open PySem PySem.Spec PyProof.Rows L2
/-! ### a def that is promised only where no repr runs around it -/
structure FnG (P : Program) (w : World) (K : PySem.W.Frag) (mg : Str → Option Value) (base : Heap) (CX : CXT) (k : Nat) (f : Addr) (fd : FuncData) (ps : List Str) (sp : Sp) : Prop where
  len : ∀ vs H Q E, sp vs H Q E → vs.length = ps.length
  go : ∀ (A : Around) (outer : List Env) (s : Shared) (H : Hp) (args : Args) (us : List Value) (vs : List V) (Q : VK) (E : XK), A.guards = some [] → Room k A → Env0 P w K mg base A outer s H →
    BindsTo s fd args (ps.zip us) → Vals vs us → sp vs H Q E → codeAny (model P w) A (.call (.ref f) args) (CR CX outer P w H s Q E) s
section
variable {P : Program} {w : World} {K : PySem.W.Frag} {mg : Str → Option Value} {base : Heap}
theorem FnG.of {CX : CXT} {k : Nat} {f : Addr} {fd : FuncData} {ps : List Str} {sp : Sp} (F : FnOk P w K mg base CX k f fd ps sp) : FnG P w K mg base CX k f fd ps sp :=
  ⟨F.len, fun A outer s H args us vs Q E _ => F.run A outer s H args us vs Q E⟩
/-- the body's rule, guards told -/
theorem okG {x qual : Str} {st : Stmt} {f : Addr} {fd : FuncData} {N ps : List Str} {k : Nat} {sp : Sp} (F : Fun K x qual st f fd) (S : FnScope N ps (defScope st)) (len : ∀ vs H Q E, sp vs H Q E → vs.length = ps.length)
    (hbody : ∀ (cdv : Value) (A : Around) (outer : List Env) (s : Shared) (H : Hp) (vs : List V) (Q : VK) (E : XK), A.guards = some [] → Room k (A.deeper (envOfC qual (defScope st) s.heap.objs.size f cdv)) → sp vs H Q E →
      ∃ t, PSs (cxOf CX0 P w K mg base N qual (defScope st) f cdv A outer s H E).nox (defBody st) t ∧ t { nx := fun _ H' => Q .non H', rt := Q } (start N vs) H) :
    FnG P w K mg base CX0 (k + 1) f fd ps sp := by
  obtain ⟨oc, od, kV, doc, pm, an, cdv, ct, osl, rfl, lk, hcd⟩ := F.ex
  refine ⟨len, fun A outer s H args us vs Q E hg hr e0 hb r hsp => ?_⟩
  refine LamX.run_ofS lk hcd S hr e0 hb r (len _ _ _ _ hsp) fun hr' => ?_
  obtain ⟨t, h, q⟩ := hbody cdv A outer s H vs Q E hg hr' hsp
  exact ⟨t, h.nox, q⟩
end
/-! ### the law's own call, guards told -/
section
variable {P : Program} {w : World} {K : PySem.W.Frag} {mg mb : Str → Option Value} {k : Nat} {fa a : Addr} {fd : FuncData} {x : Str} {sp : Sp} {s : Shared} {vs : List Value} {ns : List Int}
/-- what the law's call has to leave -/
def LawEnd (s : Shared) (r : Result) (t : Shared) : Prop := r = .ok (.ret (.bool true)) ∧ OldK s.heap t.heap ∧ t.os = s.os ∧ AllBare t.gens
theorem lawG_of (KX : K.In s.heap) (G : s.heap.Ns mainGlobals mg) (B : s.heap.Ns builtinsNs mb) (BB : ∀ y : Str, y ≠ "__name__" → mb y = bootBuiltins y) (NL : s.heap.NoLimit) (g0 : s.gens = #[])
    (hr : Room k callerA) (F : ∀ base : Heap, K.In base → base.Ns mainGlobals mg → FnG P w K mg base CX0 k fa fd [x] sp) (bd : ∀ (t : Shared) (u : Value), BindsTo t fd ⟨[u], []⟩ [(x, u)])
    (H : Hp) (one : ∀ b u, H b = some u → b = a ∧ K.lookup a = none ∧ (∃ o xs, u = .frz o (.lst xs)) ∧ ∀ o es ep, s.heap.get? a = some o → o.data ≠ .dict es ep) (ok : HOk P w H s.heap)
    (pr : sp [.ref a] H (fun v _ => v = .bl true) fun _ _ _ => False) : codeAny (model P w) callerA (.call (.ref fa) ⟨[.ref a], []⟩) (LawEnd s) s := by
  have stay : ∀ {b : Addr} {o : Obj}, s.heap.get? b = some o → H b = none → (hidT s.heap H).get? b = some o := fun e n => hidT_get e n
  have nodict : ∀ {b : Addr} {m : Str → Option Value}, s.heap.Ns b m → (hidT s.heap H).Ns b m := by
    rintro b m ⟨o, es, ep, e, d, r⟩
    refine ⟨o, es, ep, stay e ?_, d, r⟩
    cases q : H b with
    | none => rfl
    | some u =>
      obtain ⟨rfl, _, _, nd⟩ := one b u q
      exact absurd d (nd o es ep e)
  have Kb : K.In (hidT s.heap H) := by
    intro b o e
    refine stay (KX b o e) ?_
    cases q : H b with
    | none => rfl
    | some u =>
      obtain ⟨rfl, z, _, _⟩ := one b u q
      rw [z] at e
      cases e
  obtain ⟨ml, l1, l2⟩ := NL
  have E0 : Env0 P w K mg (hidT s.heap H) callerA [] s H :=
    { frames := rfl
      mod := { kin := Kb, glob := nodict G, blt := ⟨mb, nodict B, BB⟩, nolimit := ⟨ml, nodict l1, l2⟩ }
      bs := fun b o e => of_hidT e
      bsz := Nat.le_of_eq (hidT_size _ _)
      funs := trivial
      frf := fun b hb => absurd hb (List.not_mem_nil)
      hok := ok
      bare := .of_eq g0 }
  refine codeAny_mono ((F _ Kb (nodict G)).go callerA [] s H ⟨[.ref a], []⟩ [.ref a] [.ref a] _ _ rfl hr E0 (bd s (.ref a)) (.cons rfl .nil) pr) ?_
  intro r t h
  match r, h with
  | .error e, h =>
    exact (show False from h).elim
  | .ok .next, h => exact False.elim h
  | .ok .brk, h => exact False.elim h
  | .ok .cont, h => exact False.elim h
  | .ok (.ret u), h =>
    obtain ⟨v, H', h1, h2, un, ok', rv, rfl⟩ := h
    cases rv
    refine ⟨rfl, OldK.of_keep fun b o e => ?_, h1, h2⟩
    cases q : H b with
    | none => exact un.keep b o e q List.not_mem_nil List.not_mem_nil
    | some u =>
      obtain ⟨rfl, _, ⟨ob, xs, rfl⟩, _⟩ := one b u q
      have e1 := (ok b _ q).1
      have e2 := (ok' b _ (un.frzs b ob _ q)).1
      rw [e] at e1
      cases e1
      exact e2
theorem lawG (KX : K.In s.heap) (G : s.heap.Ns mainGlobals mg) (B : s.heap.Ns builtinsNs mb) (BB : ∀ y : Str, y ≠ "__name__" → mb y = bootBuiltins y) (NL : s.heap.NoLimit) (g0 : s.gens = #[])
    (ha : s.heap.get? a = some { cls := .type "list", data := .seq vs.toArray }) (hi : IntsAre vs ns) (hl : ns.length ≤ sizeLine)
    (hr : Room k callerA) (F : ∀ base : Heap, K.In base → base.Ns mainGlobals mg → FnG P w K mg base CX0 k fa fd [x] sp) (bd : ∀ (t : Shared) (u : Value), BindsTo t fd ⟨[u], []⟩ [(x, u)])
    (pr : ∀ H : Hp, Only H → SqL K H a (ns.map V.int) → sp [.ref a] H (fun v _ => v = .bl true) fun _ _ _ => False) : codeAny (model P w) callerA (.call (.ref fa) ⟨[.ref a], []⟩) (LawEnd s) s := by
  have rv := vals_ints hi
  have lv := hi.length
  have nd : ∀ o es ep, s.heap.get? a = some o → o.data ≠ .dict es ep := by
    intro o es ep e d
    rw [ha] at e
    cases e
    cases d
  cases hk : K.lookup a with
  | some o =>
    have e := KX a o hk
    rw [ha] at e
    cases e
    have z : ∀ (b : Addr) (u : HO), (none : Option HO) = some u → False := fun _ _ q => nomatch q
    refine lawG_of KX G B BB NL g0 hr F bd (fun _ => none) (fun b u q => (z b u q).elim) (fun b u q => (z b u q).elim) (pr _ (fun _ => .inl rfl) (.inr ⟨_, vs.toArray, _, hk, rfl, rfl, rfl, ?_, by simpa using rv⟩))
    rw [List.size_toArray, lv]
    exact hl
  | none =>
    let o0 : Obj := { cls := .type "list", data := .seq vs.toArray }
    let Ha : Hp := fun b => if b = a then some (.frz o0 (.lst (ns.map V.int))) else none
    have at_a : Ha a = some (.frz o0 (.lst (ns.map V.int))) := if_pos rfl
    have but : ∀ b u, Ha b = some u → b = a ∧ u = .frz o0 (.lst (ns.map V.int)) := by
      intro b u q
      by_cases hb : b = a
      · subst hb
        rw [at_a] at q
        exact ⟨rfl, (Option.some.inj q).symm⟩
      · have q' : (none : Option HO) = some u := (if_neg hb).symm.trans q
        cases q'
    refine lawG_of KX G B BB NL g0 hr F bd Ha (fun b u q => ?_) (fun b u q => ?_) (pr _ (fun b => ?_) (.inl (.inr ⟨o0, at_a⟩)))
    · obtain ⟨e1, e2⟩ := but b u q
      exact ⟨e1, hk, ⟨_, _, e2⟩, nd⟩
    · obtain ⟨rfl, rfl⟩ := but b u q
      exact ⟨ha, by rw [List.length_map]; exact hl, vs, _, rv, ha⟩
    · by_cases hb : b = a
      · exact .inr ⟨_, _, by rw [hb]; exact at_a⟩
      · exact .inl (if_neg hb)
end
open PySem.W in
/-- the goal that the head leaves -/
theorem walkG {l : OpenLaw} {n k : Nat} {q : Program} {loose : List Str} {XP : (Str → Option Value) → Heap → Prop} {YP : World → Heap → Prop} {d : DefRec} {K : Params → Frag} {sp : Frag → Sp} {x : Str}
    (hn : l.most = some n) (hz : n ≤ sizeLine) (h0 : d.params.defaults = []) (hr : Room k callerA) (hY : ∀ (w : World) (h : Heap), YP w h → (K w.params).In h)
    (F : ∀ (w : World) (mg : Str → Option Value) (fa : Addr) (h : Heap), (K w.params).In h → h.Ns mainGlobals mg → mg d.name = some (.ref fa) → ∃ fd : FuncData,
      (∀ (t : Shared) (u : Value), BindsTo t fd ⟨[u], []⟩ [(x, u)]) ∧ ∀ base : Heap, (K w.params).In base → base.Ns mainGlobals mg → FnG l.prog w (K w.params) mg base CX0 k fa fd [x] (sp (K w.params)))
    (pr : ∀ (K : Frag) (H : Hp) (a : Addr) (ns : List Int), ns.length ≤ n → Only H → SqL K H a (ns.map V.int) → sp K [.ref a] H (fun v _ => v = .bl true) fun _ _ _ => False) :
    WalkO q loose XP YP l.row.toRowW d [] (fun f us => PySem.call f us) := by
  refine Att.attach_call hn h0 ?_
  intro w s₀ s₁ mg mb fa o pm cd doc a us ns G Y ho hd hcd hm hobj hints hlen hg
  obtain ⟨fd, hb, hF⟩ := F w mg fa _ (hY w _ Y) G.T.g hm
  exact lawG (hY w _ Y) G.T.g G.T.b G.T.builtins G.T.nolimit hg hobj hints (Nat.le_trans hlen hz) hr hF hb fun H hO hS => pr _ H a ns hlen hO hS
end Kx
namespace Kx
open PySem PySem.Spec PyProof.Rows L2 SX
/-! ### heaps -/
theorem same_new {H : Hp} {p : Addr} {o : HO} (h : H p = none) : Same H (upd H p o) := fun b u e => by
  rw [upd_ne (ne_of_none e h)]
  exact e
theorem Same.t {K : PySem.W.Frag} {H H' : Hp} {a : Addr} {xs : List V} (e : Same H H') (h : SqT K H a xs) : SqT K H' a xs := by
  rcases h with (h | ⟨o, h⟩) | h
  · exact .inl (.inl (e _ _ h))
  · exact .inl (.inr ⟨o, e _ _ h⟩)
  · exact .inr h
/-- a list or a tuple -/
def SqQ (K : PySem.W.Frag) (H : Hp) (a : Addr) (xs : List V) : Prop := SqL K H a xs ∨ SqT K H a xs
theorem Same.q {K : PySem.W.Frag} {H H' : Hp} {a : Addr} {xs : List V} (e : Same H H') (h : SqQ K H a xs) : SqQ K H' a xs := h.imp e.seq (Same.t e)
theorem tyL {K : PySem.W.Frag} {H : Hp} {a : Addr} {xs : List V} (h : SqL K H a xs) : TyX K H (.ref a) (.type "list") := by
  rcases h with (h | ⟨o, h⟩) | ⟨o, vs, n, h, hc, _⟩
  · exact .base (.lst h)
  · exact .base (.frz h)
  · exact .kList h hc
theorem tyT {K : PySem.W.Frag} {H : Hp} {a : Addr} {xs : List V} (h : SqT K H a xs) : TyX K H (.ref a) (.type "tuple") := by
  rcases h with (h | ⟨o, h⟩) | ⟨o, vs, n, h, hc, _⟩
  · exact .base (.tup h)
  · exact .fTuple h
  · exact .kTuple h hc
theorem kit_at {K : PySem.W.Frag} {n : String} {a b : Bool} (h1 : kitB n "list" = some a) (h2 : kitB n "tuple" = some b) : PySem.W.kitAny K (.type n) [.type "list", .type "tuple"] = some (a || b) := by
  refine kitAny_cons (kit_ty h1) (fun e => ?_) (fun e => by rw [e]; rfl)
  rw [e, Bool.false_or]
  exact kitAny_cons (kit_ty h2) (fun e => by rw [e]; exact kitAny_nil) (fun e => e)
theorem isl_q {K : PySem.W.Frag} {H : Hp} {a : Addr} {xs : List V} (h : SqQ K H a xs) : ∃ n, TyX K H (.ref a) (.type n) ∧ PySem.W.kitAny K (.type n) [.type "list", .type "tuple"] = some true := by
  rcases h with h | h
  · exact ⟨_, tyL h, kit_at (a := true) (b := false) (by decide +kernel) (by decide +kernel)⟩
  · exact ⟨_, tyT h, kit_at (a := false) (b := true) (by decide +kernel) (by decide +kernel)⟩
theorem ix_q {K : PySem.W.Frag} {H : Hp} {a : Addr} {xs : List V} {i : Int} {v : V} {Q : VK} (h : SqQ K H a xs) (hv : atI xs i = some v) (q : Q v H) : rIx K (.ref a) (.int i) H Q := by
  rcases h with h | h
  · exact .inl ⟨a, xs, i, v, rfl, rfl, h, hv, q⟩
  · exact .inr (.inl ⟨a, xs, i, v, rfl, rfl, h, hv, q⟩)
/-- is it data of this form, whatever tracks it -/
theorem dp_same {K : PySem.W.Frag} {H H' : Hp} (e : Same H H') : ∀ (d : PyData) (v : V), Dp K H v d → Dp K H' v d := by
  intro d v h
  exact Dp.rec (motive_1 := fun v d _ => Dp K H' v d) (motive_2 := fun vs ds _ => DpAll K H' vs ds) .non .bl .int .str (fun h _ i => .lst (e.seq h) i) (fun h _ i => .tup (Same.t e h) i) .nil (fun _ _ a b => .cons a b) h
end Kx
namespace Kx
open PySem PySem.Spec PyProof.Rows L2 SX
theorem iteC {c : Bool} {A B : Prop} (h1 : c = true → A) (h2 : c = false → B) : if c = true then A else B := by
  cases c with
  | true => exact iteT (h1 rfl)
  | false => exact iteF (h2 rfl)
/-! ### letters and signs -/
def low (c : Nat) : Bool := decide (97 ≤ c) && decide (c ≤ 122)
def lowB (l : List Nat) : Bool := !l.isEmpty && l.all low
def sg (c : Nat) : Bool := decide (c = 32) || low c
def textB (l : List Nat) : Bool := decide (l.length ≤ 200000) && l.all sg
theorem ascii1 : (List.range 128).all (fun c => (if Unicode.isAlpha c then (Unicode.isLower c && !(Unicode.isUpper c || Unicode.isTitle c)) == low c && ((Unicode.isLower c && !(Unicode.isUpper c || Unicode.isTitle c)) || (Unicode.isUpper c || Unicode.isTitle c)) else !low c)) = true := by decide +kernel
theorem ascii2 (c : Nat) (h : c < 128) : (Unicode.isAlpha c = true → ((Unicode.isUpper c || Unicode.isTitle c) = !low c) ∧ (low c = true → Unicode.isLower c = true)) ∧ (low c = true → Unicode.isAlpha c = true) := by
  have z := List.all_eq_true.mp ascii1 c (List.mem_range.mpr h)
  cases ha : Unicode.isAlpha c <;> cases hl : Unicode.isLower c <;> cases hu : (Unicode.isUpper c || Unicode.isTitle c) <;> cases hw : low c <;> simp_all
theorem low_lt {c : Nat} (h : low c = true) : c < 128 := by
  unfold low at h
  simp only [Bool.and_eq_true, decide_eq_true_eq] at h
  omega
theorem letters_S (l : List Nat) : (Txt.isascii (S l) && (Txt.isalpha (S l) && Txt.islower (S l))) = lowB l := by
  have ea : ∀ p : Nat → Bool, (S l).cps.all p = l.all p := fun p => by simp
  have ey : ∀ p : Nat → Bool, (S l).cps.any p = l.any p := fun p => by simp
  unfold Txt.isascii Txt.isalpha Txt.islower lowB
  rw [ea, ea, ey, ey, S_len]
  cases l with
  | nil => rfl
  | cons d r =>
    have e0 : decide ((d :: r).length > 0) = true := by simp
    rw [e0, Bool.true_and]
    rw [Bool.eq_iff_iff]
    simp only [Bool.and_eq_true, List.all_eq_true, decide_eq_true_eq, List.any_eq_true, Bool.not_eq_true', List.isEmpty_cons, Bool.not_false, true_and]
    constructor
    · rintro ⟨h1, h2, _, h4⟩ c hc
      have k := (ascii2 c (h1 c hc)).1 (h2 c hc)
      have n : (Unicode.isUpper c || Unicode.isTitle c) = false := by
        cases q : (Unicode.isUpper c || Unicode.isTitle c) with
        | false => rfl
        | true =>
          rw [List.any_eq_false] at h4
          exact absurd q (h4 c hc)
      rw [n] at k
      simpa using k.1
    · intro h
      refine ⟨fun c hc => low_lt (h c hc), fun c hc => (ascii2 c (low_lt (h c hc))).2 (h c hc), ⟨d, List.mem_cons_self, ?_⟩, ?_⟩
      · have hd := h d List.mem_cons_self
        exact ((ascii2 d (low_lt hd)).1 ((ascii2 d (low_lt hd)).2 hd)).2 hd
      · rw [List.any_eq_false]
        intro c hc q
        have hd := h c hc
        have k := ((ascii2 c (low_lt hd)).1 ((ascii2 c (low_lt hd)).2 hd)).1
        rw [q, hd] at k
        cases k
end Kx
namespace Kx
open PySem PySem.Spec PyProof.Rows L2 SX
/-! ### an exception that a name keeps behind the suite -/
/-- at a: an exception of the class cls, its own dict at d -/
def exT (a : Addr) (cls : Value) (d : Option Addr) : HO := .ext fun h => ∃ (oe : Obj) (vs : Array Value), h.get? a = some oe ∧ Zc cls d oe ∧ oe.data = .fields vs
section
variable {X : Cx} {pn0 : List (Addr × Obj)} {σ : L2.St} {H : Hp} {s : Shared} {a : Addr} {oe : Obj} {cls : Value} {d : Option Addr}
theorem exT_ne (o : HO) (h : ∀ φ, o ≠ .ext φ) : exT a cls d ≠ o := fun z => h _ z.symm
/-- what stands pinned in the suite is tracked behind it -/
theorem Inv.track {vs : Array Value} (I : Inv X pn0 σ H s) (ha : s.heap.get? a = some oe) (hz : Zc cls d oe) (hd : oe.data = .fields vs) (na : H a = none) (new0 : X.s_0.heap.get? a = none) (nL : a ≠ X.env.locals)
    (np : ∀ p ∈ X.pn ++ pn0, p.1 ≠ a) : Inv X pn0 σ (upd H a (exT a cls d)) s := by
  have off : ∀ {b : Addr} {u : HO}, H b = some u → upd H a (exT a cls d) b = some u := fun {b u} e => by
    rw [upd_ne (ne_of_none e na)]
    exact e
  have un : ∀ {b : Addr}, b ≠ a → H b = none → upd H a (exT a cls d) b = none := fun {b} n e => by
    rw [upd_ne n]
    exact e
  have old : ∀ {b : Addr} {o : Obj}, X.s_0.heap.get? b = some o → b ≠ a := fun {b o} e z => by
    rw [z, new0] at e
    cases e
  exact
    { ok := I.ok
      os := I.os
      bare := I.bare
      base :=
        { keep := I.base.keep
          slot := I.base.slot
          free := fun b o e n x => un (old e) (I.base.free b o e n x)
          there := I.base.there
          tups := fun b xs e => off (I.base.tups b xs e)
          frzs := fun b o u e => off (I.base.frzs b o u e)
          tbls := fun b ps e => by
            obtain ⟨m, q⟩ := I.base.tbls b ps e
            exact ⟨m, off q⟩ }
      loc := I.loc
      cell := I.cell
      free := un (Ne.symm nL) I.free
      freeC := fun y c e => by
        refine un (fun z => ?_) (I.freeC y c e)
        obtain ⟨v, o, e1, e2⟩ := I.cell y c e
        rw [z, ha] at e1
        cases e1
        rw [hd] at e2
        cases e2
      pin := fun p hp => by
        obtain ⟨e, n, r⟩ := I.pin p hp
        exact ⟨e, un (np p hp) n, r⟩
      hok := HOk.laidN (P := X.prog) (w := X.w) I.hok (fun _ _ e => e) na ⟨⟨oe, vs, ha, hz, hd⟩, ⟨oe, ha⟩, fun h1 h2 z k => by
        obtain ⟨o, v, e1, e2⟩ := z
        exact ⟨o, v, k _ e1, e2⟩⟩
      len := I.len }
end
/-- what «try: .. except x as n: y = n» wishes of an exception: it is one of x's; y keeps it -/
def wKeep (K : PySem.W.Frag) (n : Nat) (c : Value) (i j : Nat) (D : Ends) : WX := fun cls d σ H =>
  PySem.W.exmOne K cls c = some true ∧ ∀ a, H a = none → σ.length = n → D.nx ((((σ.set i (some (.ref a))).set j (some (.ref a)))).set i none) (upd H a (exT a cls d))
section
variable {X : Cx} {x n y : Str} {c : Value} {i j : Nat} {body : List Stmt} {p1 p2 p3 np pos pos' : Pos} {tb : WX → TS}
theorem ps_keep (hs : X.stack = X.env :: X.outer) (hex : X.ex = []) (hf : X.env.frame = some X.env.locals) (hN : X.N.Nodup) (hi : X.N[i]? = some n) (hln : X.env.kindOf n = some .local) (hlv : X.env.scope.names.lookup n = some .local)
    (hj : X.N[j]? = some y) (hlj : X.env.scope.names.lookup y = some .local) (hc : Names X x c) (hdb : (n == ("__debug__" : Str)) = false) (hdc : (n == ("__classdict__" : Str)) = false)
    (hb : ∀ (W : WX) (pn : List (Addr × Obj)) (xe : Value → Shared → Prop), Takes (X.tr pn xe) W → PassesOwn (model X.prog X.w) X.A X.env xe → PSs (X.tr pn xe) body (tb W)) :
    PS X (.Try body [.ExceptHandler (some (.Name x np)) (some n) [.Assign [.Name y p1] (.Name n p2) p3] pos'] [] [] pos) (fun D σ H => tb (wKeep X.K X.N.length c i j D) D σ H) := by
  refine ⟨fun pn0 s σ H D I h => ?_⟩
  have ok := I.ok
  have fr : X.A.frames = some (X.env :: X.outer) := by rw [ok.frames, hs]
  apply wpAny_Try_except
  have run := hb (wKeep X.K X.N.length c i j D) (X.pn ++ pn0)
    (fun e t1 => wpAny (model X.prog X.w) X.A (noteFrame e X.env)
      (fun _ t2 => wpAny (model X.prog X.w) X.A (setFlight e none)
        (fun _ t3 => wpAny (model X.prog X.w) X.A (handleBy e X.env [.ExceptHandler (some (.Name x np)) (some n) [.Assign [.Name y p1] (.Name n p2) p3] pos']) (SP X pn0 D) X.xe t3) X.xe t2) X.xe t1) ?take PassesOwn.looking
  case take =>
    rintro u t ⟨a, B, sI, pins', σ', H', cls, d, rfl, J', nb, up, sky, na, os, ag, isOne, hend⟩
    have Jb : Inv X pn0 σ' H' sI := J'.ofTry ok
    rw [show (X.tr (X.pn ++ pn0) _).stack = X.env :: X.outer from hs] at sky
    show wpAny (model X.prog X.w) X.A (noteFrame (.ref a) X.env) _ _ _
    refine Sky.land Zc.steady fr hf sky (fun h3 fl up3 => ?_)
    have J3 : Inv X pn0 σ' H' { t with heap := h3 } := Jb.landed nb fl.1 (up.trans up3) os ag
    have Bn := fl.2.1
    obtain ⟨oz3, vz3, at3, zc3, dt3⟩ := fl.there
    have out : a ∉ frs (X.env :: X.outer) := by
      intro hm
      obtain ⟨_, o', e', hnf⟩ := fl.2.2.1.mem hm
      rw [at3] at e'
      cases e'
      exact hnf _ dt3
    have nL : a ≠ X.env.locals := fun z => out (List.mem_filterMap.mpr ⟨X.env, List.mem_cons_self, by rw [hf, z]⟩)
    have nF : a ∉ X.fs := by
      intro hm
      obtain ⟨e, hme, q⟩ := List.mem_filterMap.mp hm
      exact out (List.mem_filterMap.mpr ⟨e, List.mem_cons_of_mem _ hme, q⟩)
    have gone : ∀ {b : Addr} {o : Obj}, sI.heap.get? b = some o → b ≠ a := by
      intro b o e z
      rw [z] at e
      have q := nb a o e (by rw [hs]; exact out)
      rw [Bn] at q
      cases q
    have new0 : X.s_0.heap.get? a = none := by
      cases q : X.s_0.heap.get? a with
      | none => rfl
      | some o =>
        obtain ⟨o', e'⟩ := Jb.base.there a o q (by rw [hex]; exact List.not_mem_nil)
        exact absurd rfl (gone e')
    have np0 : ∀ p ∈ X.pn ++ pn0, p.1 ≠ a := fun p hp => gone (Jb.pin p hp).1
    have In3 := J3.suite at3 dt3 na nL nF
    refine wpAny_handleBy_cons (codeAny_handlers_test ?_) (by intro q; cases q)
    have lookT : PySem.W.Looks (model X.prog X.w) h3 (typeOf (.ref a)) cls := fun A Q E s k q => wpAny_typeOf_ref (k _ _ at3) (by rw [zc3.1]; exact q)
    have LM := PySem.W.exm_one (M := model X.prog X.w) J3.kIn lookT isOne
    have named : ∀ {Q E : Value → Shared → Prop}, Q c { t with heap := h3 } → wpAny (model X.prog X.w) (X.A.mark (some (.ref a))) (eval (.Name x np) X.env) Q E { t with heap := h3 } := by
      intro Q E q
      obtain ⟨g, gd, g2⟩ := hc
      rcases g2 with m | ⟨m, v, nn⟩
      · exact ld_glob (X := X.suite a ((a, oz3) :: (X.pn ++ pn0))) In3 g m q gd
      · exact ld_blt (X := X.suite a ((a, oz3) :: (X.pn ++ pn0))) In3 g m v q nn gd
    refine named (LM.here ?_)
    refine codeAny_handlers_suite_as (HandSPX.lands_againZ fl fun h4 flr up4 => ?_)
    have J4 : Inv X pn0 σ' H' { t with heap := h4 } := Jb.landed nb flr.1 ((up.trans up3).trans up4) os ag
    obtain ⟨oz4, vz4, at4, zc4, dt4⟩ := flr.there
    have In4 := J4.suite at4 dt4 na nL nF
    refine store_ok (X := X.suite a ((a, oz4) :: (X.pn ++ pn0))) (v := .ref a) In4 hN hi (.inl hlv) rfl (fun s5 S5 => ?_) (.inr hlv)
    have il : i < σ'.length := by
      rw [In4.len]
      exact (List.getElem?_eq_some_iff.mp hi).1
    have suite : PSs (X.suite a ((a, oz4) :: (X.pn ++ pn0))) [.Assign [.Name y p1] (.Name n p2) p3] (tAsg (tVar i) (gName j)) :=
      pss_one (ps_set hN hj (.inl hlj) (pe_var hi (.inl hlv) hdb hdc) rfl (.inr hlj))
    refine wpAny_mono (suite.run [] s5 _ H' { nx := fun σ6 H6 => σ6 = (σ'.set i (some (.ref a))).set j (some (.ref a)) ∧ H6 = H', rt := fun _ _ => False, bk := fun _ _ => False, ct := fun _ _ => False } S5 ⟨_, List.getElem?_set_self il, rfl, rfl⟩) (fun f s6 q => ?_) (fun _ _ z => False.elim z)
    match f, q with
    | .ret _, q =>
      obtain ⟨_, _, _, _, _, z⟩ := q
      exact False.elim z
    | .brk, q =>
      obtain ⟨_, _, _, z⟩ := q
      exact False.elim z
    | .cont, q =>
      obtain ⟨_, _, _, z⟩ := q
      exact False.elim z
    | .next, q =>
      obtain ⟨σ6, H6, S6, rfl, rfl⟩ := q
      have pin := S6.pin (a, oz4) List.mem_cons_self
      have J6 : Inv X pn0 _ _ s6 := S6.unsuite ok
      have J7 := Kx.Inv.track J6 pin.1 zc4 dt4 na new0 nL np0
      refine gone_ok J7 hN hi hln fun s8 J8 => ⟨_, _, J8, hend a na Jb.len⟩
  refine wpAny_mono (run.run [] s σ H D (I.toTry _) h) (fun f s1 q => ?_) fun _ _ z => z
  match f, q with
  | .next, q =>
    obtain ⟨σ', H', J', z⟩ := q
    exact wpAny_execs_nil ⟨σ', H', J'.ofTry ok, z⟩
  | .brk, q =>
    obtain ⟨σ', H', J', z⟩ := q
    exact ⟨σ', H', J'.ofTry ok, z⟩
  | .cont, q =>
    obtain ⟨σ', H', J', z⟩ := q
    exact ⟨σ', H', J'.ofTry ok, z⟩
  | .ret u, q =>
    obtain ⟨v, σ', H', J', r, z⟩ := q
    exact ⟨v, σ', H', J'.ofTry ok, r, z⟩
end
end Kx
namespace Kx
open PySem PySem.Spec PyProof.Rows L2 SX LamX
section
variable {X : Cx} {pn0 : List (Addr × Obj)} {σ : L2.St} {H HZ : Hp} {s sB : Shared}
abbrev lamQ (X : Cx) : Str := X.env.qual ++ "<lambda>"
/-- the lambda as an object, its defaults at dV -/
abbrev lamObj (X : Cx) (params : Arguments) (body : Expr) (scp : Scope) (dV doc pm : Value) (c' : Addr) (ctv : Value) : Obj := PySem.W.kdv_obj "<lambda>" (lamQ X) params (.expr body) scp (cloFrom X.env.cells scp.names []) dV doc pm c' ctv
/-- what the making leaves -/
def Made (X : Cx) (pn0 : List (Addr × Obj)) (σ : L2.St) (H : Hp) (T : List (Addr × Str)) (params : Arguments) (body : Expr) (scp : Scope) (dV : Value) (s0 : Shared) (v : Value) (s' : Shared) : Prop :=
  ∃ (f c' : Addr) (doc pm ctv : Value) (H1 : Hp), v = .ref f ∧ Inv X pn0 σ H1 s' ∧ ExtN H H1 ∧ Tabs T H1 ∧ s'.heap.get? f = some (lamObj X params body scp dV doc pm c' ctv) ∧ H1 f = none ∧ f ∉ frs X.stack ∧ H1 c' = some (CodeO c' (lamQ X)) ∧
    (∀ b o, s0.heap.get? b = some o → (∀ pz, H b ≠ some (.tbl pz)) → s'.heap.get? b = some o) ∧ (∀ b, b < s0.heap.objs.size → H b = none → H1 b = none)
theorem lam_tail {T : List (Addr × Str)} {c P : Addr} {params : Arguments} {body : Expr} {scp : Scope} {pos : Pos} {ln : Nat} {dV : Value} {E : Value → Shared → Prop} (I : Inv X pn0 σ H s) (TB : TabB X.base X.mg c P) (hcode : X.env.code = .ref c)
    (hm : (P, lamQ X) ∈ T) (onlyP : ∀ p ∈ T, p.1 = P → p.2 = lamQ X) (hT : Tabs T H) (hfree : ∀ y ∈ scp.names, y.2 = .free → ∃ c, X.env.cells.lookup y.1 = some c) :
    wpAny (model X.prog X.w) X.A (makeTail "<lambda>" (lamQ X) params (.expr body) scp X.env dV .none none pos ln) (Made X pn0 σ H T params body scp dV s) E s := by
  obtain ⟨pz, eP, tr3, amg⟩ := hT _ hm
  have btP : s.heap.BuiltinsAt X.mg P := TB.bm.keeps I.bk
  have hP' : s.heap.get? P = some { cls := .none, data := .fields pz } := I.hok P _ eP
  have nofr : ∀ f, s.heap.objs.size ≤ f → f ∉ frs X.stack := by
    intro f hf z
    rcases List.mem_cons.mp (I.stkSub _ z) with e | e
    · have h1 := I.lt
      rw [← e] at h1
      exact absurd (Nat.lt_of_lt_of_le h1 hf) (Nat.lt_irrefl _)
    · exact I.nofs hf e
  cases fnd : codeAmong pos pz.toList with
  | none =>
    refine PySem.W.kdv_makeTail (mg := X.mg) (c := c) (P := P) (ps := pz) (closure_ok hfree) I.ok.glob (I.mod.glob.keeps I.bk) hcode (TB.code.keeps I.bk) hP' tr3 fnd TB.gP btP fun c' ctv doc h' tk stP gec ltc rcc tbb => ?_
    obtain ⟨cc2, oc, vs, t, e2, ocE, hd, ovE⟩ := rcc
    cases e2
    have szle : s.heap.objs.size ≤ h'.objs.size := Nat.le_trans gec (Nat.le_of_lt ltc)
    have ncn : H c' = none := I.hok.fresh gec
    have up : ∀ b o, b ≠ P → s.heap.get? b = some o → (h'.push (lamObj X params body scp dV doc ((X.mg "__name__").getD .none) c' ctv)).get? b = some o := fun b o hb e => Heap.get?_push_of_some _ (stP b o hb e)
    have I1 := inv_table (t' := tk) (more := #[rawInt pos.line, rawInt pos.col, .ref c']) (h' := h'.push (lamObj X params body scp dV doc ((X.mg "__name__").getD .none) c' ctv)) I eP up (Heap.get?_push_of_some _ tbb) gec ⟨oc, vs, t, Heap.get?_push_of_some _ ocE, hd, ovE⟩
    have exE : ExtN H (upd (upd H P (.tbl (pz ++ #[rawInt pos.line, rawInt pos.col, .ref c']))) c' (CodeO c' (lamQ X))) := by
      intro b o e n
      rw [upd_ne (ne_of_none e ncn), upd_ne (fun z => n pz (Option.some.inj (e.symm.trans (by rw [z]; exact eP))))]
      exact e
    have ell : (pz ++ #[rawInt pos.line, rawInt pos.col, .ref c']).toList = pz.toList ++ [rawInt pos.line, rawInt pos.col, .ref c'] := by simp
    refine ⟨h'.objs.size, c', doc, _, ctv, _, rfl, I1, exE, fun p hp => ?_, Heap.get?_push_size _ rfl, ?_, nofr _ szle, upd_same, fun b o e n => up b o (fun z => n pz (by rw [z]; exact eP)) e, fun b hb n => ?_⟩
    · by_cases hb : p.1 = P
      · rw [onlyP p hp hb, hb]
        refine ⟨_, by rw [upd_ne (ne_of_none eP ncn), upd_same], by rw [ell]; exact PySem.TriplesOk_snoc _ _ _ _ tr3, fun p' cwv cvE => ?_⟩
        rw [ell] at cvE
        rcases among_app _ tr3 cvE with z | z
        · obtain ⟨cq, e1, e2⟩ := amg p' cwv z
          exact ⟨cq, e1, exE _ _ e2 codeO_ne⟩
        · exact ⟨c', z, upd_same⟩
      · obtain ⟨ps', a1, a2, a3⟩ := hT p hp
        refine ⟨ps', by rw [upd_ne (ne_of_none a1 ncn), upd_ne hb]; exact a1, a2, fun p' cwv cvE => ?_⟩
        obtain ⟨cq, e1, e2⟩ := a3 p' cwv cvE
        exact ⟨cq, e1, exE _ _ e2 codeO_ne⟩
    · rw [upd_ne (Nat.ne_of_gt ltc), upd_ne (Nat.ne_of_gt (Nat.lt_of_lt_of_le (Heap.lt_size hP') szle))]
      exact I.hok.fresh szle
    · have n1 : b ≠ c' := Nat.ne_of_lt (Nat.lt_of_lt_of_le hb gec)
      have n2 : b ≠ P := fun z => by
        rw [z, eP] at n
        cases n
      rw [upd_ne n1, upd_ne n2]
      exact n
  | some cwv =>
    obtain ⟨c', e, hco⟩ := amg pos cwv fnd
    subst e
    refine PySem.W.kdv_makeTailHit (mg := X.mg) (c := c) (P := P) (ps := pz) (closure_ok hfree) I.ok.glob (I.mod.glob.keeps I.bk) hcode (TB.code.keeps I.bk) hP' tr3 fnd btP fun ctv doc h' tk stP szle => ?_
    refine ⟨h'.objs.size, c', doc, (X.mg "__name__").getD .none, ctv, H, rfl, I.kept fun b o e => Heap.get?_push_of_some _ (stP b o e), ExtN.refl H, hT, Heap.get?_push_size _ rfl, I.hok.fresh szle, nofr _ szle, hco, fun b o e _ => Heap.get?_push_of_some _ (stP b o e), fun _ _ n => n⟩
/-- .. with one default, 0 -/
theorem lam_makeD {T : List (Addr × Str)} {c P : Addr} {params : Arguments} {body : Expr} {scp : Scope} {pos cp : Pos} {j : Nat} {E : Value → Shared → Prop} {Qw : Value → Shared → Prop} (I : Inv X pn0 σ H s) (TB : TabB X.base X.mg c P) (hcode : X.env.code = .ref c)
    (hm : (P, lamQ X) ∈ T) (onlyP : ∀ p ∈ T, p.1 = P → p.2 = lamQ X) (hT : Tabs T H) (hfree : ∀ y ∈ scp.names, y.2 = .free → ∃ c, X.env.cells.lookup y.1 = some c)
    (hp : params.defaults = [.Constant (.int 0) j cp]) (hk : params.kw_defaults = [])
    (h : ∀ (t f c' : Addr) (tk : Tok) (doc pm ctv : Value) (H1 : Hp) (s' : Shared), Inv X pn0 σ H1 s' → ExtN H H1 → Tabs T H1 → s'.heap.get? t = some (PySem.W.kdv_tup [.int 0 tk]) → H1 t = none → t ∉ frs X.stack →
      s'.heap.get? f = some (lamObj X params body scp (.ref t) doc pm c' ctv) → H1 f = none → f ∉ frs X.stack → H1 c' = some (CodeO c' (lamQ X)) → Qw (.ref f) s') :
    wpAny (model X.prog X.w) X.A (eval (.Lambda params body scp pos) X.env) Qw E s := by
  refine PySem.W.kdv_lam (by rw [hp]; rfl) hk ?_
  rw [hp]
  refine PySem.W.kdv_all1 (thn ((pe_int (X := X) (i := 0) (j := j) (pos := cp)).run pn0 s σ H (fun v H1 => v = .int 0 ∧ H1 = H) I ⟨rfl, rfl⟩) fun u sB ⟨v, H1, I1, r, e1, e2⟩ => ?_)
  subst e1 e2
  obtain ⟨tk, rfl⟩ := r
  refine PySem.W.kdv_all0 ?_
  rw [makeFunction_eq]
  simp only [List.zip_nil_right, List.filterMap_nil, List.isEmpty_nil, if_true, pure_bind, List.isEmpty_cons, Bool.false_eq_true, if_false]
  refine wpAny_bind (wpAny_newTextTuple ?_)
  have fresh : H1 sB.heap.objs.size = none := I1.hok.fresh (Nat.le_refl _)
  have off : sB.heap.objs.size ∉ frs X.stack := by
    intro z
    rcases List.mem_cons.mp (I1.stkSub _ z) with e | e
    · exact absurd I1.lt (by rw [← e]; exact Nat.lt_irrefl _)
    · exact I1.nofs (Nat.le_refl _) e
  have I2 : Inv X pn0 σ H1 { sB with heap := sB.heap.push (PySem.W.kdv_tup [.int 0 tk]) } := I1.kept (t' := sB.toks) fun b o e => Heap.get?_push_of_some _ e
  refine thn (lam_tail I2 TB hcode hm onlyP hT hfree) fun v s2 ⟨f, c', doc, pm, ctv, H2, ev, I3, eN, T3, hf, nf, off2, hco, keep, fr⟩ => ?_
  subst ev
  refine h sB.heap.objs.size f c' tk doc pm ctv H2 s2 I3 eN T3 (keep _ _ (Heap.get?_push_size _ rfl) fun pz z => ?_) (fr _ ?_ fresh) off hf nf off2 hco
  · rw [fresh] at z
    cases z
  · show sB.heap.objs.size < (sB.heap.push _).objs.size
    rw [Heap.size_push]
    exact Nat.lt_succ_self _
/-! ### its body -/
/-- one parameter, z, with a default; else captured names and globals -/
structure LamP (sc scp : Scope) (z : Str) : Prop where
  kind : scp.kind = .function
  co : scp.isCoroutine = false
  gen : scp.isGenerator = false
  own : ∀ y ∈ scp.names, y.2 ≠ .cell ∧ (y.2 = .local → y.1 = z)
  par : scp.names.lookup z = some .local
  free : ∀ y ∈ scp.names, y.2 = .free → sc.names.lookup y.1 = some .cell ∨ sc.names.lookup y.1 = some .free
theorem LamP.has {X : Cx} {scp : Scope} {z : Str} (L : LamP X.env.scope scp z) (ok : X.Ok) : ∀ y ∈ scp.names, y.2 = .free → ∃ c, X.env.cells.lookup y.1 = some c := fun y hy e => ok.has _ ((L.free y hy e).imp id id)
/-- the slots' names without z -/
def hideN (z : Str) (N : List Str) : List Str := N.map fun y => if y = z then ("%" : Str) else y
/-- the context of such a body -/
def lamCxD (X : Cx) (A : Around) (outer : List Env) (s : Shared) (H : Hp) (E : XK) (scp : Scope) (z : Str) (f c' : Addr) : Cx := { lamCx X A outer s H E scp f c' with N := hideN z X.N }
theorem lam_startD {A : Around} {outer : List Env} {E : XK} {scp : Scope} {z : Str} {f c' : Addr} {h₁ : Heap} {tk : Nat} {u : Value} (I : Inv X pn0 σ H s) (L : LamP X.env.scope scp z) (hz : scp.names.lookup ("%" : Str) = none) (e0 : Env0 X.prog X.w X.K X.mg X.base A outer sB HZ)
    (hd : A.handled = none) (un : Un (frs X.stack) [] H HZ s.heap sB.heap) (hns : h₁.Ns sB.heap.objs.size fun y => ([(z, u)] : List (Str × Value)).reverse.lookup y) (kp : ∀ b o, sB.heap.get? b = some o → h₁.get? b = some o) :
    Inv (lamCxD X A outer sB HZ E scp z f c') [] σ HZ { sB with heap := h₁, toks := tk } := by
  have hfree := L.has I.ok
  have back : ∀ {y c}, (cloFrom X.env.cells scp.names []).lookup y = some c → X.env.cells.lookup y = some c := by
    intro y c e
    rcases cloFrom_mem (PySem.mem_of_lookup e) with hm | ⟨h1, h2⟩
    · cases hm
    · obtain ⟨cc1, fnd⟩ := hfree _ h1 rfl
      have hc' : X.env.cells.lookup y = some cc1 := fnd
      have e2 : c = cc1 := by
        rw [h2]
        show (X.env.cells.lookup y).getD 0 = cc1
        rw [hc'] <;> rfl
      rw [e2]
      exact hc'
  have there : ∀ {y}, scp.names.lookup y = some .free → ∃ c, (cloFrom X.env.cells scp.names []).lookup y = some c := fun {y} hl => mem_lookup (cloFrom_has (cells := X.env.cells) (acc := []) (PySem.mem_of_lookup hl))
  have cellK : ∀ {c : Addr} {v : Option Value}, H c = none → s.heap.IsCell c v → h₁.IsCell c v := by
    rintro c v n ⟨o, ho, hdat⟩
    obtain ⟨sl, q⟩ := un.any ho n List.not_mem_nil
    exact ⟨_, kp _ _ q, hdat⟩
  have noEx : ∀ b : Addr, b ∉ (lamCxD X A outer sB HZ E scp z f c').ex := fun b => List.not_mem_nil
  refine
    { ok :=
        { mod := e0.mod
          kind := L.kind
          glob := rfl
          blt := rfl
          above := Nat.le_refl _
          inj := fun y y2 c e1 e2 => I.ok.inj y y2 c (back e1) (back e2)
          has := fun y hy => ?has
          cab := fun y c q _ => absurd (show false = true from q) Bool.false_ne_true
          hd := fun _ => hd
          frames := Around.frames_deeper e0.frames
          stk := .inr ⟨rfl, rfl⟩
          exf := fun b q => absurd q (noEx b)
          bs := e0.bs
          bsz := e0.bsz
          noex := fun b _ _ => noEx b
          exfs := fun b q => absurd q (noEx b)
          funs := e0.funs
          frf := e0.frf }
      os := rfl
      bare := e0.bare
      base := Un.kept kp
      loc := ⟨_, hns, fun i y v e1 e2 e3 => ?loc⟩
      cell := fun y c e => ?cell
      free := e0.hok.fresh (Nat.le_refl _)
      freeC := fun y c e => ?freeC
      pin := fun q hq => absurd (show q ∈ ([] : List (Addr × Obj)) ++ [] from hq) List.not_mem_nil
      hok := e0.hok.kept kp
      len := ?len }
  case has =>
    rcases (show scp.names.lookup y = some .cell ∨ scp.names.lookup y = some .free from hy) with q | q
    · exact absurd rfl (L.own _ (PySem.mem_of_lookup q)).1
    · exact there q
  case loc =>
    have e3 : Vis scp y := e3
    have e1' : (hideN z X.N)[i]? = some y := e1
    rcases e3 with k | k | k
    · exfalso
      have ez : y = z := (L.own _ (PySem.mem_of_lookup k)).2 rfl
      unfold hideN at e1'
      rw [List.getElem?_map] at e1'
      cases q : X.N[i]? with
      | none =>
        rw [q] at e1'
        cases e1'
      | some n =>
        rw [q] at e1'
        have e4 : (if n = z then ("%" : Str) else n) = y := Option.some.inj e1'
        by_cases hn : n = z
        · rw [if_pos hn] at e4
          rw [← e4, hz] at k
          cases k
        · rw [if_neg hn] at e4
          exact hn (e4.trans ez)
    · exact absurd rfl (L.own _ (PySem.mem_of_lookup k)).1
    · have eN : X.N[i]? = some y := by
        unfold hideN at e1'
        rw [List.getElem?_map] at e1'
        cases q : X.N[i]? with
        | none =>
          rw [q] at e1'
          cases e1'
        | some n =>
          rw [q] at e1'
          have e4 : (if n = z then ("%" : Str) else n) = y := Option.some.inj e1'
          by_cases hn : n = z
          · rw [if_pos hn] at e4
            rw [← e4, hz] at k
            cases k
          · rw [if_neg hn] at e4
            rw [e4]
      obtain ⟨m, hn, hl⟩ := I.loc
      have vis : Vis X.env.scope y := (L.free _ (PySem.mem_of_lookup k) rfl).elim (fun q => .inr (.inl q)) fun q => .inr (.inr q)
      obtain ⟨w', r, q⟩ := hl i y v eN e2 vis
      obtain ⟨cc2, h2⟩ := there k
      refine ⟨w', r, .inr ⟨.inr k, cc2, h2, ?_⟩⟩
      have cc1 := back h2
      rcases q with ⟨k', _⟩ | ⟨_, c3, e', q3⟩
      · have k' : X.env.scope.names.lookup y = some .local := k'
        rcases L.free _ (PySem.mem_of_lookup k) rfl with kk2 | kk2 <;> rw [show X.env.scope.names.lookup y = _ from kk2] at k' <;> cases k'
      · rw [cc1] at e'
        cases e'
        exact cellK (I.freeC y _ cc1) q3
  case cell =>
    obtain ⟨w', q⟩ := I.cell y c (back e)
    exact ⟨w', cellK (I.freeC y c (back e)) q⟩
  case freeC =>
    obtain ⟨v, o, ho, _⟩ := I.cell y c (back e)
    exact un.free c o ho (I.freeC y c (back e)) List.not_mem_nil
  case len =>
    show σ.length = (hideN z X.N).length
    unfold hideN
    rw [List.length_map]
    exact I.len
end
end Kx
namespace Kx
open PySem PySem.Spec PyProof.Rows L2 SX LamX
section
variable {X : Cx} {pn0 : List (Addr × Obj)} {σ : L2.St} {Hm : Hp} {st : Shared}
/-- how the lambda's one default binds -/
def BindD (params : Arguments) (body : Expr) (scp : Scope) (z : Str) : Prop := ∀ (q : Str) (cl : List (Str × Addr)) (t : Addr) (doc pm cv ctv : Value) (tk : Tok), ∃ k,
  bindArgs (PySem.W.kdv_fn "<lambda>" q params (.expr body) scp cl (.ref t) doc pm cv ctv) ⟨[], []⟩ = seqItems? (.ref t) >>= k ∧ k (some #[.int 0 tk]) = pure [(z, .int 0 tk)]
theorem pe_actD {CXg : CXT} {Eg : XK} {Ng : List Str} {qg : Str} {sg : Scope} {g f c' t : Addr} {tk : Tok} {cdg doc pm ctv : Value} {params : Arguments} {body : Expr} {scp : Scope} {z : Str} {k i : Nat} {a : Str} {pn : List (Addr × Obj)} {xe : Value → Shared → Prop} {W : WX} {E : XK} {tb : TE} {p1 p2 : Pos}
    (I : Inv X pn0 σ Hm st) (L : LamP X.env.scope scp z) (hz : scp.names.lookup ("%" : Str) = none)
    (ht : st.heap.get? t = some (PySem.W.kdv_tup [.int 0 tk])) (htn : Hm t = none) (htr : t ∉ frs X.stack)
    (hf : st.heap.get? f = some (lamObj X params body scp (.ref t) doc pm c' ctv)) (hfn : Hm f = none) (hfr : f ∉ frs X.stack) (hbind : BindD params body scp z)
    (tk' : Takes ((cxOf CXg X.prog X.w X.K X.mg X.base Ng qg sg g cdg X.A X.stack st Hm Eg).tr pn xe) W) (hW : ∀ cls d σ' H', E cls d H' → W cls d σ' H') (hr : Room (k + 1) (X.A.deeper (envOfC qg sg st.heap.objs.size g cdg)))
    (hbody : ∀ (A : Around) (outer : List Env) (st : Shared) (Hm : Hp), Room k (A.deeper (lamEnv X scp st.heap.objs.size f c')) → PE (lamCxD X A outer st Hm E scp z f c') body tb)
    (ixN1 : Ng[i]? = some a) (visN : Vis sg a) (dbgN : (a == ("__debug__" : Str)) = false := by decide) (clsN : (a == ("__classdict__" : Str)) = false := by decide) :
    PE ((cxOf CXg X.prog X.w X.K X.mg X.base Ng qg sg g cdg X.A X.stack st Hm Eg).tr pn xe) (.Call (.Name a p1) [] [] p2)
      (fun σZ HZ Q => σZ[i]? = some (some (.ref f)) ∧ HZ c' = some (CodeO c' (lamQ X)) ∧ tb σ HZ Q) := by
  refine ⟨fun pnZ tZ σZ HZ Q IZ h => ?_⟩
  obtain ⟨hs, hc, hq⟩ := h
  refine wpAny_Call_Name_kw (thn ((pe_var (pos := p1) (i := i) ixN1 visN dbgN clsN).run pnZ tZ σZ HZ (fun v H1 => v = .ref f ∧ H1 = HZ) IZ ⟨.ref f, hs, rfl, rfl⟩) fun u s1 hh => ?_)
  obtain ⟨v, H1, I1, r1, rfl, rfl⟩ := hh
  obtain rfl : u = Value.ref f := r1
  have none_ex : ∀ {b : Addr}, b ∉ ([] : List Addr) := fun {b} => List.not_mem_nil
  have f1 := I1.base.keep f _ hf hfn hfr none_ex
  have t1 := I1.base.keep t _ ht htn htr none_ex
  refine PySem.W.callWith_F0 ⟨_, _, _, _, f1⟩ ?_
  have un : Un (frs X.stack) [] Hm H1 st.heap s1.heap := I1.base
  obtain ⟨⟨oc, vs, tq, e1, e2, e3⟩, _, _⟩ := I1.hok c' _ hc
  have run : codeAny (model X.prog X.w) (X.A.deeper (envOfC qg sg st.heap.objs.size g cdg)) (.call (.ref f) ⟨[], []⟩) (CR (L2.CX X.prog X.w) (envOfC qg sg st.heap.objs.size g cdg :: X.stack) X.prog X.w H1 s1 Q E) s1 := by
    refine PySem.W.kla_callFunE hr.depth f1 rfl L.co L.gen rfl ⟨c', oc, vs, tq, rfl, e1, e2, e3⟩ ?_
    obtain ⟨k2, b1, b2⟩ := hbind (lamQ X) (cloFrom X.env.cells scp.names []) t doc pm (.ref c') ctv tk
    refine BindsTo.of_defaults rfl t1 rfl b1 b2 _ _ _ _ ?_
    refine wpAny_newFunctionEnv (fun y hy => (L.own y hy).1) (fun y hy => ?_) (fun h₁ hns sbt => ⟨I1.nolimit.fresh _ sbt, ?_⟩) L.kind
    · obtain rfl := List.mem_singleton.mp hy
      exact L.par
    show codeAny _ _ (.expr body (lamEnv X scp s1.heap.objs.size f c')) _ _
    have kpt : ∀ b o, s1.heap.get? b = some o → h₁.get? b = some o := fun b o e => sbt.extBut b o (Nat.ne_of_lt (Heap.lt_size e)) (Heap.get?_push_of_some _ e)
    have J := lam_startD (E := E) (f := f) (c' := c') (tk := s1.toks + 1) I L hz I1.env0 hr.hd un hns kpt
    refine PySem.W.kla_codeExpr (wpAny_mono ((hbody _ _ s1 H1 (hr.deeper _)).run [] _ _ H1 Q J hq) (fun v s' q => ?_) fun _ _ q => q)
    obtain ⟨w', H', J', rv, q⟩ := q
    exact ⟨w', H', J'.os, J'.bare, J'.base, J'.hok, rv, q⟩
  have pass : Passes (L2.CX X.prog X.w) ((cxOf CXg X.prog X.w X.K X.mg X.base Ng qg sg g cdg X.A X.stack st Hm Eg).tr pn xe) E := passes_call tk' hW
  refine wpAny_call (codeAny_mono run fun r s' q => ?_)
  match r, q with
  | .error e, q => exact pass pnZ σZ H1 s1 e s' I1 q
  | .ok (.ret u), q => exact I1.after q
  | .ok .next, q => exact False.elim q
  | .ok .brk, q => exact False.elim q
  | .ok .cont, q => exact False.elim q
/-- x(lambda z=0: body) -/
theorem pe_lamcallD {T : List (Addr × Str)} {TT : (XK → Hp → VK → Prop) → Hp → VK → Prop} {x a z : Str} {g c P : Addr} {k : Nat} {pg : Arguments} {bg : List Stmt} {sg : Scope} {dV kV doc pm cdw ct oc : Value} {an od : Option Addr} {slg : Array (Option Value)} {Ng : List Str}
    {params : Arguments} {body : Expr} {scp : Scope} {t : XK → TE} {p lps pos cp : Pos} {j : Nat} (hg : Gl X x) (mgx : X.mg x = some (.ref g)) (hk : PySem.W.keepIn X.K (.ref g) = true)
    (lkg : X.K.lookup g = some ⟨oc, od, .func (PySem.W.fnOf x x pg bg sg dV kV doc pm an cdw ct), slg⟩) (cdg2 : PySem.W.codeIn X.K cdw x = true) (bdg : L2.Binds X.K (PySem.W.fnOf x x pg bg sg dV kV doc pm an cdw ct) [a] []) (Sg : FnScope Ng [a] sg) (hNg : Ng[0]? = some a) (hva : Vis sg a)
    (hG : GivesTo X Ng x sg g cdw bg a (lamQ X) TT) (TB : TabB X.base X.mg c P) (hcode : X.env.code = .ref c) (hmT : (P, lamQ X) ∈ T) (hu : ∀ p ∈ T, p.1 = P → p.2 = lamQ X) (hr : Room (k + 2) X.A)
    (L : LamP X.env.scope scp z) (hz : scp.names.lookup ("%" : Str) = none) (hp : params.defaults = [.Constant (.int 0) j cp]) (hkw : params.kw_defaults = []) (hbind : BindD params body scp z)
    (hbody : ∀ (A : Around) (outer : List Env) (st : Shared) (Hm : Hp) (E : XK) (f c' : Addr), Room k (A.deeper (lamEnv X scp st.heap.objs.size f c')) → PE (lamCxD X A outer st Hm E scp z f c') body (t E))
    (dbgX : (x == ("__debug__" : Str)) = false := by decide) (dbgN : (a == ("__debug__" : Str)) = false := by decide) (clsN : (a == ("__classdict__" : Str)) = false := by decide) :
    PE X (.Call (.Name x p) [.Lambda params body scp lps] [] pos) (tLam T TT t) := by
  refine ⟨fun pn0 st σ Hm Q I h => ?_⟩
  obtain ⟨hT, hq⟩ := h
  refine wpAny_Call_Name_kw (ld_glob I hg mgx ?_ dbgX)
  refine PySem.W.callWith_K (h₀ := X.base) I.ok.mod.kin hk ?_ (by rfl) (by rfl)
  show wpAny _ _ (spliced ((false, eval (.Lambda params body scp lps) X.env) :: backTo pos (starEach [] X.env))) _ _ st
  refine Calls.spliced_cons (lam_makeD I TB hcode hmT hu hT (L.has I.ok) hp hkw ?_)
  intro tt f c' tk doc' pm' ctv H1 s' I1 eN T1 ht nt ot hf nf of_ hco
  refine Calls.spliced_nil ⟨I1.kIn, ?_⟩
  have called : codeAny (model X.prog X.w) X.A (.call (.ref g) ⟨[.ref f], []⟩) (CR C8.CX0 X.stack X.prog X.w H1 s' Q C8.E0) s' := by
    refine run_ofS (N := Ng) (ps := [a]) (us := [.ref f]) (vs := [.ref f]) lkg cdg2 Sg hr I1.env0 (bdg s' [.ref f] I1.kIn rfl) (.cons rfl .nil) rfl fun hr' => ?_
    obtain ⟨t', d', q'⟩ := hG f c' s' H1 Q (fun E H' Q' => t E σ H' Q') (fun W pn xe E p1 p2 tk2 hW => pe_actD (i := 0) I1 L hz ht nt ot hf nf of_ hbind tk2 hW hr' (fun A outer st Hm hr2 => hbody A outer st Hm E f c' hr2) hNg hva dbgN clsN) hco (hq H1 eN T1)
    exact ⟨t', d'.nox, q'⟩
  refine wpAny_call (codeAny_mono called fun r s2 q => ?_)
  match r, q with
  | .error e, q => exact (show False from q).elim
  | .ok (.ret u), q => exact I1.after q
  | .ok .next, q => exact False.elim q
  | .ok .brk, q => exact False.elim q
  | .ok .cont, q => exact False.elim q
end
end Kx
namespace Kx
open PySem PySem.Spec PyProof.Rows L2 SX LamX
/-! ### the law's own call: guards told, tables of code objects known -/
section
variable {P : Program} {w : World} {K : PySem.W.Frag} {mg mb : Str → Option Value} {k : Nat} {fa a : Addr} {fd : FuncData} {x : Str} {sp : Sp} {s : Shared} {vs : List Value} {ns : List Int} {cs : List (Addr × Addr)}
abbrev tab0 : Obj := { cls := .none, data := .fields #[] }
abbrev scriptObj (vs : List Value) : Obj := { cls := .type "list", data := .seq vs.toArray }
/-- what is tracked when the law begins: the script, perhaps, and the tables -/
inductive Tr (cs : List (Addr × Addr)) (K : PySem.W.Frag) (a : Addr) (b : Addr) (u : HO) : Prop where
  | script (o : Obj) (xs : List V) (e : b = a) (k : K.lookup a = none) (h : u = .frz o (.lst xs))
  | table (p : Addr × Addr) (m : p ∈ cs) (e : b = p.2) (h : u = .tbl #[])
theorem lawT_of (KX : K.In s.heap) (G : s.heap.Ns mainGlobals mg) (B : s.heap.Ns builtinsNs mb) (BB : ∀ y : Str, y ≠ "__name__" → mb y = bootBuiltins y) (NL : s.heap.NoLimit) (g0 : s.gens = #[])
    (hT : ∀ p ∈ cs, s.heap.get? p.2 = some tab0 ∧ K.lookup p.2 = none ∧ PySem.W.CodeHd s.heap p.1 p.2)
    (bm : ∃ (m : Addr) (ob : Obj), mg "__builtins__" = some (.ref m) ∧ m ≠ builtinsNs ∧ s.heap.get? m = some ob ∧ ob.cls = .type "module" ∧ ob.dict = some builtinsNs ∧ ob.data = .plain)
    (ha : s.heap.get? a = some (scriptObj vs)) (hr : Room k callerA) (F : ∀ base : Heap, K.In base → base.Ns mainGlobals mg → (∀ p ∈ cs, TabB base mg p.1 p.2) → FnG P w K mg base CX0 k fa fd [x] sp)
    (bd : ∀ (t : Shared) (u : Value), BindsTo t fd ⟨[u], []⟩ [(x, u)]) (H : Hp) (tr : ∀ b u, H b = some u → Tr cs K a b u) (ok : HOk P w H s.heap) (all : ∀ p ∈ cs, H p.2 = some (.tbl #[]))
    (pr : sp [.ref a] H (fun v _ => v = .bl true) fun _ _ _ => False) : codeAny (model P w) callerA (.call (.ref fa) ⟨[.ref a], []⟩) (LawEnd s) s := by
  have stay : ∀ {b : Addr} {o : Obj}, s.heap.get? b = some o → H b = none → (hidT s.heap H).get? b = some o := fun e n => hidT_get e n
  -- what is neither a list nor an empty table is not tracked
  have off : ∀ {b : Addr} {o : Obj}, s.heap.get? b = some o → (∀ l n, o.data ≠ .seq l n) → o.data ≠ .fields #[] → H b = none := by
    intro b o e h1 h2
    cases q : H b with
    | none => rfl
    | some u =>
      exfalso
      cases tr b u q with
      | script ob xs eb _ _ =>
        rw [eb, ha] at e
        cases e
        exact h1 _ _ rfl
      | table p m eb _ =>
        rw [eb, (hT p m).1] at e
        cases e
        exact h2 rfl
  have nsK : ∀ {b : Addr} {m : Str → Option Value}, s.heap.Ns b m → (hidT s.heap H).Ns b m := by
    rintro b m ⟨o, es, ep, e, d, r⟩
    exact ⟨o, es, ep, stay e (off e (fun l n z => by rw [d] at z; cases z) (fun z => by rw [d] at z; cases z)), d, r⟩
  have Kb : K.In (hidT s.heap H) := by
    intro b o e
    refine stay (KX b o e) ?_
    cases q : H b with
    | none => rfl
    | some u =>
      exfalso
      cases tr b u q with
      | script ob xs eb kn _ =>
        rw [eb, kn] at e
        cases e
      | table p m eb _ =>
        rw [eb, (hT p m).2.1] at e
        cases e
  obtain ⟨ml, l1, l2⟩ := NL
  have TB : ∀ p ∈ cs, TabB (hidT s.heap H) mg p.1 p.2 := by
    intro p hp
    obtain ⟨t0, _, cd⟩ := hT p hp
    refine { code := ?_, bm := ?_, gP := ?_ }
    · obtain ⟨o, us, fl, tf, fg, tg, iF, tx, tt, e1, r1, r2, r3, r⟩ := cd
      refine ⟨o, us, fl, tf, fg, tg, iF, tx, tt, stay e1 (off e1 (fun l n z => by rw [r2] at z; cases z) fun z => ?_), r1, r2, r3, r⟩
      rw [r2] at z
      cases z
      simp at r3
    · obtain ⟨m, ob, b1, b2, b3, b4, b5, b6⟩ := bm
      have pl : ∀ d : Data, d = .plain → (∀ l n, d ≠ .seq l n) ∧ d ≠ .fields #[] := by
        rintro d rfl
        exact ⟨fun l n z => (by cases z), fun z => (by cases z)⟩
      refine ⟨m, ob, b1, b2, fun q => ?_, fun q => ?_, stay b3 (off b3 (pl _ b6).1 (pl _ b6).2), b4, b5, b6⟩
      · obtain ⟨o, es, ep, e, hd, _⟩ := G
        rw [q, e] at b3
        cases b3
        rw [hd] at b6
        cases b6
      · rw [q, t0] at b3
        cases b3
        cases b6
    · intro z
      obtain ⟨o, es, ep, e, hd, _⟩ := G
      rw [z, t0] at e
      cases e
      cases hd
  have E0 : Env0 P w K mg (hidT s.heap H) callerA [] s H :=
    { frames := rfl
      mod := { kin := Kb, glob := nsK G, blt := ⟨mb, nsK B, BB⟩, nolimit := ⟨ml, nsK l1, l2⟩ }
      bs := fun b o e => of_hidT e
      bsz := Nat.le_of_eq (hidT_size _ _)
      funs := trivial
      frf := fun b hb => absurd hb (List.not_mem_nil)
      hok := ok
      bare := .of_eq g0 }
  refine codeAny_mono ((F _ Kb (nsK G) TB).go callerA [] s H ⟨[.ref a], []⟩ [.ref a] [.ref a] _ _ rfl hr E0 (bd s (.ref a)) (.cons rfl .nil) pr) ?_
  intro r t h
  match r, h with
  | .error e, h =>
    exact (show False from h).elim
  | .ok .next, h => exact False.elim h
  | .ok .brk, h => exact False.elim h
  | .ok .cont, h => exact False.elim h
  | .ok (.ret u), h =>
    obtain ⟨v, H', h1, h2, un, ok', rv, rfl⟩ := h
    cases rv
    have grown : ∀ p ∈ cs, ∃ more : Array Value, t.heap.get? p.2 = some { cls := .none, data := .fields more } := by
      intro p hp
      obtain ⟨more, q⟩ := un.tbls p.2 #[] (all p hp)
      exact ⟨_, ok' p.2 _ q⟩
    have kept : ∀ b o, (∀ p ∈ cs, b ≠ p.2) → s.heap.get? b = some o → t.heap.get? b = some o := by
      intro b o nb e
      cases q : H b with
      | none => exact un.keep b o e q List.not_mem_nil List.not_mem_nil
      | some u =>
        cases tr b u q with
        | script ob xs eb _ eu =>
          rw [eu] at q
          have e1 := (ok b _ q).1
          have e2 := (ok' b _ (un.frzs b ob _ q)).1
          rw [e] at e1
          cases e1
          exact e2
        | table p m eb _ => exact absurd eb (nb p m)
    refine ⟨rfl, ⟨fun b o e => ?_, fun b o e => ?_⟩, h1, h2⟩
    · by_cases hb : ∃ p ∈ cs, b = p.2
      · obtain ⟨p, hp, rfl⟩ := hb
        obtain ⟨t0, _, cd⟩ := hT p hp
        obtain ⟨more, q⟩ := grown p hp
        rw [t0] at e
        cases e
        exact .inr (.inl ⟨(cd.tab t0).isCodeTable, rfl, #[], more, rfl, by rw [Array.empty_append]; exact q⟩)
      · exact .inl (kept b o (fun p hp z => hb ⟨p, hp, z⟩) e)
    · by_cases hb : ∃ p ∈ cs, b = p.2
      · obtain ⟨p, hp, rfl⟩ := hb
        obtain ⟨more, q⟩ := grown p hp
        exact ⟨_, q⟩
      · exact ⟨o, kept b o (fun p hp z => hb ⟨p, hp, z⟩) e⟩
theorem lawT (KX : K.In s.heap) (G : s.heap.Ns mainGlobals mg) (B : s.heap.Ns builtinsNs mb) (BB : ∀ y : Str, y ≠ "__name__" → mb y = bootBuiltins y) (NL : s.heap.NoLimit) (g0 : s.gens = #[])
    (hT : ∀ p ∈ cs, s.heap.get? p.2 = some tab0 ∧ K.lookup p.2 = none ∧ PySem.W.CodeHd s.heap p.1 p.2)
    (bm : ∃ (m : Addr) (ob : Obj), mg "__builtins__" = some (.ref m) ∧ m ≠ builtinsNs ∧ s.heap.get? m = some ob ∧ ob.cls = .type "module" ∧ ob.dict = some builtinsNs ∧ ob.data = .plain)
    (ha : s.heap.get? a = some (scriptObj vs)) (hi : IntsAre vs ns) (hl : ns.length ≤ sizeLine) (hr : Room k callerA)
    (F : ∀ base : Heap, K.In base → base.Ns mainGlobals mg → (∀ p ∈ cs, TabB base mg p.1 p.2) → FnG P w K mg base CX0 k fa fd [x] sp) (bd : ∀ (t : Shared) (u : Value), BindsTo t fd ⟨[u], []⟩ [(x, u)])
    (pr : ∀ H : Hp, (∀ p ∈ cs, H p.2 = some (.tbl #[])) → SqL K H a (ns.map V.int) → (∀ b u, H b = some u → Tr cs K a b u) → sp [.ref a] H (fun v _ => v = .bl true) fun _ _ _ => False) :
    codeAny (model P w) callerA (.call (.ref fa) ⟨[.ref a], []⟩) (LawEnd s) s := by
  have rv := vals_ints hi
  have na : ∀ p ∈ cs, p.2 ≠ a := by
    intro p hp z
    have e := (hT p hp).1
    rw [z, ha] at e
    cases e
  let tabs : Hp := fun b => if b ∈ cs.map (·.2) then some (.tbl #[]) else none
  have isT : ∀ p ∈ cs, tabs p.2 = some (.tbl #[]) := fun p hp => if_pos (List.mem_map.mpr ⟨p, hp, rfl⟩)
  have ofT : ∀ b u, tabs b = some u → ∃ p ∈ cs, b = p.2 ∧ u = .tbl #[] := by
    intro b u q
    by_cases hb : b ∈ cs.map (·.2)
    · obtain ⟨p, hp, e⟩ := List.mem_map.mp hb
      have q' : some (HO.tbl #[]) = some u := (if_pos hb).symm.trans q
      exact ⟨p, hp, e.symm, (Option.some.inj q').symm⟩
    · have q' : (none : Option HO) = some u := (if_neg hb).symm.trans q
      cases q'
  cases hk : K.lookup a with
  | some o =>
    have e := KX a o hk
    rw [ha] at e
    cases e
    have tr : ∀ b u, tabs b = some u → Tr cs K a b u := fun b u q => by
      obtain ⟨p, hp, e1, e2⟩ := ofT b u q
      exact .table p hp e1 e2
    refine lawT_of KX G B BB NL g0 hT bm ha hr F bd tabs tr (fun b u q => ?_) isT (pr tabs isT (.inr ⟨_, vs.toArray, _, hk, rfl, rfl, rfl, ?_, by simpa using rv⟩) tr)
    · obtain ⟨p, hp, rfl, rfl⟩ := ofT b u q
      exact (hT p hp).1
    · rw [List.size_toArray, hi.length]
      exact hl
  | none =>
    let Ha : Hp := fun b => if b = a then some (.frz (scriptObj vs) (.lst (ns.map V.int))) else tabs b
    have at_a : Ha a = some (.frz (scriptObj vs) (.lst (ns.map V.int))) := if_pos rfl
    have but : ∀ b, b ≠ a → Ha b = tabs b := fun b hb => if_neg hb
    have tr : ∀ b u, Ha b = some u → Tr cs K a b u := by
      intro b u q
      by_cases hb : b = a
      · rw [hb, at_a] at q
        exact .script _ _ hb hk (Option.some.inj q).symm
      · rw [but b hb] at q
        obtain ⟨p, hp, e1, e2⟩ := ofT b u q
        exact .table p hp e1 e2
    have isH : ∀ p ∈ cs, Ha p.2 = some (.tbl #[]) := fun p hp => (but _ (na p hp)).trans (isT p hp)
    refine lawT_of KX G B BB NL g0 hT bm ha hr F bd Ha tr (fun b u q => ?_) isH (pr Ha isH (.inl (.inr ⟨scriptObj vs, at_a⟩)) tr)
    by_cases hb : b = a
    · subst hb
      rw [at_a] at q
      cases q
      exact ⟨ha, by rw [List.length_map]; exact hl, vs, _, rv, ha⟩
    · rw [but b hb] at q
      obtain ⟨p, hp, rfl, rfl⟩ := ofT b u q
      exact (hT p hp).1
end
open PySem.W in
/-- the goal that the head leaves; cs: the defs that make lambdas, each with its code object and its table -/
theorem walkT {l : OpenLaw} {n k : Nat} {q : Program} {loose : List Str} {XP : (Str → Option Value) → Heap → Prop} {YP : World → Heap → Prop} {d : DefRec} {K : Params → Frag} {sp : Frag → Sp} {x : Str} {cs : Params → List (Str × Addr × Addr)}
    (hn : l.most = some n) (hz : n ≤ sizeLine) (h0 : d.params.defaults = []) (hr : Room k callerA) (hY : ∀ (w : World) (h : Heap), YP w h → (K w.params).In h)
    (hc : ∀ p, ∀ e ∈ cs p, (∃ r, (recsOf q).find? (fun r => r.name == e.1) = some r) ∧ tabIn (K p) e.1 = some e.2 ∧ (K p).lookup e.2.2 = none)
    (F : ∀ (w : World) (mg : Str → Option Value) (fa : Addr) (h : Heap), (K w.params).In h → h.Ns mainGlobals mg → mg d.name = some (.ref fa) → ∃ fd : FuncData,
      (∀ (t : Shared) (u : Value), BindsTo t fd ⟨[u], []⟩ [(x, u)]) ∧ ∀ base : Heap, (K w.params).In base → base.Ns mainGlobals mg → (∀ e ∈ cs w.params, TabB base mg e.2.1 e.2.2) → FnG l.prog w (K w.params) mg base CX0 k fa fd [x] (sp (K w.params)))
    (pr : ∀ (p : Params) (H : Hp) (a : Addr) (ns : List Int), ns.length ≤ n → (∀ e ∈ cs p, H e.2.2 = some (.tbl #[])) → SqL (K p) H a (ns.map V.int) → (∀ b u, H b = some u → Tr ((cs p).map (·.2)) (K p) a b u) → sp (K p) [.ref a] H (fun v _ => v = .bl true) fun _ _ _ => False) :
    WalkO q loose XP YP l.row.toRowW d [] (fun f us => PySem.call f us) := by
  refine Att.attach_call hn h0 ?_
  intro w s₀ s₁ mg mb fa o pm cd doc a us ns G Y ho hd hcd hm hobj hints hlen hg
  have KX := hY w _ Y
  obtain ⟨fd, hb, hF⟩ := F w mg fa _ KX G.T.g hm
  have lift : ∀ {φ : Addr × Addr → Prop}, (∀ p ∈ (cs w.params).map (·.2), φ p) ↔ ∀ e ∈ cs w.params, φ e.2 := by
    intro φ
    constructor
    · intro h e he
      exact h _ (List.mem_map.mpr ⟨e, he, rfl⟩)
    · intro h p hp
      obtain ⟨e, he, rfl⟩ := List.mem_map.mp hp
      exact h e he
  refine lawT (cs := (cs w.params).map (·.2)) KX G.T.g G.T.b G.T.builtins G.T.nolimit hg (lift.mpr fun e he => ?_) G.T.bmain hobj hints (Nat.le_trans hlen hz) hr (fun base h1 h2 h3 => hF base h1 h2 (lift.mp h3)) hb fun H h1 h2 h3 => pr _ H a ns hlen (lift.mp h1) h2 h3
  obtain ⟨⟨r, e1⟩, e2, e3⟩ := hc w.params e he
  obtain ⟨t1, t2⟩ := tab_of G.T KX e1 e2
  exact ⟨t2, e3, t1⟩
end Kx
namespace Kx
open PySem PySem.Spec PyProof.Rows L2 SX LamX
section
variable {X : Cx}
/-! ### repr of data -/
def rRepr (K : PySem.W.Frag) : List V → Hp → VK → Prop := fun xs H Q => ∃ (a : Addr) (d : PyData), xs = [.ref a] ∧ Dp K H (.ref a) d ∧ d.showable = true ∧ d.hasDict = false ∧ d.depth ≤ 60 ∧ d.shown.length ≤ sizeLine ∧ Q (.str d.shown) H
theorem call_reprD (hg : X.A.guards = some []) (hu : X.A.units + 64 < cLine) : CallR X (.builtin "repr") (rRepr X.K) := by
  intro pins s σ H xs us Q I r h
  obtain ⟨a, d, rfl, hd, hs, hn, hp, hl, q⟩ := h
  cases r with
  | cons r0 rr =>
    cases rr
    obtain ⟨as, rd⟩ := Dp.reads I d _ _ hd r0
    cases r0
    refine repr_of_reads' rd hs (PyData.noDict_hsm hn) hg (by omega) (fun _ _ e => e) (fun h' u tk k => ?_) hl
    exact ⟨.str d.shown, H, I.kept k, ⟨u, rfl⟩, q⟩
/-! ### f(k = v, ..): keywords alone -/
theorem pe_callK0 {CX : CXT} {k : Nat} {f : Addr} {fd : FuncData} {ps ks : List Str} {sp : Sp} {E : XK} {x : Str} {p pos : Pos} {kws : List Keyword} {tk : TA} {g : List Value → List Value → List Value} {gV : List V → List V → List V}
    (F : FnOk X.prog X.w X.K X.mg X.base CX k f fd ps sp) (hr : Room k X.A) (hg : Gl X x) (hm : X.mg x = some (.ref f)) (hk : PySem.W.keepIn X.K (.ref f) = true) (hb : KBinds X.K fd ps ks g gV) (hx : Passes CX X E) (hkw : PK X kws tk)
    (hall : (backToKw pos (keywordEach kws X.env)).all (·.1.isSome) = true := by rfl) (hks : (backToKw pos (keywordEach kws X.env)).filterMap (·.1) = ks := by rfl) (hdb : (x == ("__debug__" : Str)) = false := by decide)
    (hpl : ((backTo pos (starEach [] X.env)).any (·.1) || (backToKw pos (keywordEach kws X.env)).any (·.1.isNone)) = false := by rfl) : PE X (.Call (.Name x p) [] kws pos) (tCallK sp gV E tNil tk) := by
  refine ⟨fun pins s σ H Q I h => ?_⟩
  apply wpAny_Call_Name_kw
  refine ld_glob I hg hm ?_ hdb
  refine PySem.W.callWith_KW0 (h₀ := X.base) I.ok.mod.kin hk hall (thn (hkw.run pos pins s σ H _ I h) fun ws s2 hh => ?_) hpl
  obtain ⟨zs, H2, I2, rz, q2⟩ := hh
  refine ⟨I2.kIn, ?_⟩
  rw [hks]
  exact run_fnk (us := []) F hr hb hx I2 .nil rz q2
/-! ### an exception that a name holds -/
/-- isinstance of it -/
def rIsX (K : PySem.W.Frag) : List V → Hp → VK → Prop := fun xs H Q => ∃ (a D dd : Addr) (fs : List (Str × V)) (c : V) (cv : Value) (b : Bool), xs = [.ref a, c] ∧ H a = some (exT a (.ref D) (some dd)) ∧ H dd = some (.xd fs) ∧ ExcC K D ∧
  (∀ u, RelV c u → u = cv) ∧ PySem.W.kitOne K (.ref D) cv = some b ∧ Q (.bl b) H
theorem exT_at {P : Program} {w : World} {H : Hp} {h : Heap} {a : Addr} {cls : Value} {d : Option Addr} (hok : HOk P w H h) (e : H a = some (exT a cls d)) : ∃ (oe : Obj) (vs : Array Value), h.get? a = some oe ∧ Zc cls d oe ∧ oe.data = .fields vs := by
  have q : ObjOk P w H h a (exT a cls d) := hok a _ e
  exact q.1
theorem inst_at {pins : List (Addr × Obj)} {σ : L2.St} {H : Hp} {s : Shared} {a D dd : Addr} {fs : List (Str × V)} (I : Inv X pins σ H s) (e : H a = some (exT a (.ref D) (some dd))) (ed : H dd = some (.xd fs)) :
    ∃ (oe od : Obj) (mA : Str → Option Value), PySem.W.InstAt s.heap a oe D (some od) ∧ (∀ n, PySem.W.lookIn n od = some (mA n)) ∧ ∀ n, RelO (fs.lookup n) (mA n) := by
  obtain ⟨oe, vs, h1, h2, h3⟩ := exT_at I.hok e
  have hx : ObjOk X.prog X.w H s.heap dd (.xd fs) := I.hok dd _ ed
  obtain ⟨mA, hns, hr⟩ := hx
  obtain ⟨od, ho, hl⟩ := lookIn_ns hns
  refine ⟨oe, od, mA, { at_ := h1, cls := h2.1, no := ?_, dict := ?_ }, hl, hr⟩
  · unfold PySem.W.notCls
    rw [h3] <;> rfl
  · rw [h2.2]
    exact ho
theorem call_isX : CallR X (.builtin "isinstance") (rIsX X.K) := by
  intro pins s σ H xs us Q I r h
  obtain ⟨a, D, dd, fs, c, cv, b, rfl, e, ed, C, hc, hk, q⟩ := h
  obtain ⟨u1, u2, rfl, r1, r2⟩ := vals2 r
  obtain rfl : u1 = Value.ref a := r1
  obtain rfl := hc _ r2
  obtain ⟨oe, od, mA, J, _, _⟩ := inst_at I e ed
  have cls : (PySem.W.clsIn X.K D).isSome = true := by
    obtain ⟨cd, hcd, _⟩ := PySem.W.any_some C.hd
    rw [hcd]
    rfl
  exact PySem.W.kia_one (PySem.W.kitx_exc cls C.hg C.hk C.hs C.ha C.hn C.ht C.hm) I.kIn J hk (fun z => nomatch z) fun tk => ⟨.bl b, H, I.kept (t' := tk) fun _ _ z => z, rfl, q⟩
def rIsiX (K : PySem.W.Frag) : List V → Hp → VK → Prop := fun xs H Q => rIsi K xs H Q ∨ rIsX K xs H Q
theorem call_isiX : CallR X (.builtin "isinstance") (rIsiX X.K) := fun pins s σ H xs us Q I r h => h.elim (call_isi pins s σ H xs us Q I r) (call_isX pins s σ H xs us Q I r)
/-- e.n, e's value such an exception -/
def tXp (K : PySem.W.Frag) (n : Str) (te : TE) : TE := fun σ H Q => te σ H fun x H1 => ∃ (a D dd : Addr) (fs : List (Str × V)) (v : V), x = .ref a ∧ H1 a = some (exT a (.ref D) (some dd)) ∧ H1 dd = some (.xd fs) ∧ XfC K D ∧ PySem.W.findIn K (.ref D) n = some none ∧ fs.lookup n = some v ∧ Q v H1
theorem pe_xp {e : Expr} {te : TE} {n : Str} {pos : Pos} (he : PE X e te) (hb : attributeBase e n X.env (eval e X.env) = eval e X.env := by rfl) : PE X (.Attribute e n pos) (tXp X.K n te) := by
  refine ⟨fun pins s σ H Q I h => ?_⟩
  refine attr_of hb (thn (he.run pins s σ H _ I h) fun u s1 hh => ?_)
  obtain ⟨x, H1, I1, rx, a, D, dd, fs, v, rfl, e1, e2, T, hno, hl, q⟩ := hh
  obtain rfl : u = Value.ref a := rx
  obtain ⟨oe, od, mA, J, look, rel⟩ := inst_at I1 e1 e2
  obtain ⟨w, hw, rw'⟩ := RelO.some_of (v := v) (o := mA n) (by rw [← hl]; exact rel n)
  exact HandSPX.exc_get I1.kIn J T.ga T.gg T.exC (PySem.W.findObj_own T.hdC hno rfl (by rw [look, hw])) (handed_of rw') ⟨v, H1, I1.tok _, rw', q⟩
end
end Kx
namespace Kx
open PySem PySem.Spec PyProof.Rows L2 SX LamX
/-! ### an error class of the program: one field, part -/
structure Er (K : PySem.W.Frag) (mg : Str → Option Value) (x qual : Str) (st : Stmt) (base : Str) where
  C : Addr
  L : Addr
  fI : Addr
  fd : FuncData
  gC : mg x = some (.ref C)
  gL : mg base = some (.ref L)
  oex : OexC K C
  iC : PySem.W.findIn K (.ref C) "__init__" = some (some (.ref fI))
  tI : PySem.W.typeIn K (.ref fI) = some (.type "function")
  F : Fun K "__init__" qual st fI fd
  b : Binds K fd ["self", "part"] []
  np : PySem.W.findIn K (.ref C) "part" = some none
  exc : ExcC K C
  xf : XfC K C
  em : PySem.W.exmOne K (.ref C) (.ref L) = some true
/-- its making, out of what the top left -/
def er_mk {K : PySem.W.Frag} {h : Heap} {mg : Str → Option Value} (X : K.In h) (G : h.Ns mainGlobals mg) {x qual : Str} {st : Stmt} {base : Str} {C L fI N : Addr} {nm q : Str} {bs bm : List Value} {sn : List Str} {sub : List Value} {ab : Bool} {col : Option Bool} {dd : Option Addr} {m0 m1 m2 m3 m5 : Option Value}
    {od an : Option Addr} {sl : Array (Option Value)} {oc kV dc pm cd ct : Value} (aC : PySem.W.nsIn K mainGlobals x = some (some (.ref C))) (aL : PySem.W.nsIn K mainGlobals base = some (some (.ref L)))
    (xL : K.lookup C = some (excClassObj nm q C N bs bm true sn sub ab col dd m0 m1 m2 m3 m5 "ValueError.__new__")) (hbm : PySem.HandSPX.refsVE bm = true)
    (sa : PySem.W.findIn K (.ref C) "__setattr__" = some (some (.builtin "object.__setattr__"))) (eC : PySem.W.subIn K (.ref C) (.type "BaseException") = some true) (tC : PySem.W.typeIn K (.ref C) = some (.type "type")) (kC : PySem.W.keepIn K (.ref C) = true)
    (a1 : PySem.W.findIn K (.ref C) "__init__" = some (some (.ref fI))) (t1 : PySem.W.typeIn K (.ref fI) = some (.type "function"))
    (l1 : K.lookup fI = some ⟨oc, od, .func (PySem.W.fnOf "__init__" qual (defArgs st) (defBody st) (defScope st) .none kV dc pm an cd ct), sl⟩) (c1 : PySem.W.codeIn K cd qual = true) (k1 : PySem.W.keepIn K (.ref fI) = true)
    (b1 : ∀ (kV doc pm : Value) (an : Option Addr) (cdv ct : Value) (us : List Value), us.length = (["self", "part"] : List Str).length → bindArgs (PySem.W.fnOf "__init__" qual (defArgs st) (defBody st) (defScope st) .none kV doc pm an cdv ct) ⟨us, []⟩ = pure ((["self", "part"] : List Str).zip us))
    (nb : PySem.W.findIn K (.ref C) "part" = some none) (ga : PySem.W.findIn K (.ref C) "__getattribute__" = some (some (.builtin "BaseException.__getattribute__"))) (gg : PySem.W.findIn K (.ref C) "__getattr__" = some none) (hd : PySem.W.hasDictIn K C = true)
    (hc : PySem.W.findIn K (.ref C) "__class__" = some (some (.builtin "object.__class__"))) (hn : PySem.W.specialIn K (.builtin "object.__class__") "__get__" = some (some (.builtin "getset_descriptor.__get__"))) (ht : PySem.W.takesIn K (.builtin "object.__class__") = some true)
    (hm : PySem.W.mroIn K C (.type "object") = some true) (eL : PySem.W.subIn K (.ref L) (.type "BaseException") = some true) (dL : PySem.W.hasDictIn K L = true) (tL : PySem.W.typeIn K (.ref L) = some (.type "type")) (sCL : PySem.W.subIn K (.ref C) (.ref L) = some true) : Er K mg x qual st base where
  C := C
  L := L
  fI := fI
  fd := _
  gC := PySem.W.mg_of X G aC
  gL := PySem.W.mg_of X G aL
  oex := ⟨⟨nm, q, N, bs, bm, sn, sub, ab, col, dd, m0, m1, m2, m3, m5, xL, hbm⟩, sa, eC, tC, kC⟩
  iC := a1
  tI := t1
  F := fun_mk (st := st) l1 c1 k1
  b := (fun_mk (st := st) l1 c1 k1).binds (ps := ["self", "part"]) b1
  np := nb
  exc := ⟨ga, gg, eC, hd, hc, hn, ht, hm⟩
  xf := ⟨ga, gg, eC, hd⟩
  em := PySem.W.exm_ref eL dL tL sCL
theorem passF {X : Cx} : Passes (L2.CX X.prog X.w) X (fun _ _ _ => False) := fun _ _ _ _ _ _ _ z => by
  obtain ⟨_, _, _, _, _, _, _, _, _, _, _, _, f⟩ := z
  exact f.elim
/-- the promise of such an __init__: self.part = part -/
def sp_init (K : PySem.W.Frag) : Sp := fun vs H Q _ => ∃ (a C : Addr) (y : V), vs = [.ref a, y] ∧ OexC K C ∧ PySem.W.findIn K (.ref C) "part" = some none ∧ H a = some (exo a C none) ∧
  ∀ dx, H dx = none → dx ≠ a → Q .non (upd (upd H dx (exd dx [("part", y)])) a (exo a C (some dx)))
section
variable {P : Program} {w : World} {K : PySem.W.Frag} {mg : Str → Option Value} {base : Heap}
/-- the body of such an __init__ -/
def IsInit (st : Stmt) : Prop := ∃ p1 p2 p3 p4, defBody st = [.Assign [.Attribute (.Name "self" p1) "part" p2] (.Name "part" p3) p4] ∧ FnScope ["self", "part"] ["self", "part"] (defScope st) ∧ (defScope st).names.lookup ("self" : Str) = some .local ∧ (defScope st).names.lookup ("part" : Str) = some .local
theorem ok_init {x qual : Str} {st : Stmt} {bs : Str} (e : Er K mg x qual st bs) (h : IsInit st) : FnOk P w K mg base CX0 1 e.fI e.fd ["self", "part"] (sp_init K) := by
  obtain ⟨p1, p2, p3, p4, hb, sc, v1, v2⟩ := h
  refine e.F.ok sc (fun vs H Q E h => ?_) (fun cdv A outer s H vs Q E hr h => ?_)
  · obtain ⟨a, C, y, rfl, _⟩ := h
    rfl
  · obtain ⟨a, C, y, rfl, o, n, ha, q⟩ := h
    rw [hb]
    refine ⟨_, pss_one (ps_ost (pv 0 rfl (.inl v1)) (pv 1 rfl (.inl v2))), ?_⟩
    exact ⟨y, rfl, .ref a, rfl, a, C, rfl, o, n, .inl ⟨ha, q⟩⟩
end
/-! ### a choice of rules -/
section
variable {X : Cx}
theorem pi_either {tg it : Expr} {w1 w2 : TI} (h1 : PI X tg it w1) (h2 : PI X tg it w2) : PI X tg it (fun σ H R => w1 σ H R ∨ w2 σ H R) := ⟨fun pins s σ H R I h => h.elim (h1.run pins s σ H R I) (h2.run pins s σ H R I)⟩
theorem pe_either {e : Expr} {t1 t2 : TE} (h1 : PE X e t1) (h2 : PE X e t2) : PE X e (fun σ H Q => t1 σ H Q ∨ t2 σ H Q) := ⟨fun pins s σ H Q I h => h.elim (h1.run pins s σ H Q I) (h2.run pins s σ H Q I)⟩
theorem pi_seq {tg it : Expr} {tl : TE} (h : PE X it tl) : PI X tg it (fun σ H R => iList X.K tl σ H R ∨ iTup X.K tl σ H R) := pi_either (pi_list h) (pi_tup h)
end
end Kx
namespace Kx
open PySem PySem.Spec PyProof.Rows L2 SX LamX
theorem tyx_same {K : PySem.W.Frag} {H H' : Hp} {x : V} {n : String} (e : Same H H') (h : TyX K H x (.type n)) : TyX K H' x (.type n) := by
  cases h with
  | base b =>
    cases b with
    | non => exact .base .non
    | bl y => exact .base (.bl y)
    | int i => exact .base (.int i)
    | str z => exact .base (.str z)
    | flt z => exact .base (.flt z)
    | lst h => exact .base (.lst (e _ _ h))
    | frz h => exact .base (.frz (e _ _ h))
    | tup h => exact .base (.tup (e _ _ h))
    | dK h => exact .base (.dK (e _ _ h))
    | dT h => exact .base (.dT (e _ _ h))
  | byt b => exact .byt b
  | set h => exact .set (e _ _ h)
  | kList h c => exact .kList h c
  | kTuple h c => exact .kTuple h c
  | kDict h c => exact .kDict h c
  | fTuple h => exact .fTuple (e _ _ h)
  | fDict h => exact .fDict (e _ _ h)
/-! ### integers with bounds, of any value -/
def isIntV : V → Bool
  | .int _ => true
  | _ => false
/-- what the checks ask of a value's type -/
def HasInt (K : PySem.W.Frag) (H : Hp) (x : V) : Prop := ∃ (n : String) (a b : Bool), TyX K H x (.type n) ∧ kitB n "int" = some a ∧ kitB n "bool" = some b ∧ (a && !b) = isIntV x
theorem HasInt.same {K : PySem.W.Frag} {H H' : Hp} {x : V} (e : Same H H') (h : HasInt K H x) : HasInt K H' x := by
  obtain ⟨n, a, b, t, r⟩ := h
  exact ⟨n, a, b, tyx_same e t, r⟩
theorem hasInt_int {K : PySem.W.Frag} {H : Hp} (i : Int) : HasInt K H (.int i) := ⟨"int", true, false, .base (.int i), by decide +kernel, by decide +kernel, rfl⟩
theorem hasInt_bl {K : PySem.W.Frag} {H : Hp} (i : Bool) : HasInt K H (.bl i) := ⟨"bool", true, true, .base (.bl i), by decide +kernel, by decide +kernel, rfl⟩
theorem hasInt_str {K : PySem.W.Frag} {H : Hp} (i : Str) : HasInt K H (.str i) := ⟨"str", false, false, .base (.str i), by decide +kernel, by decide +kernel, rfl⟩
theorem hasInt_non {K : PySem.W.Frag} {H : Hp} : HasInt K H .non := ⟨"NoneType", false, false, .base .non, by decide +kernel, by decide +kernel, rfl⟩
theorem hasInt_lst {K : PySem.W.Frag} {H : Hp} {a : Addr} {xs : List V} (h : SqL K H a xs) : HasInt K H (.ref a) := ⟨"list", false, false, tyL h, by decide +kernel, by decide +kernel, rfl⟩
theorem hasInt_tup {K : PySem.W.Frag} {H : Hp} {a : Addr} {xs : List V} (h : SqT K H a xs) : HasInt K H (.ref a) := ⟨"tuple", false, false, tyT h, by decide +kernel, by decide +kernel, rfl⟩
/-- a bound: none, or an int -/
def bdV : Option Int → V
  | none => .non
  | some i => .int i
def loB (i : Int) : Option Int → Bool
  | none => true
  | some l => decide (l ≤ i)
def hiB (i : Int) : Option Int → Bool
  | none => true
  | some h => decide (i ≤ h)
def withinB (i : Int) (lo hi : Option Int) : Bool := loB i lo && hiB i hi
def withinV (x : V) (lo hi : Option Int) : Bool := match x with
  | .int i => withinB i lo hi
  | _ => false
end Kx
namespace Kx
open PySem PySem.Spec PyProof.Rows L2 SX LamX
/-! ### the draws' wheel: cells, how many were begun, what is left -/
def Wh (H : Hp) (a c : Addr) (n : Nat) : Prop := ∃ (cs : List Int) (t l : Int), H a = some (.lst [.ref c, .int t, .int l]) ∧ H c = some (.lst (cs.map V.int)) ∧ cs.length ≤ 60 ∧ 0 ≤ t ∧ t ≤ n
/-- all that was tracked, but for what stands at a, is as it was -/
def Mv (a : Addr) (H H' : Hp) : Prop := ∀ b o, b ≠ a → H b = some o → H' b = some o
theorem Mv.refl (a : Addr) (H : Hp) : Mv a H H := fun _ _ _ h => h
theorem Mv.trans {a : Addr} {H H1 H2 : Hp} (x : Mv a H H1) (y : Mv a H1 H2) : Mv a H H2 := fun b o n h => y b o n (x b o n h)
theorem Mv.of {a : Addr} {H H1 : Hp} (x : Same H H1) : Mv a H H1 := fun b o _ h => x b o h
theorem Mv.upd (a : Addr) (H : Hp) (o : HO) : Mv a H (upd H a o) := fun b p n h => by rw [upd_ne n]; exact h
theorem Mv.same {a : Addr} {H H1 : Hp} (x : Mv a H H1) (h : H a = none) : Same H H1 := fun b o e => x b o (fun z => by rw [z, h] at e; cases e) e
theorem Wh.lt {H : Hp} {a c : Addr} {n m : Nat} (h : Wh H a c n) (l : n ≤ m) : Wh H a c m := by
  obtain ⟨cs, t, l', h1, h2, h3, h4, h5⟩ := h
  exact ⟨cs, t, l', h1, h2, h3, h4, by omega⟩
theorem Wh.same {H H' : Hp} {a c : Addr} {n : Nat} (h : Wh H a c n) (e : Same H H') : Wh H' a c n := by
  obtain ⟨cs, t, l', h1, h2, h3⟩ := h
  exact ⟨cs, t, l', e _ _ h1, e _ _ h2, h3⟩
theorem wh_set {H : Hp} {a c : Addr} {cs : List Int} {t l : Int} {n : Nat} {u : List V} (h1 : H a = some (.lst u)) (h2 : H c = some (.lst (cs.map V.int))) (hac : a ≠ c) (h3 : cs.length ≤ 60) (h4 : 0 ≤ t) (h5 : t ≤ n) : Wh (upd H a (.lst [.ref c, .int t, .int l])) a c n :=
  ⟨cs, t, l, upd_same, by rw [upd_ne (fun e => hac e.symm)]; exact h2, h3, h4, h5⟩
theorem wh_ac {H : Hp} {a c : Addr} {cs : List Int} {t l : Int} (h1 : H a = some (.lst [.ref c, .int t, .int l])) (h2 : H c = some (.lst (cs.map V.int))) : a ≠ c := by
  intro e
  rw [← e, h1] at h2
  injection h2 with h2
  injection h2 with h2
  cases cs with
  | nil => cases h2
  | cons x xs => injection h2 with h2 _; cases h2
/-! ### data: lists that are laid, compared -/
theorem canLayAll_of : ∀ (ds : List PyData), (∀ d ∈ ds, d.canLay0 = true) → PyData.canLayAll0 ds = true
  | [], _ => rfl
  | d :: ds, h => by
    have h1 := h d (List.mem_cons_self ..)
    have h2 := canLayAll_of ds fun e m => h e (List.mem_cons_of_mem _ m)
    show (d.canLay0 && PyData.canLayAll0 ds) = true
    rw [h1, h2]
    rfl
theorem depthAll_of {k : Nat} : ∀ (ds : List PyData), (∀ d ∈ ds, d.depth ≤ k) → PyData.depthAll ds ≤ k
  | [], _ => Nat.zero_le _
  | d :: ds, h => by
    have h1 := h d (List.mem_cons_self ..)
    have h2 := depthAll_of ds fun e m => h e (List.mem_cons_of_mem _ m)
    show max d.depth (PyData.depthAll ds) ≤ k
    omega
/-- plain data of a depth -/
def Pl (k : Nat) (d : PyData) : Prop := d.canLay0 = true ∧ d.depth ≤ k
theorem Pl.lst {k : Nat} {ds : List PyData} (h : ∀ d ∈ ds, Pl k d) : Pl (k + 1) (.list ds) :=
  ⟨canLayAll_of ds fun d m => (h d m).1, Nat.succ_le_succ (depthAll_of ds fun d m => (h d m).2)⟩
theorem Pl.tup {k : Nat} {ds : List PyData} (h : ∀ d ∈ ds, Pl k d) : Pl (k + 1) (.tuple ds) :=
  ⟨canLayAll_of ds fun d m => (h d m).1, Nat.succ_le_succ (depthAll_of ds fun d m => (h d m).2)⟩
theorem Pl.shaped {k : Nat} {d : PyData} (h : Pl k d) (hk : k ≤ 64) : SeqAt.shaped d = true := by
  show (d.canLay0 && decide (d.depth ≤ 64)) = true
  rw [h.1, decide_eq_true (Nat.le_trans h.2 hk)]
  rfl
theorem pl_int (k : Nat) (i : Int) : Pl k (.int i) := ⟨rfl, Nat.zero_le _⟩
theorem pl_ints (xs : List Int) : Pl 1 (.list (xs.map PyData.int)) := Pl.lst fun d m => by
  obtain ⟨i, _, rfl⟩ := List.mem_map.mp m
  exact pl_int 0 i
theorem dpAll_map {K : PySem.W.Frag} {H : Hp} {α : Type} {f : α → V} {g : α → PyData} : ∀ (xs : List α), (∀ x ∈ xs, Dp K H (f x) (g x)) → DpAll K H (xs.map f) (xs.map g)
  | [], _ => .nil
  | x :: xs, h => .cons (h x (List.mem_cons_self ..)) (dpAll_map xs fun y m => h y (List.mem_cons_of_mem _ m))
theorem dp_ints {K : PySem.W.Frag} {H : Hp} {a : Addr} {xs : List Int} (h : SqL K H a (xs.map V.int)) : Dp K H (.ref a) (.list (xs.map PyData.int)) := .lst h (dpAll_map xs fun x _ => .int x)
theorem eqvAll_map {α : Type} [DecidableEq α] {g : α → PyData} (hg : ∀ x y, PyData.eqv (g x) (g y) = decide (x = y)) : ∀ (xs ys : List α), PyData.eqvAll (xs.map g) (ys.map g) = decide (xs = ys)
  | [], [] => rfl
  | [], _ :: _ => rfl
  | _ :: _, [] => rfl
  | x :: xs, y :: ys => by
    show (PyData.eqv (g x) (g y) && PyData.eqvAll (xs.map g) (ys.map g)) = _
    rw [hg, eqvAll_map hg xs ys]
    by_cases e : x = y
    · by_cases e2 : xs = ys
      · subst e e2; simp
      · simp [e, e2]
    · simp [e]
theorem eqv_int (x y : Int) : PyData.eqv (.int x) (.int y) = decide (x = y) := by
  show (x == y) = _
  by_cases e : x = y <;> simp [e]
theorem eqv_ints (xs ys : List Int) : PyData.eqv (.list (xs.map PyData.int)) (.list (ys.map PyData.int)) = decide (xs = ys) := eqvAll_map eqv_int xs ys
/-- «xs != []» -/
theorem ne_nil {K : PySem.W.Frag} {H : Hp} {a p : Addr} {xs : List Int} {Q : VK} (h1 : SqL K H a (xs.map V.int)) (h2 : H p = some (.lst [])) (q : Q (.bl (!decide (xs = []))) H) : rNeD K (.ref a) (.ref p) H Q :=
  ⟨_, _, dp_ints h1, dp_ints (xs := []) (.inl (.inl h2)), (pl_ints xs).shaped (by decide), (pl_ints []).shaped (by decide), by rw [eqv_ints]; exact q⟩
/-! ### places -/
theorem at_nat {α : Type} {xs : List α} {i : Nat} (h : i < xs.length) : atI xs (i : Int) = some xs[i] := by
  unfold atI ixN
  rw [if_pos (by omega), if_pos (by omega)]
  show xs[(i : Int).toNat]? = _
  rw [Int.toNat_natCast, List.getElem?_eq_getElem h]
theorem at_lt {α : Type} {xs : List α} {i : Int} (h0 : 0 ≤ i) (h : i < xs.length) : ∃ v, v ∈ xs ∧ atI xs i = some v := by
  obtain ⟨k, rfl⟩ : ∃ k : Nat, i = k := ⟨i.toNat, by omega⟩
  exact ⟨_, List.getElem_mem (by omega), at_nat (by omega)⟩
theorem at_last {α : Type} {xs : List α} {x : α} : atI (xs ++ [x]) (-1) = some x := by
  unfold atI ixN
  rw [if_neg (by omega), if_pos (by simp; omega)]
  show (xs ++ [x])[_]? = _
  rw [show (-1 + ((xs ++ [x]).length : Int)).toNat = xs.length by simp; omega]
  simp
/-- one way on from two branches, for all values that they leave -/
theorem cutI {c : Bool} {A B : Prop} {R : Int → Prop} (y : Int) (h2 : c = false → R y → B) (h1 : (∀ z, R z) → c = true → A) (key : ∀ z, R z) : if c = true then A else B := iteC (h1 key) fun e => h2 e (key y)
theorem genI {P : V → Prop} {x : Int} (h : ∀ z : Int, P (.int z)) : P (.int x) := h x
theorem genIB {P : V → Prop} {x M : Int} (hM : 0 < M) (h : ∀ z : Int, 0 ≤ z → z < M → P (.int z)) : P (.int (x.fmod M)) := h _ (Int.fmod_nonneg_of_pos _ hM) (Int.fmod_lt_of_pos _ hM)
theorem cutP {c : Bool} {X Y B : Prop} (h2 : c = false → B → Y) (h1 : B → c = true → X) (b : B) : if c = true then X else Y := iteC (h1 b) fun e => h2 e b
theorem mul_bnd {a b A B : Int} (a0 : 0 ≤ a) (a1 : a ≤ A) (b0 : 0 ≤ b) (b1 : b ≤ B) : 0 ≤ a * b ∧ a * b ≤ A * B :=
  ⟨Int.mul_nonneg a0 b0, Int.mul_le_mul a1 b1 b0 (Int.le_trans a0 a1)⟩
theorem bnd5 {c M k t l : Int} (hM : 0 < M) (hM2 : M ≤ 1099511627776) (t0 : 0 ≤ t) (t1 : t ≤ 1000000) (k0 : 0 ≤ k) (k1 : k ≤ 8388608) (l0 : 0 ≤ l) (l1 : l ≤ 1099511627776) : (c.fmod M + k * t + l).natAbs < 2 ^ 64 := by
  have h1 := Int.fmod_nonneg_of_pos c hM
  have h2 := Int.fmod_lt_of_pos c hM
  obtain ⟨h3, h4⟩ := mul_bnd k0 k1 t0 t1
  omega
theorem bnd3 {m t a k l : Int} (m0 : 0 ≤ m) (m1 : m ≤ 4294967296) (t0 : 0 ≤ t) (t1 : t ≤ 1000000) (a0 : 0 ≤ a) (a1 : a ≤ 8388608) (k0 : 0 ≤ k) (k1 : k ≤ 8388608) (l0 : 0 ≤ l) (l1 : l ≤ 1099511627776) : (m * (2 * t + a) + k * t * t + l).natAbs < 2 ^ 64 := by
  obtain ⟨h1, h2⟩ := mul_bnd (b := 2 * t + a) (B := 10388608) m0 m1 (by omega) (by omega)
  obtain ⟨h3, h4⟩ := mul_bnd k0 k1 t0 t1
  obtain ⟨h5, h6⟩ := mul_bnd h3 h4 t0 t1
  omega
/-! ### slices -/
theorem cut_to (xs : List V) (k : Nat) : cutV xs none (some (k : Int)) = xs.take k := by
  unfold cutV
  rw [HT.sIx_none, HT.sIx_nat, List.drop_zero, Nat.sub_zero]
  by_cases h : k ≤ xs.length
  · rw [Nat.min_eq_left h]
  · rw [Nat.min_eq_right (by omega), List.take_of_length_le (Nat.le_refl _), List.take_of_length_le (by omega)]
theorem cut_from (xs : List V) (k : Nat) : cutV xs (some (k : Int)) none = xs.drop k := by
  unfold cutV
  rw [HT.sIx_none, HT.sIx_nat]
  by_cases h : k ≤ xs.length
  · rw [Nat.min_eq_left h, List.take_of_length_le (by rw [List.length_drop]; omega)]
  · rw [Nat.min_eq_right (by omega), Nat.sub_self, List.take_zero, List.drop_eq_nil_of_le (by omega)]
/-! ### comprehensions, item by item -/
section
variable {K : PySem.W.Frag} {a : Addr} {xs : List V} {g : TG} {tt : TT} {te : TE} {vs : List Nat} {σ : L2.St} {H1 : Hp} {D : Addr} {Qd : Hp → Prop}
theorem lc_mapL (f : V → V) (hq : SqL K H1 a xs) (nD : H1 D = none) (len : xs.length ≤ 100000)
    (turn : ∀ (i : Nat) (x : V) (Hc : Hp) (Q' : VK) (R' : Hp → Prop), xs[i]? = some x → Same H1 Hc → (∀ H4, Same Hc H4 → Q' (f x) H4) → g x (wipe σ vs) Hc fun σ2 H2 => wipe σ2 vs = wipe σ vs ∧ tt σ2 H2 fun b H3 => if b = true then te σ2 H3 Q' else R' H3)
    (fin : ∀ Hc, Same H1 Hc → Hc D = some (.lst (xs.map f)) → Qd Hc) :
    ∃ W : Nat → Nat → Hp → Prop, (∃ m, W 0 m (upd H1 D (.lst []))) ∧ ∀ i m H, W i m H →
      ((Itl K a).stop i H ∧ Qd H) ∨ ((Itl K a).go i H ∧ ∃ Nx : Hp → Prop, (∀ H', Nx H' → ∃ m', m' < m ∧ W (i + 1) m' H') ∧ ∀ x H', (Itl K a).yld i H x H' → g x (wipe σ vs) H' fun σ2 H2 => wipe σ2 vs = wipe σ vs ∧ tt σ2 H2 fun b H3 =>
        if b = true then te σ2 H3 fun y H4 => ∃ acc, H4 D = some (.lst acc) ∧ acc.length < sizeLine ∧ Nx (upd H4 D (.lst (acc ++ [y]))) else Nx H3) := by
  refine lc_list (fun i Hc => Same H1 Hc ∧ Hc D = some (.lst ((xs.take i).map f))) ⟨same_new nD, upd_same⟩ (fun i H _ p => p.1.seq hq) (fun i x Hc hx p => ?_) (fun Hc p => ?_)
  · refine turn i x Hc _ _ hx p.1 (fun H4 e4 => ⟨_, e4 _ _ p.2, ?_, ?_⟩)
    · rw [List.length_map, List.length_take]
      exact Nat.lt_of_le_of_lt (Nat.min_le_right _ _) (Nat.lt_of_le_of_lt len (by decide))
    · refine ⟨fun b o z => ?_, ?_⟩
      · rw [upd_ne (ne_of_none z nD)]
        exact e4 _ _ (p.1 b o z)
      · rw [upd_same, List.take_add_one, hx, List.map_append]
        rfl
  · rw [List.take_length] at p
    exact fin Hc p.1 p.2
theorem lc_mapT (f : V → V) (hq : SqT K H1 a xs) (nD : H1 D = none) (len : xs.length ≤ 100000)
    (turn : ∀ (i : Nat) (x : V) (Hc : Hp) (Q' : VK) (R' : Hp → Prop), xs[i]? = some x → Same H1 Hc → (∀ H4, Same Hc H4 → Q' (f x) H4) → g x (wipe σ vs) Hc fun σ2 H2 => wipe σ2 vs = wipe σ vs ∧ tt σ2 H2 fun b H3 => if b = true then te σ2 H3 Q' else R' H3)
    (fin : ∀ Hc, Same H1 Hc → Hc D = some (.lst (xs.map f)) → Qd Hc) :
    ∃ W : Nat → Nat → Hp → Prop, (∃ m, W 0 m (upd H1 D (.lst []))) ∧ ∀ i m H, W i m H →
      ((Itt K a).stop i H ∧ Qd H) ∨ ((Itt K a).go i H ∧ ∃ Nx : Hp → Prop, (∀ H', Nx H' → ∃ m', m' < m ∧ W (i + 1) m' H') ∧ ∀ x H', (Itt K a).yld i H x H' → g x (wipe σ vs) H' fun σ2 H2 => wipe σ2 vs = wipe σ vs ∧ tt σ2 H2 fun b H3 =>
        if b = true then te σ2 H3 fun y H4 => ∃ acc, H4 D = some (.lst acc) ∧ acc.length < sizeLine ∧ Nx (upd H4 D (.lst (acc ++ [y]))) else Nx H3) := by
  refine lc_tup (fun i Hc => Same H1 Hc ∧ Hc D = some (.lst ((xs.take i).map f))) ⟨same_new nD, upd_same⟩ (fun i H _ p => Same.t p.1 hq) (fun i x Hc hx p => ?_) (fun Hc p => ?_)
  · refine turn i x Hc _ _ hx p.1 (fun H4 e4 => ⟨_, e4 _ _ p.2, ?_, ?_⟩)
    · rw [List.length_map, List.length_take]
      exact Nat.lt_of_le_of_lt (Nat.min_le_right _ _) (Nat.lt_of_le_of_lt len (by decide))
    · refine ⟨fun b o z => ?_, ?_⟩
      · rw [upd_ne (ne_of_none z nD)]
        exact e4 _ _ (p.1 b o z)
      · rw [upd_same, List.take_add_one, hx, List.map_append]
        rfl
  · rw [List.take_length] at p
    exact fin Hc p.1 p.2
end
end Kx
namespace Kx
open PySem PySem.Spec PyProof.Rows L2 SX LamX
theorem paired_get {α β : Type} {F : α → β → Prop} : ∀ {l : List α} {m : List β}, Paired F l m → ∀ {i : Nat} {a : α}, l[i]? = some a → ∃ b, m[i]? = some b ∧ F a b
  | _, _, .cons h t, 0, a, e => by
    simp at e
    subst e
    exact ⟨_, rfl, h⟩
  | _, _, .cons h t, i + 1, a, e => paired_get t (i := i) (by simpa using e)
theorem paired_split {α β : Type} {F : α → β → Prop} : ∀ {l : List α} (m : List β) {b : β}, Paired F l (m ++ [b]) → ∃ l' a, l = l' ++ [a] ∧ Paired F l' m ∧ F a b
  | _, [], _, .cons h .nil => ⟨[], _, rfl, .nil, h⟩
  | _, _ :: m, b, .cons h t => by
    obtain ⟨l', a, rfl, p, f⟩ := paired_split m t
    exact ⟨_ :: l', a, rfl, .cons h p, f⟩
theorem paired_nil {α β : Type} {F : α → β → Prop} {l : List α} (h : Paired F l []) : l = [] := by
  cases h
  rfl
theorem nil_or_snoc {α : Type} (l : List α) : l = [] ∨ ∃ l' a, l = l' ++ [a] := by
  rcases List.eq_nil_or_concat l with h | ⟨l', a, h⟩
  · exact .inl h
  · exact .inr ⟨l', a, by rw [h, List.concat_eq_append]⟩
theorem paired_map {α β γ : Type} {F : α → γ → Prop} {G : α → β → Prop} (f : β → γ) (h : ∀ a b, G a b → F a (f b)) : ∀ {l : List α} {m : List β}, Paired G l m → Paired F l (m.map f)
  | _, _, .nil => .nil
  | _, _, .cons x t => .cons (h _ _ x) (paired_map f h t)
theorem paired_of_map {α β γ : Type} {F : α → γ → Prop} (f : β → α) (g : β → γ) : ∀ {m : List β}, (∀ b ∈ m, F (f b) (g b)) → Paired F (m.map f) (m.map g)
  | [], _ => .nil
  | b :: m, h => .cons (h b (List.mem_cons_self ..)) (paired_of_map f g fun c hc => h c (List.mem_cons_of_mem _ hc))
theorem dpAll_of {K : PySem.W.Frag} {H : Hp} : ∀ {vs : List V} {ds : List PyData}, Paired (fun v d => Dp K H v d) vs ds → DpAll K H vs ds
  | _, _, .nil => .nil
  | _, _, .cons h t => .cons h (dpAll_of t)
/-- «xs != []», any laid items -/
theorem ne_nilD {K : PySem.W.Frag} {H : Hp} {a p : Addr} {vs : List V} {ds : List PyData} {k : Nat} {Q : VK} (h1 : SqL K H a vs) (hd : Paired (fun v d => Dp K H v d) vs ds) (hp : ∀ d ∈ ds, Pl k d) (hk : k ≤ 60) (h2 : H p = some (.lst [])) (q : Q (.bl (!decide (ds = []))) H) : rNeD K (.ref a) (.ref p) H Q :=
  ⟨_, _, .lst h1 (dpAll_of hd), dp_ints (xs := []) (.inl (.inl h2)), (Pl.lst hp).shaped (by omega), (pl_ints []).shaped (by decide), by
    have e : PyData.eqv (.list ds) (.list (([] : List Int).map PyData.int)) = decide (ds = []) := by
      cases ds with
      | nil => rfl
      | cons d t => rfl
    rw [e]
    exact q⟩
/-- a pair of ints -/
def Pr2 (H : Hp) (v : V) (r : Int × Int) : Prop := ∃ t, v = V.ref t ∧ H t = some (.tup [.int r.1, .int r.2])
theorem Pr2.same {H H' : Hp} {v : V} {r : Int × Int} (e : Same H H') (h : Pr2 H v r) : Pr2 H' v r := by
  obtain ⟨t, rfl, h⟩ := h
  exact ⟨t, rfl, e _ _ h⟩
def pr2D (r : Int × Int) : PyData := .tuple [.int r.1, .int r.2]
theorem Pr2.dp {K : PySem.W.Frag} {H : Hp} {v : V} {r : Int × Int} (h : Pr2 H v r) : Dp K H v (pr2D r) := by
  obtain ⟨t, rfl, h⟩ := h
  exact .tup (.inl (.inl h)) (.cons (.int _) (.cons (.int _) .nil))
theorem pl_pr2 (r : Int × Int) : Pl 1 (pr2D r) := Pl.tup fun d m => by
  rcases List.mem_cons.mp m with rfl | m
  · exact pl_int 0 _
  · rcases List.mem_cons.mp m with rfl | m
    · exact pl_int 0 _
    · cases m
/-! ### stretches of like numbers -/
def stepR (rs : List (Int × Int)) (n : Int) : List (Int × Int) :=
  match rs.reverse with
  | [] => [(n, 1)]
  | (m, k) :: t => if m = n then t.reverse ++ [(n, k + 1)] else rs ++ [(n, 1)]
theorem stepR_nil (n : Int) : stepR [] n = [(n, 1)] := rfl
theorem stepR_snoc (rs : List (Int × Int)) (m k n : Int) : stepR (rs ++ [(m, k)]) n = if m = n then rs ++ [(n, k + 1)] else rs ++ [(m, k)] ++ [(n, 1)] := by
  unfold stepR
  simp
def runs (row : List Int) : List (Int × Int) := row.foldl stepR []
theorem runs_snoc (row : List Int) (n : Int) : runs (row ++ [n]) = stepR (runs row) n := by
  unfold runs
  rw [List.foldl_append]
  rfl
theorem stepR_length (rs : List (Int × Int)) (n : Int) : (stepR rs n).length ≤ rs.length + 1 := by
  rcases nil_or_snoc rs with rfl | ⟨rs', ⟨m, k⟩, rfl⟩
  · simp [stepR_nil]
  · rw [stepR_snoc]
    split <;> simp
theorem fold_length : ∀ (row : List Int) (rs : List (Int × Int)), (row.foldl stepR rs).length ≤ rs.length + row.length
  | [], _ => Nat.le_refl _
  | x :: row, rs => by
    have h1 := fold_length row (stepR rs x)
    have h2 := stepR_length rs x
    show (row.foldl stepR (stepR rs x)).length ≤ rs.length + (row.length + 1)
    omega
theorem runs_length (row : List Int) : (runs row).length ≤ row.length := by
  have h := fold_length row []
  rw [List.length_nil, Nat.zero_add] at h
  exact h
/-! ### for and comprehension over a list or a tuple, held by a name -/
section
variable {K : PySem.W.Frag} {a : Addr} {xs : List V} {g : TG} {σ : L2.St} {H : Hp} {k : Nat}
theorem for_seq {tb : TS} {D : Ends} {H0 : Hp} (hi : σ[k]? = some (some (.ref a))) (hq : SqQ K H0 a xs) (e0 : Same H0 H) (Pv : Nat → L2.St → Hp → Prop) (h0 : Pv 0 σ H) (stay : ∀ i σ' H', i ≤ xs.length → Pv i σ' H' → Same H0 H')
    (hs : ∀ i x σ H, xs[i]? = some x → Pv i σ H → g x σ H fun σ2 H2 => tb { D with nx := Pv (i + 1), ct := Pv (i + 1), bk := D.nx } σ2 H2) (hd : ∀ σ H, Pv xs.length σ H → D.nx σ H) :
    tFor (fun σ H R => iList K (tVar k) σ H R ∨ iTup K (tVar k) σ H R) g tb D σ H := by
  rcases hq with h | h
  · exact .inl ⟨_, hi, a, rfl, ⟨_, e0.seq h⟩, for_list Pv h0 (fun i σ' H' l p => (stay i σ' H' l p).seq h) hs hd⟩
  · exact .inr ⟨_, hi, a, rfl, ⟨_, Same.t e0 h⟩, for_tup Pv h0 (fun i σ' H' l p => Same.t (stay i σ' H' l p) h) hs hd⟩
theorem lc_seqmap {tt : TT} {te : TE} {vs : List Nat} {Q : VK} (f : V → V) (hi : σ[k]? = some (some (.ref a))) (hq : SqQ K H a xs) (len : xs.length ≤ 100000)
    (turn : ∀ (i : Nat) (x : V) (Hc : Hp) (Q' : VK) (R' : Hp → Prop), xs[i]? = some x → Same H Hc → (∀ H4, Same Hc H4 → Q' (f x) H4) → g x (wipe σ vs) Hc fun σ2 H2 => wipe σ2 vs = wipe σ vs ∧ tt σ2 H2 fun b H3 => if b = true then te σ2 H3 Q' else R' H3)
    (fin : ∀ (D : Addr) (Hc : Hp), Same H Hc → Hc D = some (.lst (xs.map f)) → Q (.ref D) Hc) :
    tLc (fun σ H R => iList K (tVar k) σ H R ∨ iTup K (tVar k) σ H R) g tt te vs σ H Q := by
  rcases hq with h | h
  · exact .inl ⟨_, hi, a, rfl, ⟨_, h⟩, fun D nD => lc_mapL f h nD len turn (fin D)⟩
  · exact .inr ⟨_, hi, a, rfl, ⟨_, h⟩, fun D nD => lc_mapT f h nD len turn (fin D)⟩
theorem lc_lstmap {tt : TT} {te : TE} {vs : List Nat} {Q : VK} (f : V → V) (hi : σ[k]? = some (some (.ref a))) (hq : SqL K H a xs) (len : xs.length ≤ 100000)
    (turn : ∀ (i : Nat) (x : V) (Hc : Hp) (Q' : VK) (R' : Hp → Prop), xs[i]? = some x → Same H Hc → (∀ H4, Same Hc H4 → Q' (f x) H4) → g x (wipe σ vs) Hc fun σ2 H2 => wipe σ2 vs = wipe σ vs ∧ tt σ2 H2 fun b H3 => if b = true then te σ2 H3 Q' else R' H3)
    (fin : ∀ (D : Addr) (Hc : Hp), Same H Hc → Hc D = some (.lst (xs.map f)) → Q (.ref D) Hc) :
    tLc (iList K (tVar k)) g tt te vs σ H Q := ⟨_, hi, a, rfl, ⟨_, hq⟩, fun D nD => lc_mapL f hq nD len turn (fin D)⟩
end
theorem Pr2.set {H : Hp} {p : Addr} {us : List V} {v : V} {r : Int × Int} {o : HO} (hp : H p = some (.lst us)) (h : Pr2 H v r) : Pr2 (upd H p o) v r := by
  obtain ⟨t, rfl, h⟩ := h
  refine ⟨t, rfl, ?_⟩
  rw [upd_ne (fun e => by rw [e, hp] at h; cases h)]
  exact h
theorem same_set {H Hd : Hp} {p : Addr} {o : HO} (e : Same H Hd) (np : H p = none) : Same H (upd Hd p o) := fun b u h => by
  rw [upd_ne (ne_of_none h np)]
  exact e b u h
theorem Pr2.new {H : Hp} {t : Addr} {x y : Int} : Pr2 (upd H t (.tup [.int x, .int y])) (.ref t) (x, y) := ⟨t, rfl, upd_same⟩
theorem sz1 {x : V} : [x].length ≤ sizeLine := by
  show 1 ≤ sizeLine
  decide
theorem sz2 {x y : V} : [x, y].length ≤ sizeLine := by
  show 2 ≤ sizeLine
  decide
theorem sz3 {x y z : V} : [x, y, z].length ≤ sizeLine := by
  show 3 ≤ sizeLine
  decide
theorem sz4 {x y z u : V} : [x, y, z, u].length ≤ sizeLine := by
  show 4 ≤ sizeLine
  decide
theorem ix_last {n : Nat} : ixN (n + 1) (-1) = some n := by
  unfold ixN
  rw [if_neg (by omega), if_pos (by omega)]
  congr 1
  omega
/-- xs[-1] = y, what is set -/
theorem set_last {H : Hp} {p : Addr} {xs : List V} {x y : V} {Q : Hp → Prop} (hp : H p = some (.lst (xs ++ [x]))) (q : Q (upd H p (.lst (xs ++ [y])))) : rSetL (.ref p) (.int (-1)) y H Q :=
  ⟨p, _, -1, xs.length, rfl, rfl, hp, by rw [List.length_append]; exact ix_last, by rw [show (xs ++ [x]).set xs.length y = xs ++ [y] by simp]; exact q⟩
end Kx
namespace Kx
open PySem PySem.Spec PyProof.Rows L2 SX LamX
/-! ### rules that name the frame, within a comprehension -/
section
variable {X : Cx} {K : PySem.W.Frag}
theorem inK_ix_list (e : X.K = K) : IxR X (rIxL K) := e ▸ ix_list
theorem inK_ix_tup (e : X.K = K) : IxR X (rIxT K) := e ▸ ix_tup
theorem inK_call_len_seq (e : X.K = K) : CallR X (.builtin "len") (fun xs H Q => ∃ p ys, xs = [.ref p] ∧ (SqL K H p ys ∨ SqT K H p ys) ∧ Q (.int ys.length) H) := e ▸ call_len_seq
theorem inK_sl_list (e : X.K = K) : SlR X (rSlL K) := e ▸ sl_list
theorem inK_op_eqD (e : X.K = K) (hu : X.A.units + 64 < cLine) : OpR X (compareOp .Eq) (rEqD K) := e ▸ op_eqD hu
theorem inK_op_neD (e : X.K = K) (hu : X.A.units + 64 < cLine) : OpR X (compareOp .NotEq) (rNeD K) := e ▸ op_neD hu
theorem inK_pg_tup {es : List Expr} {k : Nat} {t : TGs} {n : Nat} {pos : Pos} (e : X.K = K) (hc : X.calm = true) (h : PGs X es t) (hn : (assignEach es X.env).length = n := by rfl) (hst : (assignEach es X.env).findIdx? (·.1) = none := by rfl) : PG X (.Tuple es k pos) (gTup K n t) := e ▸ pg_tup hc h hn hst
end
end Kx
namespace Kx
open PySem PySem.Spec PyProof.Rows L2 SX LamX
/-- an error is made with its part -/
theorem mk_part {K : PySem.W.Frag} {C : Addr} {σ : L2.St} {H : Hp} {Q : XK} {v : V} (o : OexC K C) (n : PySem.W.findIn K (.ref C) "part" = some none)
    (q : ∀ d H', Same H H' → H' d = some (.xd [("part", v)]) → Q (.ref C) (some d) H') : tMkO C (sp_init K) [] (tCons (tC v) tNil) σ H Q := by
  refine ⟨by show 1 ≤ 1000; decide, fun a na => ⟨a, C, v, rfl, o, n, upd_same, fun dx nd hne => ⟨rfl, dx, [("part", v)], upd_same, ?_, ?_, q dx _ ?_ upd_same⟩⟩⟩
  · rw [upd_ne hne, upd_same]
  · rw [upd_ne hne] at nd
    exact nd
  · rw [upd_ne hne] at nd
    intro b u h
    rw [upd_ne (ne_of_none h nd)]
    show (if b = a then none else _) = some u
    rw [if_neg (ne_of_none h na), upd_ne (ne_of_none h na), upd_ne (ne_of_none h nd), upd_ne (ne_of_none h na)]
    exact h
end Kx
namespace Kx
open PySem PySem.Spec PyProof.Rows L2 SX LamX
section
variable {K : PySem.W.Frag} {J : It} {n : Nat} {G : Hp → Prop} {Y : Nat → Hp → V → Hp → Prop} {g : TG} {tt : TT} {te : TE} {vs : List Nat} {σ : L2.St} {H1 : Hp} {D : Addr} {Qd : Hp → Prop}
/-- a comprehension whose items are told ahead -/
theorem lc_out (w : Walk J n G Y) (zs : List V) (hz : zs.length = n) (nD : H1 D = none) (len : n ≤ 100000) (hG : ∀ Hc, Same H1 Hc → G Hc)
    (turn : ∀ (i : Nat) (x z : V) (Hc Hx : Hp) (Q' : VK) (R' : Hp → Prop), i < n → zs[i]? = some z → Same H1 Hc → Y i Hc x Hx → (∀ H4, Same Hc H4 → Q' z H4) → g x (wipe σ vs) Hx fun σ2 H2 => wipe σ2 vs = wipe σ vs ∧ tt σ2 H2 fun b H3 => if b = true then te σ2 H3 Q' else R' H3)
    (fin : ∀ Hc, Same H1 Hc → Hc D = some (.lst zs) → Qd Hc) :
    ∃ W : Nat → Nat → Hp → Prop, (∃ m, W 0 m (upd H1 D (.lst []))) ∧ ∀ i m H, W i m H →
      (J.stop i H ∧ Qd H) ∨ (J.go i H ∧ ∃ Nx : Hp → Prop, (∀ H', Nx H' → ∃ m', m' < m ∧ W (i + 1) m' H') ∧ ∀ x H', J.yld i H x H' → g x (wipe σ vs) H' fun σ2 H2 => wipe σ2 vs = wipe σ vs ∧ tt σ2 H2 fun b H3 =>
        if b = true then te σ2 H3 fun y H4 => ∃ acc, H4 D = some (.lst acc) ∧ acc.length < sizeLine ∧ Nx (upd H4 D (.lst (acc ++ [y]))) else Nx H3) := by
  refine lc_it w (fun i Hc => Same H1 Hc ∧ Hc D = some (.lst (zs.take i))) ⟨same_new nD, upd_same⟩ (fun i H _ p => hG H p.1) (fun i x Hc Hx hi p y => ?_) (fun Hc p => ?_)
  · have hzi : zs[i]? = some (zs[i]'(by omega)) := List.getElem?_eq_getElem (by omega)
    refine turn i x _ Hc Hx _ _ hi hzi p.1 y (fun H4 e4 => ⟨_, e4 _ _ p.2, ?_, ?_⟩)
    · rw [List.length_take]
      exact Nat.lt_of_le_of_lt (Nat.min_le_right _ _) (Nat.lt_of_le_of_lt (by omega) (by decide : 100000 < sizeLine))
    · refine ⟨fun b o z => ?_, ?_⟩
      · rw [upd_ne (ne_of_none z nD)]
        exact e4 _ _ (p.1 b o z)
      · rw [upd_same, List.take_add_one, hzi]
        rfl
  · rw [← hz, List.take_length] at p
    exact fin Hc p.1 p.2
end
section
variable {K : PySem.W.Frag} {a b : Addr} {xs ys : List V} {g : TG} {tt : TT} {te : TE} {vs : List Nat} {σ : L2.St} {H : Hp} {k l : Nat} {Q : VK}
/-- [e for x in NAME], NAME a list: the items told ahead -/
theorem lc_lst (zs : List V) (hz : zs.length = xs.length) (hi : σ[k]? = some (some (.ref a))) (hq : SqL K H a xs) (len : xs.length ≤ 100000)
    (turn : ∀ (i : Nat) (x z : V) (Hc : Hp) (Q' : VK) (R' : Hp → Prop), xs[i]? = some x → zs[i]? = some z → Same H Hc → (∀ H4, Same Hc H4 → Q' z H4) → g x (wipe σ vs) Hc fun σ2 H2 => wipe σ2 vs = wipe σ vs ∧ tt σ2 H2 fun b H3 => if b = true then te σ2 H3 Q' else R' H3)
    (fin : ∀ (D : Addr) (Hc : Hp), Same H Hc → Hc D = some (.lst zs) → Q (.ref D) Hc) :
    tLc (iList K (tVar k)) g tt te vs σ H Q := ⟨_, hi, a, rfl, ⟨_, hq⟩, fun D nD => lc_out walk_list zs hz nD len (fun Hc e => e.seq hq) (fun i x z Hc Hx Q' R' _ hzi e y q => by
      obtain ⟨rfl, hx⟩ := y
      exact turn i x z _ Q' R' hx hzi e q) (fin D)⟩
/-- [e for x, y in zip(NAME, NAME)], both lists -/
theorem lc_zip (zs : List V) (hz : zs.length = min xs.length ys.length) (hi : σ[k]? = some (some (.ref a))) (hj : σ[l]? = some (some (.ref b))) (hq : SqL K H a xs) (hp : SqL K H b ys) (len : xs.length ≤ 100000)
    (turn : ∀ (i : Nat) (x y z : V) (t : Addr) (Hc : Hp) (Q' : VK) (R' : Hp → Prop), xs[i]? = some x → ys[i]? = some y → zs[i]? = some z → Same H Hc → Hc t = some (.tup [x, y]) → (∀ H4, Same Hc H4 → Q' z H4) → g (.ref t) (wipe σ vs) Hc fun σ2 H2 => wipe σ2 vs = wipe σ vs ∧ tt σ2 H2 fun b H3 => if b = true then te σ2 H3 Q' else R' H3)
    (fin : ∀ (D : Addr) (Hc : Hp), Same H Hc → Hc D = some (.lst zs) → Q (.ref D) Hc) :
    tLc (iZip K (tCons (tVar k) (tCons (tVar l) tNil))) g tt te vs σ H Q := ⟨_, hi, _, hj, a, b, xs, ys, rfl, hq, hp, fun D nD => lc_out (walk_zip rfl) zs hz nD (by omega) (fun Hc e => ⟨e.seq hq, e.seq hp⟩) (fun i x z Hc Hx Q' R' _ hzi e y q => by
      obtain ⟨t, x', y', rfl, nt, rfl, hx, hy⟩ := y
      exact turn i x' y' z t _ Q' R' hx hy hzi (e.trans (same_new nt)) upd_same (fun H4 e4 => q H4 ((same_new nt).trans e4))) (fin D)⟩
end
/-- «xs != ys», ints -/
theorem ne_ints {K : PySem.W.Frag} {H : Hp} {a b : Addr} {xs ys : List Int} {Q : VK} (h1 : SqL K H a (xs.map V.int)) (h2 : SqL K H b (ys.map V.int)) (q : Q (.bl (!decide (xs = ys))) H) : rNeD K (.ref a) (.ref b) H Q :=
  ⟨_, _, dp_ints h1, dp_ints h2, (pl_ints xs).shaped (by decide), (pl_ints ys).shaped (by decide), by rw [eqv_ints]; exact q⟩
theorem paired_at {α β : Type} {F : α → β → Prop} {l : List α} {m : List β} (h : Paired F l m) {i : Nat} {a : α} {b : β} (ha : l[i]? = some a) (hb : m[i]? = some b) : F a b := by
  obtain ⟨b', e, f⟩ := paired_get h ha
  rw [hb] at e
  cases e
  exact f
theorem map_at {α β : Type} {f : α → β} {l : List α} {i : Nat} {z : β} (h : (l.map f)[i]? = some z) : ∃ x, l[i]? = some x ∧ z = f x := by
  rw [List.getElem?_map] at h
  cases e : l[i]? with
  | none => rw [e] at h; cases h
  | some x => rw [e] at h; exact ⟨x, rfl, (Option.some.inj h).symm⟩
/-! ### one step into a reading -/
section
variable {D : Ends} {σ : L2.St} {H : Hp}
theorem go_seq {t u : TS} (h : t { D with nx := u D } σ H) : tSeq t u D σ H := h
theorem go_if {c : TT} {t u : TS} (h : c σ H fun b H1 => if b = true then t D σ H1 else u D σ H1) : tIfS c t u D σ H := h
theorem go_test {te : TE} {Q : Bool → Hp → Prop} (h : te σ H fun x H' => ∃ k, x = .bl k ∧ Q k H') : tTest te σ H Q := h
theorem go_op {r : R2} {ta tb : TE} {Q : VK} (h : ta σ H fun x H1 => tb σ H1 fun y H2 => r x y H2 Q) : tOp r ta tb σ H Q := h
theorem go_ret {te : TE} (h : te σ H D.rt) : tRet te D σ H := h
theorem go_asg {te : TE} {g : TG} (h : te σ H fun x H1 => g x σ H1 D.nx) : tAsg te g D σ H := h
theorem go_cb {r : List V → Hp → VK → Prop} {t : TA} {Q : VK} (h : t σ H fun vs H1 => r vs H1 Q) : tCB r t σ H Q := h
theorem go_cons {te : TE} {t : TA} {Q : List V → Hp → Prop} (h : te σ H fun x H1 => t σ H1 fun xs H2 => Q (x :: xs) H2) : tCons te t σ H Q := h
end
theorem cut_toI {xs : List Int} {k : Int} (h : 0 ≤ k) : cutV (xs.map V.int) none (some k) = (xs.take k.toNat).map V.int := by
  obtain ⟨n, rfl⟩ : ∃ n : Nat, k = n := ⟨k.toNat, by omega⟩
  rw [cut_to, List.map_take, Int.toNat_natCast]
theorem cut_fromI {xs : List Int} {k : Int} (h : 0 ≤ k) : cutV (xs.map V.int) (some k) none = (xs.drop k.toNat).map V.int := by
  obtain ⟨n, rfl⟩ : ∃ n : Nat, k = n := ⟨k.toNat, by omega⟩
  rw [cut_from, List.map_drop, Int.toNat_natCast]
theorem ne_of_two {H : Hp} {a b : Addr} {o u : HO} (ha : H a = some o) (hb : H b = some u) (h : o ≠ u) : a ≠ b := fun e => by
  rw [e, hb] at ha
  exact h (Option.some.inj ha).symm
theorem Wh.held {H : Hp} {a c : Addr} {n : Nat} (h : Wh H a c n) : ∃ o, H a = some o := by
  obtain ⟨cs, t, l, h1, _⟩ := h
  exact ⟨_, h1⟩
theorem Wh.ne {H : Hp} {a c p : Addr} {n : Nat} (h : Wh H a c n) (np : H p = none) : p ≠ a := fun e => by
  obtain ⟨o, h⟩ := h.held
  rw [← e, np] at h
  cases h
theorem Wh.new {H : Hp} {a c p : Addr} {n : Nat} {o : HO} (h : Wh H a c n) (np : H p = none) : Wh (upd H p o) a c n := h.same (same_new np)
theorem Mv.new {H H' : Hp} {a p : Addr} {o : HO} (h : Mv a H H') (np : H' p = none) : Mv a H (L2.upd H' p o) := h.trans (Mv.of (same_new np))
theorem Wh.cell {H : Hp} {a c : Addr} {n : Nat} (h : Wh H a c n) : ∃ o, H c = some o := by
  obtain ⟨cs, t, l, _, h2, _⟩ := h
  exact ⟨_, h2⟩
/-- a list of the law's own is written: the wheel stays -/
theorem Wh.set {H : Hp} {a c p : Addr} {n : Nat} {o : HO} (h : Wh H a c n) (h1 : p ≠ a) (h2 : p ≠ c) : Wh (upd H p o) a c n := by
  obtain ⟨cs, t, l, g1, g2, g3⟩ := h
  exact ⟨cs, t, l, by rw [upd_ne h1.symm]; exact g1, by rw [upd_ne h2.symm]; exact g2, g3⟩
theorem Wh.nc {H : Hp} {a c p : Addr} {n : Nat} (h : Wh H a c n) (np : H p = none) : p ≠ c := fun e => by
  obtain ⟨o, h⟩ := h.cell
  rw [← e, np] at h
  cases h
end Kx
namespace Kx
open PySem
/-- other can be cut into pieces, none empty, one for each number of row -/
inductive Th : List Int → List Int → Prop
  | nil : Th [] []
  | more {r o : List Int} (x : Int) (k : Nat) : Th r o → Th (r ++ [x]) (o ++ List.replicate (k + 1) x)
def LeR (p q : Int × Int) : Prop := p.1 = q.1 ∧ p.2 ≤ q.2
theorem snoc_inj {α : Type} {l m : List α} {a b : α} (h : l ++ [a] = m ++ [b]) : l = m ∧ a = b := by
  have h2 := List.append_inj' h rfl
  exact ⟨h2.1, by simpa using h2.2⟩
theorem snoc_ne {α : Type} {l : List α} {a : α} : l ++ [a] ≠ [] := by
  intro h
  have := congrArg List.length h
  simp at this
theorem stepR_le {rs ss : List (Int × Int)} (h : Paired LeR rs ss) (x : Int) : Paired LeR (stepR rs x) (stepR ss x) := by
  rcases nil_or_snoc ss with rfl | ⟨ss', ⟨m, d⟩, rfl⟩
  · cases paired_nil h
    exact .cons ⟨rfl, Int.le_refl _⟩ .nil
  · obtain ⟨rs', ⟨m', c⟩, rfl, h1, h2, h3⟩ := paired_split ss' h
    have e : m' = m := h2
    subst e
    rw [stepR_snoc, stepR_snoc]
    by_cases e : m' = x
    · rw [if_pos e, if_pos e]
      exact Paired.snoc h1 ⟨rfl, by have : c ≤ d := h3; show c + 1 ≤ d + 1; omega⟩
    · rw [if_neg e, if_neg e]
      exact Paired.snoc (Paired.snoc h1 ⟨rfl, h3⟩) ⟨rfl, Int.le_refl _⟩
theorem stepR_up (rs : List (Int × Int)) (x : Int) : ∃ rs' c, stepR rs x = rs' ++ [(x, c)] := by
  rcases nil_or_snoc rs with rfl | ⟨rs', ⟨m, d⟩, rfl⟩
  · exact ⟨[], 1, rfl⟩
  · rw [stepR_snoc]
    by_cases e : m = x
    · exact ⟨rs', d + 1, by rw [if_pos e]⟩
    · exact ⟨rs' ++ [(m, d)], 1, by rw [if_neg e]⟩
theorem more_le {rs ss : List (Int × Int)} {x c : Int} (h : Paired LeR (rs ++ [(x, c)]) ss) : Paired LeR (rs ++ [(x, c)]) (stepR ss x) := by
  rcases nil_or_snoc ss with rfl | ⟨ss', ⟨m, d⟩, rfl⟩
  · exact absurd (paired_nil h) snoc_ne
  · obtain ⟨rs', ⟨m', c'⟩, e, h1, h2, h3⟩ := paired_split ss' h
    obtain ⟨rfl, e2⟩ := snoc_inj e
    cases e2
    have e : x = m := h2
    subst e
    rw [stepR_snoc, if_pos rfl]
    exact Paired.snoc h1 ⟨rfl, by have : c ≤ d := h3; show c ≤ d + 1; omega⟩
theorem runs_rep (o : List Int) (x : Int) : ∀ k : Nat, runs (o ++ List.replicate (k + 1) x) = stepR (runs (o ++ List.replicate k x)) x := fun k => by
  rw [List.replicate_succ', ← List.append_assoc, runs_snoc]
theorem th_le {r o : List Int} (h : Th r o) : Paired LeR (runs r) (runs o) := by
  induction h with
  | nil => exact .nil
  | @more r o x k _ ih =>
    rw [runs_snoc]
    induction k with
    | zero =>
      rw [runs_rep]
      simp only [List.replicate_zero, List.append_nil]
      exact stepR_le ih x
    | succ k ihk =>
      rw [runs_rep]
      obtain ⟨rs', c, e⟩ := stepR_up (runs r) x
      rw [e] at ihk ⊢
      exact more_le ihk
theorem fold_pos : ∀ (o : List Int) (rs : List (Int × Int)), (∀ p ∈ rs, 1 ≤ p.2) → ∀ p ∈ o.foldl stepR rs, 1 ≤ p.2
  | [], _, h => h
  | x :: o, rs, h => by
    refine fold_pos o (stepR rs x) fun p m => ?_
    rcases nil_or_snoc rs with rfl | ⟨rs', ⟨y, d⟩, rfl⟩
    · rcases List.mem_singleton.mp m with rfl
      exact Int.le_refl _
    · have hd : (1 : Int) ≤ d := h (y, d) (by simp)
      rw [stepR_snoc] at m
      by_cases e : y = x
      · rw [if_pos e] at m
        rcases List.mem_append.mp m with m | m
        · exact h p (List.mem_append_left _ m)
        · rcases List.mem_singleton.mp m with rfl
          show (1 : Int) ≤ d + 1
          omega
      · rw [if_neg e] at m
        rcases List.mem_append.mp m with m | m
        · exact h p m
        · rcases List.mem_singleton.mp m with rfl
          exact Int.le_refl _
theorem runs_pos (o : List Int) : ∀ p ∈ runs o, 1 ≤ p.2 := fold_pos o [] (fun _ m => by cases m)
theorem runs_nil {o : List Int} (h : runs o = []) : o = [] := by
  rcases nil_or_snoc o with rfl | ⟨o', x, rfl⟩
  · rfl
  · rw [runs_snoc] at h
    obtain ⟨rs', c, e⟩ := stepR_up (runs o') x
    rw [e] at h
    exact absurd h snoc_ne
theorem runs_last {o : List Int} {ss : List (Int × Int)} {x d : Int} (h : runs o = ss ++ [(x, d)]) : ∃ o', o = o' ++ [x] ∧ ((d = 1 ∧ runs o' = ss) ∨ (2 ≤ d ∧ runs o' = ss ++ [(x, d - 1)])) := by
  rcases nil_or_snoc o with rfl | ⟨o', y, rfl⟩
  · exact absurd h.symm snoc_ne
  · rw [runs_snoc] at h
    rcases nil_or_snoc (runs o') with e | ⟨rs', ⟨m, c⟩, e⟩
    · rw [e] at h
      obtain ⟨h1, h2⟩ := snoc_inj (l := []) h
      cases h2
      exact ⟨o', rfl, .inl ⟨rfl, by rw [e, h1]⟩⟩
    · have hc : (1 : Int) ≤ c := runs_pos o' (m, c) (by rw [e]; simp)
      rw [e, stepR_snoc] at h
      by_cases em : m = y
      · rw [if_pos em] at h
        obtain ⟨h1, h2⟩ := snoc_inj h
        cases h2
        subst em h1
        exact ⟨o', rfl, .inr ⟨by omega, by rw [e, Int.add_sub_cancel]⟩⟩
      · rw [if_neg em] at h
        obtain ⟨h1, h2⟩ := snoc_inj h
        cases h2
        exact ⟨o', rfl, .inl ⟨rfl, by rw [e, h1]⟩⟩
theorem runs_piece {x : Int} {ss : List (Int × Int)} : ∀ (n : Nat) {o : List Int}, runs o = ss ++ [(x, (n : Int) + 1)] → ∃ o', o = o' ++ List.replicate (n + 1) x ∧ runs o' = ss
  | 0, o, h => by
    obtain ⟨o', e, h1 | h1⟩ := runs_last h
    · exact ⟨o', e, h1.2⟩
    · omega
  | n + 1, o, h => by
    obtain ⟨o', rfl, h1 | h1⟩ := runs_last h
    · omega
    · rw [show ((n + 1 : Nat) : Int) + 1 - 1 = (n : Int) + 1 by omega] at h1
      obtain ⟨o2, rfl, e2⟩ := runs_piece n h1.2
      exact ⟨o2, by rw [List.replicate_succ' (n := n + 1), List.append_assoc], e2⟩
theorem le_th : ∀ (n : Nat) {r o : List Int}, r.length = n → Paired LeR (runs r) (runs o) → Th r o
  | 0, r, o, hn, h => by
    cases r with
    | nil =>
      have e : runs o = [] := by
        cases h' : runs o with
        | nil => rfl
        | cons p t => rw [h'] at h; cases h
      rw [runs_nil e]
      exact .nil
    | cons _ _ => simp at hn
  | n + 1, r, o, hn, h => by
    rcases nil_or_snoc r with rfl | ⟨r', x, rfl⟩
    · simp at hn
    · have hn' : r'.length = n := by simpa using hn
      rw [runs_snoc] at h
      obtain ⟨rs', c, e⟩ := stepR_up (runs r') x
      rw [e] at h
      rcases nil_or_snoc (runs o) with eo | ⟨ss, ⟨y, d⟩, eo⟩
      · rw [eo] at h
        exact absurd (paired_nil h) snoc_ne
      · rw [eo] at h
        obtain ⟨q', ⟨x', c'⟩, e1, h1, h2, h3⟩ := paired_split ss h
        obtain ⟨e3, e2⟩ := snoc_inj e1
        cases e2
        subst e3
        have e4 : x = y := h2
        subst e4
        have h3 : c ≤ d := h3
        have hpos : (1 : Int) ≤ d := runs_pos o (x, d) (by rw [eo]; simp)
        rcases nil_or_snoc (runs r') with er | ⟨ts, ⟨m, c2⟩, er⟩
        · rw [er] at e
          obtain ⟨e5, e6⟩ := snoc_inj (l := []) e
          subst e5
          obtain ⟨o', rfl, eo'⟩ := runs_piece (d - 1).toNat (o := o) (ss := ss) (x := x) (by rw [eo]; congr 3; omega)
          exact .more x _ (le_th n hn' (by rw [er, eo']; exact h1))
        · have hc2 : (1 : Int) ≤ c2 := runs_pos r' (m, c2) (by rw [er]; simp)
          rw [er, stepR_snoc] at e
          by_cases em : m = x
          · rw [if_pos em] at e
            obtain ⟨e5, e6⟩ := snoc_inj e
            cases e6
            subst e5 em
            obtain ⟨o', rfl, hh | ⟨_, hh⟩⟩ := runs_last eo
            · omega
            · exact .more m 0 (le_th n hn' (by rw [er, hh]; exact Paired.snoc h1 ⟨rfl, by show c2 ≤ d - 1; omega⟩))
          · rw [if_neg em] at e
            obtain ⟨e5, e6⟩ := snoc_inj e
            cases e6
            subst e5
            obtain ⟨o', rfl, eo'⟩ := runs_piece (d - 1).toNat (o := o) (ss := ss) (x := x) (by rw [eo]; congr 3; omega)
            exact .more x _ (le_th n hn' (by rw [er, eo']; exact h1))
theorem leR_iff : ∀ (rs ss : List (Int × Int)), (decide (rs.map Prod.fst = ss.map Prod.fst) && (rs.zip ss).all fun p => decide (p.1.2 ≤ p.2.2)) = true ↔ Paired LeR rs ss
  | [], [] => ⟨fun _ => .nil, fun _ => rfl⟩
  | [], q :: ss => ⟨fun h => by simp at h, fun h => by cases h⟩
  | p :: rs, [] => ⟨fun h => by simp at h, fun h => by cases h⟩
  | p :: rs, q :: ss => by
    have ih := leR_iff rs ss
    constructor
    · intro h
      simp only [List.map_cons, List.zip_cons_cons, List.all_cons, Bool.and_eq_true, decide_eq_true_eq, List.cons.injEq] at h
      obtain ⟨⟨h1, h2⟩, h3, h4⟩ := h
      refine .cons ⟨h1, h3⟩ (ih.mp ?_)
      simp only [Bool.and_eq_true, decide_eq_true_eq]
      exact ⟨h2, h4⟩
    · intro h
      cases h with
      | cons h1 h2 =>
        have h3 := ih.mpr h2
        simp only [Bool.and_eq_true, decide_eq_true_eq] at h3
        simp only [List.map_cons, List.zip_cons_cons, List.all_cons, Bool.and_eq_true, decide_eq_true_eq, List.cons.injEq]
        exact ⟨⟨h1.1, h3.1⟩, h1.2, h3.2⟩
theorem th_iff (r o : List Int) : (decide ((runs r).map Prod.fst = (runs o).map Prod.fst) && ((runs r).zip (runs o)).all fun p => decide (p.1.2 ≤ p.2.2)) = true ↔ Th r o :=
  (leR_iff _ _).trans ⟨le_th _ rfl, th_le⟩
end Kx
namespace Kx
open PySem PySem.Spec PyProof.Rows L2 SX LamX
/-- a def whose code object is known -/
def FunC (K : PySem.W.Frag) (x qual : Str) (st : Stmt) (f : Addr) (fd : FuncData) (c : Addr) : Prop :=
  ∃ (oc : Value) (od : Option Addr) (kV doc pm : Value) (an : Option Addr) (ct : Value) (osl : Array (Option Value)), fd = PySem.W.fnOf x qual (defArgs st) (defBody st) (defScope st) .none kV doc pm an (.ref c) ct ∧
    K.lookup f = some ⟨oc, od, .func (PySem.W.fnOf x qual (defArgs st) (defBody st) (defScope st) .none kV doc pm an (.ref c) ct), osl⟩ ∧ PySem.W.codeIn K (.ref c) qual = true
section
variable {P : Program} {w : World} {K : PySem.W.Frag} {mg : Str → Option Value} {base : Heap}
/-- the body's rule: guards told, the code object known -/
theorem okC {x qual : Str} {st : Stmt} {f c : Addr} {fd : FuncData} {N ps : List Str} {k : Nat} {sp : Sp} (F : FunC K x qual st f fd c) (S : FnScope N ps (defScope st)) (len : ∀ vs H Q E, sp vs H Q E → vs.length = ps.length)
    (hbody : ∀ (A : Around) (outer : List Env) (s : Shared) (H : Hp) (vs : List V) (Q : VK) (E : XK), A.guards = some [] → Room k (A.deeper (envOfC qual (defScope st) s.heap.objs.size f (.ref c))) → sp vs H Q E →
      ∃ t, PSs (cxOf CX0 P w K mg base N qual (defScope st) f (.ref c) A outer s H E).nox (defBody st) t ∧ t { nx := fun _ H' => Q .non H', rt := Q } (start N vs) H) :
    FnG P w K mg base CX0 (k + 1) f fd ps sp := by
  obtain ⟨oc, od, kV, doc, pm, an, ct, osl, rfl, lk, hcd⟩ := F
  refine ⟨len, fun A outer s H args us vs Q E hg hr e0 hb r hsp => ?_⟩
  refine LamX.run_ofS lk hcd S hr e0 hb r (len _ _ _ _ hsp) fun hr' => ?_
  obtain ⟨t, h, q⟩ := hbody A outer s H vs Q E hg hr' hsp
  exact ⟨t, h.nox, q⟩
theorem funC_mk {x qual : Str} {st : Stmt} {f c : Addr} {oc : Value} {od an : Option Addr} {osl : Array (Option Value)} {kV doc pm ct : Value} (l : K.lookup f = some ⟨oc, od, .func (PySem.W.fnOf x qual (defArgs st) (defBody st) (defScope st) .none kV doc pm an (.ref c) ct), osl⟩)
    (h : PySem.W.codeIn K (.ref c) qual = true) : FunC K x qual st f (PySem.W.fnOf x qual (defArgs st) (defBody st) (defScope st) .none kV doc pm an (.ref c) ct) c := ⟨oc, od, kV, doc, pm, an, ct, osl, rfl, l, h⟩
theorem funC_of {x qual : Str} {st : Stmt} {f c Pt : Addr} {fd : FuncData} (F : Fun K x qual st f fd) (g : PySem.W.nsIn K mainGlobals x = some (some (.ref f))) (t : PySem.W.tabIn K x = some (c, Pt)) : FunC K x qual st f fd c := by
  obtain ⟨oc, od, kV, doc, pm, an, cdv, ct, osl, rfl, lk, hcd⟩ := F.ex
  unfold PySem.W.tabIn at t
  rw [g] at t
  simp only [lk] at t
  have e : (PySem.W.fnOf x qual (defArgs st) (defBody st) (defScope st) .none kV doc pm an cdv ct).code = cdv := rfl
  clear e
  cases cdv with
  | ref c' =>
    simp only at t
    split at t
    · split at t
      · injection t with t
        injection t with t1 t2
        subst t1
        exact ⟨oc, od, kV, doc, pm, an, ct, osl, rfl, lk, hcd⟩
      · cases t
    · cases t
  | _ => simp at t
end
/-- no positional value, two by name: exchanged -/
def swapG {α : Type} (us ws : List α) : List α := match us, ws with | [], [v, u] => [u, v] | _, _ => []
/-- f(b = .., a = ..): two parameters, both by name, the other way round -/
theorem kb_swap {K : PySem.W.Frag} {x qual : Str} {st : Stmt} {f : Addr} {fd : FuncData} {a b : Str} (F : Fun K x qual st f fd)
    (h : ∀ (kV doc pm : Value) (an : Option Addr) (cdv ct : Value) (u v : Value), bindArgs (PySem.W.fnOf x qual (defArgs st) (defBody st) (defScope st) .none kV doc pm an cdv ct) ⟨[], [(b, v), (a, u)]⟩ = pure [(a, u), (b, v)]) :
    KBinds K fd [a, b] [b, a] swapG swapG := by
  obtain ⟨oc, od, kV, doc, pm, an, cdv, ct, osl, rfl, lk, hcd⟩ := F.ex
  refine ⟨fun s us ws X l => ?_, fun {vs us zs ws} r1 r2 => ?_⟩
  · match us, ws, l with
    | [], [v, u], _ => exact .of_eq (h kV doc pm an cdv ct u v)
    | [], [], l => cases l
    | [], [_], l => cases l
    | [], _ :: _ :: _ :: _, l => cases l
    | _ :: _, _, l => cases l
  · cases r1 with
    | cons _ _ => exact .nil
    | nil =>
      cases r2 with
      | nil => exact .nil
      | cons h1 r2 =>
        cases r2 with
        | nil => exact .nil
        | cons h2 r2 =>
          cases r2 with
          | nil => exact .cons h2 (.cons h1 .nil)
          | cons _ _ => exact .nil
/-! ### the scope of a lambda with one default, checked -/
def lamPB (sc scope : Scope) (z : Str) : Bool :=
  decide (scope.kind = .function) && !scope.isCoroutine && !scope.isGenerator && decide (scope.names.lookup z = some .local) && scope.names.all fun y => !decide (y.2 = .cell) && (!decide (y.2 = .local) || decide (y.1 = z)) && (!decide (y.2 = .free) || decide (sc.names.lookup y.1 = some .cell) || decide (sc.names.lookup y.1 = some .free))
theorem lamP_by {sc scope : Scope} {z : Str} (h : lamPB sc scope z = true) : LamP sc scope z := by
  unfold lamPB at h
  simp only [Bool.and_eq_true, Bool.or_eq_true, Bool.not_eq_true', decide_eq_true_eq, decide_eq_false_iff_not, List.all_eq_true] at h
  obtain ⟨⟨⟨⟨h1, h2⟩, h3⟩, h5⟩, h4⟩ := h
  refine { kind := h1, co := h2, gen := h3, own := fun y hy => ⟨(h4 y hy).1.1, fun e => ?_⟩, par := h5, free := fun y hy e => ?_ }
  · rcases (h4 y hy).1.2 with z | z
    · exact absurd e z
    · exact z
  · rcases (h4 y hy).2 with (z | z) | z
    · exact absurd e z
    · exact .inl z
    · exact .inr z
open PySem.W in
/-- the goal that the head leaves, of a law that makes lambdas: x its def's name, P its table -/
theorem walkL {l : OpenLaw} {n k : Nat} {q : Program} {loose : List Str} {XP : (Str → Option Value) → Heap → Prop} {YP : World → Heap → Prop} {d : DefRec} {K : Params → Frag} {x y : Str} (sp : Frag → Addr → Sp)
    (hn : l.most = some n) (hz : n ≤ sizeLine) (h0 : d.params.defaults = []) (hr : Room k callerA) (hY : ∀ (w : World) (h : Heap), YP w h → (K w.params).In h)
    (hc : ∀ p, (∃ r, (recsOf q).find? (fun r => r.name == y) = some r) ∧ ∃ c Pt, tabIn (K p) y = some (c, Pt) ∧ (K p).lookup Pt = none)
    (F : ∀ (w : World) (mg : Str → Option Value) (fa : Addr) (h : Heap), (K w.params).In h → h.Ns mainGlobals mg → mg d.name = some (.ref fa) → ∃ fd : FuncData,
      (∀ (t : Shared) (u : Value), BindsTo t fd ⟨[u], []⟩ [(x, u)]) ∧ ∀ (c Pt : Addr), tabIn (K w.params) y = some (c, Pt) → ∀ base : Heap, (K w.params).In base → base.Ns mainGlobals mg → TabB base mg c Pt → FnG l.prog w (K w.params) mg base CX0 k fa fd [x] (sp (K w.params) Pt))
    (pr : ∀ (K : Frag) (Pt : Addr) (H : Hp) (a : Addr) (ns : List Int), ns.length ≤ n → H Pt = some (.tbl #[]) → SqL K H a (ns.map V.int) → sp K Pt [.ref a] H (fun v _ => v = .bl true) fun _ _ _ => False) :
    WalkO q loose XP YP l.row.toRowW d [] (fun f us => PySem.call f us) := by
  refine walkT (x := x) (K := K) (cs := fun p => [(y, ((tabIn (K p) y).getD (0, 0)))]) (sp := fun K => sp K ((tabIn K y).getD (0, 0)).2) hn hz h0 hr hY (fun p e he => ?_) (fun w mg fa h KX G hmg => ?_) (fun p H a ns hl ht hS _ => pr _ _ H a ns hl (ht _ (List.mem_singleton.mpr rfl)) hS)
  · obtain ⟨h1, c, Pt, h2, h3⟩ := hc p
    cases List.mem_singleton.mp he
    refine ⟨h1, ?_, ?_⟩
    · rw [h2]
      rfl
    · rw [h2]
      exact h3
  · obtain ⟨fd, hb, hF⟩ := F w mg fa h KX G hmg
    obtain ⟨_, c, Pt, h2, _⟩ := hc w.params
    refine ⟨fd, hb, fun base hk hg ht => ?_⟩
    have hT := ht _ (List.mem_singleton.mpr rfl)
    simp only [h2, Option.getD_some] at hT ⊢
    exact hF c Pt h2 base hk hg hT
theorem useIt {α : Type} {P : Prop} (x : α) (h : α → P) : P := h x
theorem binds_one {K : PySem.W.Frag} {x qual a : Str} {st : Stmt} {f : Addr} {fd : FuncData} (F : Fun K x qual st f fd)
    (h : ∀ (kV doc pm : Value) (an : Option Addr) (cdv ct u : Value), bindArgs (PySem.W.fnOf x qual (defArgs st) (defBody st) (defScope st) .none kV doc pm an cdv ct) ⟨[u], []⟩ = pure [(a, u)]) : ∀ (t : Shared) (u : Value), BindsTo t fd ⟨[u], []⟩ [(a, u)] := by
  obtain ⟨oc, od, kV, doc, pm, an, cdv, ct, osl, rfl, lk, hcd⟩ := F.ex
  exact fun t u => .of_eq (h kV doc pm an cdv ct u)
theorem same_ref {mg : Str → Option Value} {x : Str} {a b : Addr} (h : mg x = some (.ref a)) (k : mg x = some (.ref b)) : a = b := by
  rw [h] at k
  injection k with k
  injection k
theorem tabIn_of {K : PySem.W.Frag} {x : Str} {f c Pt : Addr} {oc oc2 : Value} {od od2 : Option Addr} {osl osl2 : Array (Option Value)} {fd : FuncData} {vs : Array Value} (a : PySem.W.nsIn K mainGlobals x = some (some (.ref f)))
    (l : K.lookup f = some ⟨oc, od, .func fd, osl⟩) (e : fd.code = .ref c) (l2 : K.lookup c = some ⟨oc2, od2, .fields vs, osl2⟩) (v : (vs[11]? : Option Value) = some (.ref Pt)) (n : K.lookup Pt = none) :
    ∃ c Pt, PySem.W.tabIn K x = some (c, Pt) ∧ K.lookup Pt = none := by
  refine ⟨c, Pt, ?_, n⟩
  unfold PySem.W.tabIn
  rw [a]
  simp only [l, e, l2, v]
end Kx
namespace Kx
open PySem PySem.Spec PyProof.Rows L2 SX LamX
/-! ### what stays through draws and through the making of lambdas -/
/-- H without what stands at a and without tables -/
def core (a : Addr) (H : Hp) : Hp := fun b => if b = a then none else match H b with | some (.tbl _) => none | o => o
theorem core_at {a b : Addr} {H : Hp} {o : HO} (h : H b = some o) (n : b ≠ a) (t : ∀ ps, o ≠ .tbl ps) : core a H b = some o := by
  unfold core
  rw [if_neg n, h]
  cases o with
  | tbl ps => exact absurd rfl (t ps)
  | _ => rfl
theorem of_core {a b : Addr} {H : Hp} {o : HO} (h : core a H b = some o) : b ≠ a ∧ H b = some o ∧ ∀ ps, o ≠ .tbl ps := by
  unfold core at h
  by_cases e : b = a
  · rw [if_pos e] at h
    cases h
  · rw [if_neg e] at h
    cases q : H b with
    | none => rw [q] at h; cases h
    | some u =>
      rw [q] at h
      cases u with
      | tbl ps => cases h
      | _ =>
        have h' := Option.some.inj h
        subst h'
        exact ⟨e, rfl, fun ps z => by cases z⟩
theorem core_mv {a : Addr} {H H' : Hp} (m : Mv a H H') : Same (core a H) H' := fun b o h => m b o (of_core h).1 (of_core h).2.1
theorem core_ext {a : Addr} {H0 H H' : Hp} (s : Same (core a H0) H) (e : ExtN H H') : Same (core a H0) H' := fun b o h => e b o (s b o h) (of_core h).2.2
theorem Wh.ext {H H' : Hp} {a c : Addr} {n : Nat} (h : Wh H a c n) (e : ExtN H H') : Wh H' a c n := by
  obtain ⟨cs, t, l', h1, h2, h3⟩ := h
  exact ⟨cs, t, l', e _ _ h1 (fun ps z => by cases z), e _ _ h2 (fun ps z => by cases z), h3⟩
theorem Wh.tab {H : Hp} {a c P : Addr} {n : Nat} {ps : Array Value} (h : Wh H a c n) (t : H P = some (.tbl ps)) : P ≠ a := by
  obtain ⟨cs, x, l', h1, _⟩ := h
  exact ne_of_two t h1 (fun z => by cases z)
/-! ### what never is a list or tuple -/
theorem no_list {K : PySem.W.Frag} {n : String} (h1 : kitB n "list" = some false) (h2 : kitB n "tuple" = some false) : PySem.W.kitAny K (.type n) [.type "list", .type "tuple"] = some false := kit_at h1 h2
theorem flat_rep (n : Nat) (xs : List Int) : (List.replicate n (xs.map V.int)).flatten = ((List.replicate n xs).flatten).map V.int := by
  rw [List.map_flatten, List.map_replicate]
theorem rep_one (n : Nat) (x : Int) : (List.replicate n [V.int x]).flatten = (List.replicate n x).map V.int := by
  rw [List.map_replicate]
  induction n with
  | zero => rfl
  | succ j ih => rw [List.replicate_succ, List.flatten_cons, ih, List.replicate_succ]; rfl
theorem flat_length (n : Nat) (xs : List Int) : ((List.replicate n xs).flatten).length = n * xs.length := by
  induction n with
  | zero => simp
  | succ j ih => rw [List.replicate_succ, List.flatten_cons, List.length_append, ih, Nat.succ_mul, Nat.add_comm]
theorem flat_mem {n : Nat} {xs : List Int} {i : Int} (h : i ∈ (List.replicate n xs).flatten) : i ∈ xs := by
  obtain ⟨l, hl, hi⟩ := List.mem_flatten.mp h
  rw [List.eq_of_mem_replicate hl] at hi
  exact hi
/-- one and the same truth, twice -/
theorem dp_bb {K : PySem.W.Frag} {H : Hp} {p : Addr} {b : Bool} (h : H p = some (.lst [.bl b, .bl b])) : Dp K H (.ref p) (.list [.bool b, .bool b]) := .lst (.inl (.inl h)) (.cons (.bl b) (.cons (.bl b) .nil))
/-- [b, b] is shown -/
theorem bb1 (b : Bool) : (PyData.list [.bool b, .bool b]).showable = true := by cases b <;> rfl
theorem bb2 (b : Bool) : (PyData.list [.bool b, .bool b]).hasDict = false := by cases b <;> rfl
theorem bb3 (b : Bool) : (PyData.list [.bool b, .bool b]).depth ≤ 60 := by cases b <;> decide
theorem bb4 (b : Bool) : (PyData.list [.bool b, .bool b]).shown.length ≤ sizeLine := by cases b <;> decide +kernel
theorem bool_of {P : Prop} {a b : Bool} (h1 : a = true ↔ P) (h2 : b = true ↔ P) : a = b := Bool.eq_iff_iff.mpr (h1.trans h2.symm)
theorem ne_self {x : V} : (!decide (x = x)) = false := by simp
theorem th_refl : ∀ (n : Nat) (r : List Int), r.length = n → Th r r
  | 0, r, h => by
    cases r with
    | nil => exact .nil
    | cons _ _ => simp at h
  | n + 1, r, h => by
    rcases nil_or_snoc r with rfl | ⟨r', x, rfl⟩
    · simp at h
    · exact .more x 0 (th_refl n r' (by simpa using h))
end Kx
namespace Kx
open PySem PySem.Spec PyProof.Rows L2 SX LamX
/-! ### a def that calls replace: a token is out when it begins -/
section
variable {X : Cx}
theorem pst_set {i : Nat} {x : Str} {e : Expr} {te : TE} {pos pos' : Pos} (hN : X.N.Nodup) (hi : X.N[i]? = some x) (hx : Loc X.env.scope x) (he : PET X e te) (hs : swapsWith e (some (.Name x pos')) pos.line X.env = pure false := by rfl)
    (hf : X.fn x = true ∨ X.env.scope.names.lookup x = some .local := by first | exact .inl rfl | exact .inr rfl | assumption) : PST X (.Assign [.Name x pos'] e pos) (tAsg te (gName i)) := by
  intro pins s σ H D h0 I h
  refine wpAny_Assign_Name (thn (he pins s σ H _ h0 I h) fun v s1 hh => ?_) hs
  obtain ⟨y, H1, I1, r1, q1⟩ := hh
  exact store_ok I1 hN hi hx r1 (fun s2 I2 => ⟨_, H1, I2, q1⟩) hf
end
theorem okT {P : Program} {w : World} {K : PySem.W.Frag} {mg : Str → Option Value} {base : Heap} {x qual : Str} {st : Stmt} {f : Addr} {fd : FuncData} {N ps : List Str} {k : Nat} {sp : Sp} (F : Fun K x qual st f fd) (S : FnScope N ps (defScope st))
    (hnc : ((defScope st).names.all fun y => !decide (y.2 = .cell)) = true) (hps : 1 ≤ ps.length) (len : ∀ vs H Q E, sp vs H Q E → vs.length = ps.length)
    (hbody : ∀ (cdv : Value) (A : Around) (outer : List Env) (s : Shared) (H : Hp) (vs : List V) (Q : VK) (E : XK), Room k (A.deeper (envOfC qual (defScope st) s.heap.objs.size f cdv)) → sp vs H Q E →
      ∃ t, PSsT (cxOf CX0 P w K mg base N qual (defScope st) f cdv A outer s H E) (defBody st) t ∧ t { nx := fun _ H' => Q .non H', rt := Q } (start N vs) H) :
    FnOk P w K mg base CX0 (k + 1) f fd ps sp := by
  obtain ⟨oc, od, kV, doc, pm, an, cdv, ct, osl, rfl, lk, hcd⟩ := F.ex
  refine fn_ofT lk hcd S (fun y hy e => ?_) hps len fun A outer s H vs Q E hr hsp => hbody cdv A outer s H vs Q E hr hsp
  have h := List.all_eq_true.mp hnc y hy
  rw [e] at h
  exact absurd h (by decide)
/-! ### texts -/
theorem replace_S (l : List Nat) : Txt.replace (S l) ⟨#[32]⟩ ⟨#[]⟩ = S (l.filter (· != 32)) := by
  have h := PyProof.Rows.replace_strikes (S l) 32
  refine TL.ext_tl ?_
  show (Txt.replace (S l) ⟨#[32]⟩ ⟨#[]⟩).cps.toList = (S (l.filter (· != 32))).cps.toList
  rw [h]
theorem S_nil (l : List Nat) : decide (V.str (S l) = V.str "") = l.isEmpty := by
  cases l with
  | nil => rfl
  | cons c t =>
    rw [decide_eq_false]
    · rfl
    · intro e
      injection e with e
      have := congrArg (fun z : Str => z.cps.size) e
      have e0 : (Str.ofString "").cps.size = 0 := rfl
      simp [S] at this
      omega
/-- letters and blanks alone -/
theorem text_filter (l : List Nat) : ((l.filter (· != 32)).isEmpty || lowB (l.filter (· != 32))) = l.all sg := by
  have h : (l.filter (· != 32)).all low = l.all sg := by
    induction l with
    | nil => rfl
    | cons c t ih =>
      by_cases e : c = 32
      · subst e
        rw [List.filter_cons_of_neg (by simp), ih]
        rfl
      · rw [List.filter_cons_of_pos (by simpa using e), List.all_cons, List.all_cons, ih]
        have : sg c = low c := by
          unfold sg
          rw [decide_eq_false e, Bool.false_or]
        rw [this]
  unfold lowB
  rw [h]
  cases hE : (l.filter (· != 32)).isEmpty with
  | true =>
    have : l.filter (· != 32) = [] := List.isEmpty_iff.mp hE
    rw [← h, this]
    rfl
  | false => simp
/-- as an error with its part is raised -/
def RaisedPart (E : XK) (C : Addr) (H : Hp) (part : Str) : Prop := ∀ d H', Same H H' → H' d = some (.xd [("part", .str part)]) → E (.ref C) (some d) H'
/-! ### items between blanks -/
def itemsA (acc : List Nat) : List Nat → List (List Nat)
  | [] => [acc]
  | c :: r => if c = 32 then acc :: itemsA [] r else itemsA (acc ++ [c]) r
theorem pre_blank (c : Nat) (r : List Nat) : TL.pre [32] (c :: r) = decide (c = 32) := by
  by_cases h : c = 32
  · subst h
    simp [TL.pre]
  · have h' : ¬ 32 = c := fun e => h e.symm
    simp [TL.pre, h, h']
theorem spl_items : ∀ (l acc : List Nat), TL.spl [32] 0 acc l = itemsA acc l
  | [], acc => TL.spl_nil _ _ _
  | c :: r, acc => by
    by_cases h : c = 32
    · rw [TL.spl_hit (by rw [pre_blank, decide_eq_true h])]
      show acc :: TL.spl [32] 0 [] r = if c = 32 then acc :: itemsA [] r else itemsA (acc ++ [c]) r
      rw [if_pos h, spl_items r []]
    · rw [TL.spl_miss (by rw [pre_blank, decide_eq_false h])]
      show TL.spl [32] 0 (acc ++ [c]) r = if c = 32 then acc :: itemsA [] r else itemsA (acc ++ [c]) r
      rw [if_neg h, spl_items r (acc ++ [c])]
theorem split_items (l : List Nat) : Txt.split (S l) " " = (itemsA [] l).map S := by
  have h := SX.split_S (a := l) (b := [32]) (by simp) (by decide)
  rw [spl_items] at h
  exact h
def beginsA : Nat → List (List Nat) → List Nat
  | _, [] => []
  | p, x :: xs => p :: beginsA (p + x.length + 1) xs
/-- how far items reach -/
def reachA : Nat → List (List Nat) → Nat
  | p, [] => p
  | p, x :: xs => reachA (p + x.length + 1) xs
theorem beginsA_snoc : ∀ (xs : List (List Nat)) (p : Nat) (x : List Nat), beginsA p (xs ++ [x]) = beginsA p xs ++ [reachA p xs]
  | [], _, _ => rfl
  | y :: ys, p, x => by
    show p :: beginsA (p + y.length + 1) (ys ++ [x]) = p :: (beginsA (p + y.length + 1) ys ++ [reachA (p + y.length + 1) ys])
    rw [beginsA_snoc ys]
theorem reachA_snoc : ∀ (xs : List (List Nat)) (p : Nat) (x : List Nat), reachA p (xs ++ [x]) = reachA p xs + x.length + 1
  | [], _, _ => rfl
  | y :: ys, p, x => reachA_snoc ys _ x
theorem reach_items : ∀ (l acc : List Nat) (p : Nat), reachA p (itemsA acc l) = p + acc.length + l.length + 1
  | [], acc, p => rfl
  | c :: r, acc, p => by
    show reachA p (if c = 32 then acc :: itemsA [] r else itemsA (acc ++ [c]) r) = _
    by_cases h : c = 32
    · rw [if_pos h]
      show reachA (p + acc.length + 1) (itemsA [] r) = _
      rw [reach_items]
      simp
      omega
    · rw [if_neg h, reach_items]
      simp
      omega
theorem items_blank : ∀ (l acc : List Nat), itemsA acc (l ++ [32]) = itemsA acc l ++ [[]]
  | [], acc => rfl
  | c :: r, acc => by
    show (if c = 32 then acc :: itemsA [] (r ++ [32]) else itemsA (acc ++ [c]) (r ++ [32])) = (if c = 32 then acc :: itemsA [] r else itemsA (acc ++ [c]) r) ++ [[]]
    by_cases h : c = 32
    · rw [if_pos h, if_pos h, items_blank]
      rfl
    · rw [if_neg h, if_neg h, items_blank]
theorem items_sign {s : Nat} (hs : s ≠ 32) : ∀ (l acc : List Nat), ∃ xs x, itemsA acc l = xs ++ [x] ∧ itemsA acc (l ++ [s]) = xs ++ [x ++ [s]]
  | [], acc => ⟨[], acc, rfl, by show (if s = 32 then _ else itemsA (acc ++ [s]) []) = _; rw [if_neg hs]; rfl⟩
  | c :: r, acc => by
    by_cases h : c = 32
    · obtain ⟨xs, x, h1, h2⟩ := items_sign hs r []
      refine ⟨acc :: xs, x, ?_, ?_⟩
      · show (if c = 32 then acc :: itemsA [] r else _) = _
        rw [if_pos h, h1]
        rfl
      · show (if c = 32 then acc :: itemsA [] (r ++ [s]) else _) = _
        rw [if_pos h, h2]
        rfl
    · obtain ⟨xs, x, h1, h2⟩ := items_sign hs r (acc ++ [c])
      refine ⟨xs, x, ?_, ?_⟩
      · show (if c = 32 then _ else itemsA (acc ++ [c]) r) = _
        rw [if_neg h, h1]
      · show (if c = 32 then _ else itemsA (acc ++ [c]) (r ++ [s])) = _
        rw [if_neg h, h2]
theorem items_length : ∀ (l acc : List Nat), (itemsA acc l).length = l.count 32 + 1
  | [], acc => rfl
  | c :: r, acc => by
    show (if c = 32 then acc :: itemsA [] r else itemsA (acc ++ [c]) r).length = _
    by_cases h : c = 32
    · subst h
      rw [if_pos rfl, List.length_cons, items_length, List.count_cons_self]
    · rw [if_neg h, items_length, List.count_cons_of_ne h]
theorem join_items : ∀ (l acc : List Nat), TL.joinL [32] (itemsA acc l) = acc ++ l
  | [], acc => by simp [itemsA, TL.joinL]
  | c :: r, acc => by
    show TL.joinL [32] (if c = 32 then acc :: itemsA [] r else itemsA (acc ++ [c]) r) = _
    by_cases h : c = 32
    · subst h
      rw [if_pos rfl]
      have ih := join_items r []
      cases hi : itemsA [] r with
      | nil =>
        have := items_length r []
        rw [hi] at this
        simp at this
      | cons x xs =>
        rw [hi] at ih
        show acc ++ ([32] ++ TL.joinL [32] (x :: xs)) = _
        rw [ih]
        simp
    · rw [if_neg h, join_items]
      simp
theorem beginsA_length : ∀ (xs : List (List Nat)) (p : Nat), (beginsA p xs).length = xs.length
  | [], _ => rfl
  | x :: xs, p => by
    show (beginsA (p + x.length + 1) xs).length + 1 = xs.length + 1
    rw [beginsA_length xs]
theorem item_le : ∀ (l acc it : List Nat), it ∈ itemsA acc l → it.length ≤ acc.length + l.length
  | [], acc, it, h => by
    rw [List.mem_singleton.mp h]
    simp
  | c :: r, acc, it, h => by
    have h : it ∈ (if c = 32 then acc :: itemsA [] r else itemsA (acc ++ [c]) r) := h
    by_cases e : c = 32
    · rw [if_pos e] at h
      rcases List.mem_cons.mp h with rfl | h
      · simp
      · have := item_le r [] it h
        simp at this ⊢
        omega
    · rw [if_neg e] at h
      have := item_le r _ it h
      simp at this ⊢
      omega
end Kx
namespace Kx
open PySem PySem.Spec PyProof.Rows L2 SX LamX
/-! ### an int or a truth is (not) a truth -/
def rNotBI : R2 := fun x y H Q => ∃ b : Bool, y = .bl b ∧ ((∃ i : Int, x = .int i ∧ Q (.bl true) H) ∨ ∃ a : Bool, x = .bl a ∧ Q (.bl (!decide (a = b))) H)
section
variable {X : Cx}
theorem op_notBI : OpR X (compareOp .IsNot) rNotBI := by
  intro pins s σ H x y v u Q I rx ry h
  obtain ⟨b, rfl, h⟩ := h
  rcases h with ⟨i, rfl, q⟩ | ⟨a, rfl, q⟩
  · obtain ⟨t, rfl⟩ := rx
    obtain rfl : u = Value.bool b := ry
    exact wpAny_isNot_other rfl (fun z => nomatch z) ⟨.bl true, H, I, rfl, q⟩
  · exact op_notBl pins s σ H _ _ v u Q I rx ry ⟨a, b, rfl, rfl, q⟩
/-! ### list(text) -/
def signsV (l : List Nat) : List V := l.map fun c => V.str (S [c])
theorem vals_signs : ∀ {l : List Nat} {its : List Value}, l.length = its.length → (∀ (i : Nat) (c : Nat), l[i]? = some c → ∃ u : Tok, its[i]? = some (Value.str (S [c]) u)) → Vals (signsV l) its
  | [], [], _, _ => .nil
  | [], _ :: _, h, _ => by simp at h
  | _ :: _, [], h, _ => by simp at h
  | c :: l, v :: its, hl, h => by
    obtain ⟨u, e⟩ := h 0 c rfl
    have e' : v = .str (S [c]) u := by simpa using e
    exact .cons ⟨u, e'⟩ (vals_signs (by simpa using hl) fun i d hd => by
      have := h (i + 1) d (by simpa using hd)
      simpa using this)
theorem call_list_txt (hc : X.calm = true) : CallR X (.type "list") (fun xs H Q => ∃ l : List Nat, xs = [.str (S l)] ∧ l.length ≤ 1000000 ∧ ∀ p, H p = none → Q (.ref p) (upd H p (.lst (signsV l)))) := by
  intro pins s σ H xs us Q I r h
  obtain ⟨l, rfl, hl, q⟩ := h
  obtain ⟨u, rfl, t, rfl⟩ := vals1 r
  have hz : (S l).cps.size = l.length := by simp [S]
  have hn : (S l).cps.size ≤ sizeLine := by
    rw [hz]
    exact Nat.le_trans hl (by decide)
  refine call_list_str (hn := hn) (I.ok.hd hc) (S l) t fun h' tk acc' c' k e1 e2 => ?_
  obtain ⟨z1, z2⟩ := e2
  rw [hz] at z1
  have rv : Vals (signsV l) acc'.toList := by
    refine vals_signs (l := l) (by have e := Array.length_toList (xs := acc'); omega) fun i c hi => ?_
    have il : i < l.length := by
      rcases Nat.lt_or_ge i l.length with h | h
      · exact h
      · rw [List.getElem?_eq_none h] at hi
        cases hi
    have ia : i < acc'.size := by omega
    obtain ⟨d, u, h3, h4⟩ := z2 i acc'[i] (by simp [ia])
    have h5 : (S l).cps[i]? = l[i]? := by simp [S]
    rw [h5, hi] at h3
    cases h3
    refine ⟨u, ?_⟩
    have h6 : acc'.toList[i]? = some acc'[i] := by simp [ia]
    rw [h6, h4]
  exact ⟨.ref s.heap.objs.size, upd H s.heap.objs.size (.lst (signsV l)), I.laid (t' := tk) k (Nat.le_refl _) (show ObjOk X.prog X.w _ h' _ (.lst (signsV l)) from ⟨by unfold signsV; rw [List.length_map]; exact Nat.le_trans hl (by decide), acc'.toList, c', rv, by simpa using e1⟩), rfl, q _ (I.hok.fresh (Nat.le_refl _))⟩
end
/-! ### enumerate(text) -/
def IteS (x : Str) : It :=
  ⟨fun i _ => i < x.cps.size, fun i H v H' => ∃ T c, v = .ref T ∧ H T = none ∧ H' = upd H T (.tup [.int (i : Nat), .str ⟨#[c]⟩]) ∧ x.cps[i]? = some c, fun i _ => i = x.cps.size⟩
theorem draws_str {prog : Program} {w : World} {A : Around} (hh : A.handled = none) (it : Addr) (x : Str) (t : Tok) :
    Draws prog w A it [it] x.cps.size (fun i v => ∃ c u, x.cps[i]? = some c ∧ v = .str ⟨#[c]⟩ u) (fun i h => h.IsStrIter it (strIterType x) x t i) := by
  unfold strIterType
  cases x.cps.all (· < 128)
  · exact Draws.strWide hh it x t
  · exact Draws.strAscii hh it x t
theorem turn_enumS {P : Program} {w : World} {K : PySem.W.Frag} {elts : List Expr} {kk : Nat} {tpos : Pos} (x : Str) (t : Tok) (e it : Addr) :
    Turn P w K (.Tuple elts kk tpos) (IteS x) [e, it] e (fun i h => (∃ old, IsEnum h e it ((i : Nat) : Int) old) ∧ h.IsStrIter it (strIterType x) x t i ∧ e ≠ it) where
  mem := by simp
  obj := fun i h st b hb => by
    obtain ⟨⟨old, he⟩, ⟨o, ho, hc, hd⟩, _⟩ := st
    rcases (show b = e ∨ b = it by simpa using hb) with z | z
    · rw [z]
      exact ⟨_, he, fun v q => nomatch q⟩
    · rw [z]
      exact ⟨o, ho, fun v q => by rw [hd] at q; cases q⟩
  keep := fun i h h' st k => by
    obtain ⟨⟨old, he⟩, ⟨o, ho, r⟩, hne⟩ := st
    exact ⟨⟨old, k e (by simp) _ he⟩, ⟨o, k it (by simp) _ ho, r⟩, hne⟩
  item := by
    intro X hP hw hK hc i pins s σ H E I hf st hg
    subst hP hw hK
    obtain ⟨⟨old, he⟩, hit, hne⟩ := st
    have el : e < s.heap.objs.size := Heap.lt_size he
    have il : it < s.heap.objs.size := by
      obtain ⟨_, q, _⟩ := hit
      exact Heap.lt_size q
    have D := draws_str (prog := X.prog) (w := X.w) (A := X.A.in1) (I.ok.hd hc) it x t
    refine wpAny_pyNext_enum_itemD D he hit hg hne (by simpa using hne) fun u h' tk hu ho hit' hT hz hk => ?_
    obtain ⟨c, tu, hcx, rfl⟩ := hu
    refine ⟨_, rfl, wpAny_letOwnedTupleGo_enum (s := { s with heap := h', toks := tk + 1 }) ho fun h2 he' sb => ?_⟩
    have T2 := (sb.2 _ (Nat.ne_of_gt el)).trans hT
    have new : ObjOk X.prog X.w (upd H s.heap.objs.size (.tup [.int (i : Nat), .str ⟨#[c]⟩])) h2 s.heap.objs.size (.tup [.int (i : Nat), .str ⟨#[c]⟩]) :=
      ⟨by show 2 ≤ sizeLine; decide, [.int i tk, .str ⟨#[c]⟩ tu], .cons ⟨_, rfl⟩ (.cons ⟨_, rfl⟩ .nil), ⟨_, T2, rfl, _, rfl⟩⟩
    have I1 : Inv X pins σ (upd H s.heap.objs.size (.tup [.int (i : Nat), .str ⟨#[c]⟩])) { s with heap := h2, toks := tk + 1 } :=
      I.turnedNew (ch := [e, it]) (fun b ob hb q => (sb.2 b (fun z => hb (by simp [z]))).trans (hk b ob (fun z => hb (by simp [z])) (fun z => hb (by simp [z])) q)) hf (Nat.le_refl _) new
    refine ⟨.ref s.heap.objs.size, _, I1, rfl, ⟨_, c, rfl, I.hok.fresh (Nat.le_refl _), rfl, hcx⟩, ⟨⟨.str ⟨#[c]⟩ tu, ?_⟩, ?_, hne⟩, fun b hb => ?_⟩
    · rw [show ((i + 1 : Nat) : Int) = (i : Int) + 1 by omega]
      exact he'
    · obtain ⟨o, ho2, r⟩ := hit'
      exact ⟨o, (sb.2 it (Ne.symm hne)).trans ho2, r⟩
    · have hb' : b < s.heap.objs.size := by
        rcases (show b = e ∨ b = it by simpa using hb) with z | z
        · rw [z]
          exact el
        · rw [z]
          exact il
      rw [upd_ne (Nat.ne_of_lt hb')]
      exact (hf b hb).1
  done := by
    intro X hP hw hK hc i pins s σ H E I hf st hg
    subst hP hw hK
    obtain ⟨⟨old, he⟩, hit, hne⟩ := st
    obtain ⟨f0, f1, f2, f3, f4, f5⟩ := hf it (by simp)
    have hg : i = x.cps.size := hg
    subst hg
    have D := draws_str (prog := X.prog) (w := X.w) (A := X.A.in1) (I.ok.hd hc) it x t
    exact wpAny_pyNext_enum_endD D he hit fun h' eb => ⟨rfl, I.turned (t' := s.toks) (fun b o hb q => eb b o hb q) f0 f1 f3 f4 f5⟩
  self := fun A i s Q E st h => by
    obtain ⟨⟨_, he⟩, _⟩ := st
    exact wpAny_pyIter_enum he h
def iEnumS (ta : TA) : TI := fun σ H R => ta σ H fun vs H1 => ∃ x : Str, vs = [.str x] ∧ R (IteS x) H1
theorem pi_enumS {X : Cx} {e : Expr} {ta : TA} {p pos tpos : Pos} {elts : List Expr} {kk : Nat} (hg : Gl X "enumerate") (hm : X.mg "enumerate" = none) (ha : PA X [e] ta) (hs : starEach [e] X.env = [(false, eval e X.env)] := by rfl) :
    PI X (.Tuple elts kk tpos) (.Call (.Name "enumerate" p) [e] [] pos) (iEnumS ta) := by
  refine ⟨fun pins s σ H R I h => ?_⟩
  refine Call_ (ld_blt I hg hm boot_enumerate (PyProof.Rows.callWith_type1 (thn (ha.run pos pins s σ H _ I h) fun us s1 hh => ?_) hs rfl))
  obtain ⟨vs, H1, I1, r1, x, rfl, q⟩ := hh
  obtain ⟨u, rfl, t, rfl⟩ := vals1 r1
  refine call_enumerate_str fun h' he hit hz hk => wpAny_pyIter_enum he ?_
  have I2 : Inv X pins σ H1 { s1 with heap := h' } := I1.kept (t' := s1.toks) hk
  refine ⟨s1.heap.objs.size + 1, [s1.heap.objs.size + 1, s1.heap.objs.size], _, _, H1, rfl, I2, turn_enumS x t (s1.heap.objs.size + 1) s1.heap.objs.size, ⟨⟨.none, he⟩, hit, Nat.succ_ne_self _⟩, fun b hb => ?_, q⟩
  have hle : s1.heap.objs.size ≤ b := by
    rcases (show b = s1.heap.objs.size + 1 ∨ b = s1.heap.objs.size by simpa using hb) with z | z
    · rw [z]
      exact Nat.le_add_right _ _
    · rw [z]
      exact Nat.le_refl _
  exact I1.fpOk hle (I1.hok.fresh hle)
theorem walk_enumS {x : Str} : Walk (IteS x) x.cps.size (fun _ => True) (fun i H v H' => ∃ T c, v = .ref T ∧ H T = none ∧ H' = upd H T (.tup [.int (i : Nat), .str ⟨#[c]⟩]) ∧ x.cps[i]? = some c) :=
  ⟨fun _ _ h _ => h, fun _ _ => rfl, fun _ _ _ _ _ _ y => y⟩
end Kx
namespace Kx
open PySem PySem.Spec PyProof.Rows L2 SX LamX
/-! ### values of all kinds -/
def KindIs (K : PySem.W.Frag) (H : Hp) (x : V) : Prop := (∃ i, x = .int i) ∨ (∃ b, x = .bl b) ∨ (isIntV x = false ∧ ∃ n, TyX K H x (.type n) ∧ kitB n "int" = some false)
section
variable {K : PySem.W.Frag} {H H' : Hp}
theorem KindIs.same {x : V} (e : Same H H') (h : KindIs K H x) : KindIs K H' x := by
  rcases h with h | h | ⟨h, n, h1, h2⟩
  · exact .inl h
  · exact .inr (.inl h)
  · exact .inr (.inr ⟨h, n, tyx_same e h1, h2⟩)
theorem kind_non : KindIs K H .non := .inr (.inr ⟨rfl, "NoneType", .base .non, by decide +kernel⟩)
theorem kind_str (x : Str) : KindIs K H (.str x) := .inr (.inr ⟨rfl, "str", .base (.str x), by decide +kernel⟩)
theorem kind_lst {a : Addr} {ws : List V} (h : SqL K H a ws) : KindIs K H (.ref a) := .inr (.inr ⟨rfl, "list", tyL h, by decide +kernel⟩)
theorem kind_tup {a : Addr} {ws : List V} (h : SqT K H a ws) : KindIs K H (.ref a) := .inr (.inr ⟨rfl, "tuple", tyT h, by decide +kernel⟩)
theorem kind_dk {a : Addr} {kvs : List (Key × V)} (h : H a = some (.dK kvs)) : KindIs K H (.ref a) := .inr (.inr ⟨rfl, "dict", .base (.dK h), by decide +kernel⟩)
theorem hasInt_dk {a : Addr} {kvs : List (Key × V)} (h : H a = some (.dK kvs)) : HasInt K H (.ref a) := ⟨"dict", false, false, .base (.dK h), by decide +kernel, by decide +kernel, rfl⟩
end
/-- an item: of what kind it is -/
def Itm (K : PySem.W.Frag) (H : Hp) (v : V) : Prop := HasInt K H v ∧ KindIs K H v
theorem Itm.same {K : PySem.W.Frag} {H H' : Hp} {x : V} (e : Same H H') (h : Itm K H x) : Itm K H' x := ⟨h.1.same e, h.2.same e⟩
/-- codes of signs -/
def cdC (l : List Nat) : Prop := l.all (fun c => decide (c < 1114112)) = true
theorem cdC.app {l m : List Nat} (h : cdC l) (k : cdC m) : cdC (l ++ m) := by
  unfold cdC at h k ⊢
  rw [List.all_append, h, k]
  rfl
theorem cdC.sub {l m : List Nat} (h : cdC l) (k : ∀ c ∈ m, c ∈ l) : cdC m := by
  unfold cdC at h ⊢
  exact List.all_eq_true.mpr fun c hc => List.all_eq_true.mp h c (k c hc)
theorem ok_ofString (s : String) : cdC (Str.ofString s).cps.toList := by
  rw [Str.ofString_eq_toList]
  unfold cdC
  refine List.all_eq_true.mpr fun n hn => ?_
  obtain ⟨c, _, rfl⟩ := List.mem_map.mp (by simpa using hn)
  refine decide_eq_true ?_
  have hv := c.valid
  show c.val.toNat < 1114112
  rcases hv with h | ⟨_, h⟩
  · have h' : c.val.toNat < 55296 := h
    omega
  · exact h
inductive AnyV (K : PySem.W.Frag) (H : Hp) : V → Prop where
  | non : AnyV K H .non
  | bl (b : Bool) : AnyV K H (.bl b)
  | int (i : Int) : AnyV K H (.int i)
  | str (l : List Nat) (h : l.length ≤ 5000) (v : cdC l) : AnyV K H (.str (S l))
  | lst {a : Addr} {ws : List V} (h : SqL K H a ws) (n : ws.length ≤ 1000) (t : ∀ v ∈ ws, Itm K H v) : AnyV K H (.ref a)
  | tup {a : Addr} {ws : List V} (h : SqT K H a ws) (n : ws.length ≤ 1000) (t : ∀ v ∈ ws, Itm K H v) : AnyV K H (.ref a)
  | dk {a : Addr} {kvs : List (Key × V)} (h : H a = some (.dK kvs)) : AnyV K H (.ref a)
section
variable {K : PySem.W.Frag} {H H' : Hp} {x : V}
theorem AnyV.same (e : Same H H') (h : AnyV K H x) : AnyV K H' x := by
  cases h with
  | non => exact .non
  | bl b => exact .bl b
  | int i => exact .int i
  | str l h v => exact .str l h v
  | lst h n t => exact .lst (e.seq h) n fun v m => (t v m).same e
  | tup h n t => exact .tup (Same.t e h) n fun v m => (t v m).same e
  | dk h => exact .dk (e _ _ h)
theorem AnyV.itm (h : AnyV K H x) : Itm K H x := by
  cases h with
  | non => exact ⟨hasInt_non, kind_non⟩
  | bl b => exact ⟨hasInt_bl b, .inr (.inl ⟨b, rfl⟩)⟩
  | int i => exact ⟨hasInt_int i, .inl ⟨i, rfl⟩⟩
  | str l h v => exact ⟨hasInt_str _, kind_str _⟩
  | lst h n t => exact ⟨hasInt_lst h, kind_lst h⟩
  | tup h n t => exact ⟨hasInt_tup h, kind_tup h⟩
  | dk h => exact ⟨hasInt_dk h, kind_dk h⟩
/-- is it a list or a tuple -/
theorem AnyV.seq (h : AnyV K H x) : (∃ n, TyX K H x (.type n) ∧ PySem.W.kitAny K (.type n) [.type "list", .type "tuple"] = some false) ∨
    ∃ (a : Addr) (ws : List V), x = .ref a ∧ SqQ K H a ws ∧ ws.length ≤ 1000 ∧ ∀ v ∈ ws, Itm K H v := by
  cases h with
  | non => exact .inl ⟨"NoneType", .base .non, no_list (by decide +kernel) (by decide +kernel)⟩
  | bl b => exact .inl ⟨"bool", .base (.bl b), no_list (by decide +kernel) (by decide +kernel)⟩
  | int i => exact .inl ⟨"int", .base (.int i), no_list (by decide +kernel) (by decide +kernel)⟩
  | str l h v => exact .inl ⟨"str", .base (.str _), no_list (by decide +kernel) (by decide +kernel)⟩
  | lst h n t => exact .inr ⟨_, _, rfl, .inl h, n, t⟩
  | tup h n t => exact .inr ⟨_, _, rfl, .inr h, n, t⟩
  | dk h => exact .inl ⟨"dict", .base (.dK h), no_list (by decide +kernel) (by decide +kernel)⟩
/-- is it a text -/
theorem AnyV.str? (h : AnyV K H x) : (∃ l : List Nat, x = .str (S l) ∧ l.length ≤ 5000 ∧ cdC l) ∨ ∃ n, TyX K H x (.type n) ∧ kitB n "str" = some false := by
  cases h with
  | non => exact .inr ⟨"NoneType", .base .non, by decide +kernel⟩
  | bl b => exact .inr ⟨"bool", .base (.bl b), by decide +kernel⟩
  | int i => exact .inr ⟨"int", .base (.int i), by decide +kernel⟩
  | str l h v => exact .inl ⟨l, rfl, h, v⟩
  | lst h n t => exact .inr ⟨"list", tyL h, by decide +kernel⟩
  | tup h n t => exact .inr ⟨"tuple", tyT h, by decide +kernel⟩
  | dk h => exact .inr ⟨"dict", .base (.dK h), by decide +kernel⟩
end
theorem S_of (x : Str) : S x.cps.toList = x := by
  cases x
  simp [S]
theorem any_text {K : PySem.W.Frag} {H : Hp} (x : Str) (h : x.length ≤ 5000) (v : cdC x.cps.toList) : AnyV K H (.str x) := by
  have e := AnyV.str (K := K) (H := H) x.cps.toList (by simpa [Str.length] using h) v
  rw [S_of] at e
  exact e
theorem itms_nil {K : PySem.W.Frag} {H : Hp} : ∀ v ∈ ([] : List V), Itm K H v := fun _ m => by cases m
theorem itms_cons {K : PySem.W.Frag} {H : Hp} {x : V} {xs : List V} (h : Itm K H x) (t : ∀ v ∈ xs, Itm K H v) : ∀ v ∈ x :: xs, Itm K H v := fun v m => by
  rcases List.mem_cons.mp m with rfl | m
  · exact h
  · exact t v m
theorem itm_int {K : PySem.W.Frag} {H : Hp} (i : Int) : Itm K H (.int i) := ⟨hasInt_int i, .inl ⟨i, rfl⟩⟩
theorem itm_bl {K : PySem.W.Frag} {H : Hp} (b : Bool) : Itm K H (.bl b) := ⟨hasInt_bl b, .inr (.inl ⟨b, rfl⟩)⟩
theorem joinL_nil : ∀ (l : List Nat), TL.joinL [] (l.map fun c => [c]) = l
  | [] => rfl
  | [c] => rfl
  | c :: d :: r => by
    have ih := joinL_nil (d :: r)
    show [c] ++ ([] ++ TL.joinL [] ((d :: r).map fun c => [c])) = c :: d :: r
    rw [ih]
    rfl
theorem join_signs (l : List Nat) : Txt.join "" (l.map fun c => S [c]) = S l := by
  have h := SX.join_S [] (l.map fun c => [c])
  rw [joinL_nil, List.map_map] at h
  exact h
theorem sum_signs : ∀ (l : List Nat), ((l.map fun c => S [c]).map (·.length)).sum = l.length
  | [] => rfl
  | c :: r => by
    show (S [c]).length + ((r.map fun c => S [c]).map (·.length)).sum = r.length + 1
    rw [sum_signs r, S_len]
    show 1 + r.length = _
    omega
theorem signs_map (l : List Nat) : signsV l = (l.map fun c => S [c]).map V.str := by
  unfold signsV
  rw [List.map_map]
  rfl
theorem in_signs {l : List Nat} {v : V} (h : v ∈ signsV l) : ∃ c, c ∈ l ∧ v = .str (S [c]) := by
  obtain ⟨c, hc, e⟩ := List.mem_map.mp h
  exact ⟨c, hc, e.symm⟩
end Kx
namespace Kx
open PySem PySem.Spec PyProof.Rows L2 SX LamX
section
variable {K : PySem.W.Frag} {J : It} {n : Nat} {G : Hp → Prop} {Y : Nat → Hp → V → Hp → Prop} {g : TG} {tt : TT} {te : TE} {vs : List Nat} {σ : L2.St} {H1 : Hp} {D : Addr} {Qd : Hp → Prop}
theorem keep_some {zs : List (Option V)} {i : Nat} {v : V} (h : zs[i]? = some (some v)) : (zs.take (i + 1)).filterMap id = (zs.take i).filterMap id ++ [v] := by
  rw [List.take_add_one, h, List.filterMap_append]
  rfl
theorem keep_none {zs : List (Option V)} {i : Nat} (h : zs[i]? = some none) : (zs.take (i + 1)).filterMap id = (zs.take i).filterMap id := by
  rw [List.take_add_one, h, List.filterMap_append]
  simp
/-- a comprehension with a test, its items told ahead: none where the test fails -/
theorem lc_keep (w : Walk J n G Y) (zs : List (Option V)) (hz : zs.length = n) (nD : H1 D = none) (len : n ≤ 1000000) (hG : ∀ Hc, Same H1 Hc → G Hc)
    (turn : ∀ (i : Nat) (x : V) (z : Option V) (Hc Hx : Hp) (Q' : VK) (R' : Hp → Prop), i < n → zs[i]? = some z → Same H1 Hc → Y i Hc x Hx → (∀ v H4, z = some v → Same Hc H4 → Q' v H4) → (∀ H4, z = none → Same Hc H4 → R' H4) → g x (wipe σ vs) Hx fun σ2 H2 => wipe σ2 vs = wipe σ vs ∧ tt σ2 H2 fun b H3 => if b = true then te σ2 H3 Q' else R' H3)
    (fin : ∀ Hc, Same H1 Hc → Hc D = some (.lst (zs.filterMap id)) → Qd Hc) :
    ∃ W : Nat → Nat → Hp → Prop, (∃ m, W 0 m (upd H1 D (.lst []))) ∧ ∀ i m H, W i m H →
      (J.stop i H ∧ Qd H) ∨ (J.go i H ∧ ∃ Nx : Hp → Prop, (∀ H', Nx H' → ∃ m', m' < m ∧ W (i + 1) m' H') ∧ ∀ x H', J.yld i H x H' → g x (wipe σ vs) H' fun σ2 H2 => wipe σ2 vs = wipe σ vs ∧ tt σ2 H2 fun b H3 =>
        if b = true then te σ2 H3 fun y H4 => ∃ acc, H4 D = some (.lst acc) ∧ acc.length < sizeLine ∧ Nx (upd H4 D (.lst (acc ++ [y]))) else Nx H3) := by
  refine lc_it w (fun i Hc => Same H1 Hc ∧ Hc D = some (.lst ((zs.take i).filterMap id))) ⟨same_new nD, upd_same⟩ (fun i H _ p => hG H p.1) (fun i x Hc Hx hi p y => ?_) (fun Hc p => ?_)
  · have hzi : zs[i]? = some (zs[i]'(by omega)) := List.getElem?_eq_getElem (by omega)
    refine turn i x _ Hc Hx _ _ hi hzi p.1 y (fun v H4 ev e4 => ⟨_, e4 _ _ p.2, ?_, ?_⟩) (fun H4 ev e4 => ⟨p.1.trans e4, ?_⟩)
    · have h1 : ((zs.take i).filterMap id).length ≤ (zs.take i).length := List.length_filterMap_le ..
      rw [List.length_take] at h1
      exact Nat.lt_of_le_of_lt (show _ ≤ 1000000 by omega) (by decide)
    · refine ⟨fun b o z => ?_, ?_⟩
      · rw [upd_ne (ne_of_none z nD)]
        exact e4 _ _ (p.1 b o z)
      · rw [upd_same, keep_some (by rw [hzi, ev])]
    · rw [keep_none (by rw [hzi, ev])]
      exact e4 _ _ p.2
  · rw [← hz, List.take_length] at p
    exact fin Hc p.1 p.2
end
section
variable {K : PySem.W.Frag} {a : Addr} {xs : List V} {g : TG} {tt : TT} {te : TE} {vs : List Nat} {σ : L2.St} {H : Hp} {k : Nat} {Q : VK} {l : List Nat}
/-- [e for c in NAME if t], NAME a text -/
theorem lc_txt (zs : List (Option V)) (hz : zs.length = l.length) (hi : σ[k]? = some (some (.str (S l)))) (len : l.length ≤ 1000000)
    (turn : ∀ (i : Nat) (c : Nat) (z : Option V) (Hc : Hp) (Q' : VK) (R' : Hp → Prop), l[i]? = some c → zs[i]? = some z → Same H Hc → (∀ v H4, z = some v → Same Hc H4 → Q' v H4) → (∀ H4, z = none → Same Hc H4 → R' H4) → g (.str (S [c])) (wipe σ vs) Hc fun σ2 H2 => wipe σ2 vs = wipe σ vs ∧ tt σ2 H2 fun b H3 => if b = true then te σ2 H3 Q' else R' H3)
    (fin : ∀ (D : Addr) (Hc : Hp), Same H Hc → Hc D = some (.lst (zs.filterMap id)) → Q (.ref D) Hc) :
    tLc (iStr (tVar k)) g tt te vs σ H Q := by
  have e : (S l).cps.size = l.length := by simp [S]
  refine ⟨_, hi, S l, rfl, fun D nD => lc_keep walk_str zs (by rw [hz, e]) nD (by rw [e]; exact len) (fun _ _ => trivial) (fun i x z Hc Hx Q' R' _ hzi e1 y q r => ?_) (fin D)⟩
  obtain ⟨rfl, c, hc, rfl⟩ := y
  have hc' : l[i]? = some c := by
    have : (S l).cps[i]? = l[i]? := by simp [S]
    rw [← this]
    exact hc
  exact turn i c z _ Q' R' hc' hzi e1 q r
/-- [e for x in NAME if t], NAME a list -/
theorem lc_lstk (zs : List (Option V)) (hz : zs.length = xs.length) (hi : σ[k]? = some (some (.ref a))) (hq : SqL K H a xs) (len : xs.length ≤ 1000000)
    (turn : ∀ (i : Nat) (x : V) (z : Option V) (Hc : Hp) (Q' : VK) (R' : Hp → Prop), xs[i]? = some x → zs[i]? = some z → Same H Hc → (∀ v H4, z = some v → Same Hc H4 → Q' v H4) → (∀ H4, z = none → Same Hc H4 → R' H4) → g x (wipe σ vs) Hc fun σ2 H2 => wipe σ2 vs = wipe σ vs ∧ tt σ2 H2 fun b H3 => if b = true then te σ2 H3 Q' else R' H3)
    (fin : ∀ (D : Addr) (Hc : Hp), Same H Hc → Hc D = some (.lst (zs.filterMap id)) → Q (.ref D) Hc) :
    tLc (iList K (tVar k)) g tt te vs σ H Q := ⟨_, hi, a, rfl, ⟨_, hq⟩, fun D nD => lc_keep walk_list zs hz nD len (fun Hc e => e.seq hq) (fun i x z Hc Hx Q' R' _ hzi e y q r => by
      obtain ⟨rfl, hx⟩ := y
      exact turn i x z _ Q' R' hx hzi e q r) (fin D)⟩
end
/-- texts of one sign each, laid -/
theorem pl_signs {l : List Nat} (h : cdC l) : ∀ d ∈ l.map (fun c => PyData.str (S [c])), Pl 0 d := fun d m => by
  obtain ⟨c, hc, rfl⟩ := List.mem_map.mp m
  refine ⟨?_, Nat.le_refl _⟩
  have h2 := List.all_eq_true.mp h c hc
  show (S [c]).cps.all (· < 0x110000) = true
  simpa [S] using of_decide_eq_true h2
theorem dp_signs {K : PySem.W.Frag} {H : Hp} (l : List Nat) : Paired (fun v d => Dp K H v d) (signsV l) (l.map fun c => PyData.str (S [c])) := paired_of_map _ _ fun c _ => .str (S [c])
/-- «xs == []», any laid items -/
theorem eq_nilD {K : PySem.W.Frag} {H : Hp} {a p : Addr} {vs : List V} {ds : List PyData} {k : Nat} {Q : VK} (h1 : SqL K H a vs) (hd : Paired (fun v d => Dp K H v d) vs ds) (hp : ∀ d ∈ ds, Pl k d) (hk : k ≤ 60) (h2 : H p = some (.lst [])) (q : Q (.bl (decide (ds = []))) H) : rEqD K (.ref a) (.ref p) H Q :=
  ⟨_, _, .lst h1 (dpAll_of hd), dp_ints (xs := []) (.inl (.inl h2)), (Pl.lst hp).shaped (by omega), (pl_ints []).shaped (by decide), by
    have e : PyData.eqv (.list ds) (.list (([] : List Int).map PyData.int)) = decide (ds = []) := by
      cases ds with
      | nil => rfl
      | cons d t => rfl
    rw [e]
    exact q⟩
theorem filt_map {α β : Type} (p : α → Bool) (f : α → β) : ∀ (l : List α), (l.map fun c => if p c = true then some (f c) else none).filterMap id = (l.filter p).map f
  | [] => rfl
  | c :: l => by
    rw [List.map_cons, List.filterMap_cons]
    cases h : p c with
    | true =>
      rw [List.filter_cons_of_pos h]
      show f c :: _ = f c :: _
      rw [filt_map p f l]
    | false =>
      rw [List.filter_cons_of_neg (by rw [h]; decide)]
      exact filt_map p f l
end Kx
namespace Kx
open PySem PySem.Spec PyProof.Rows L2 SX LamX
section
variable {D : Ends} {σ : L2.St} {H : Hp}
theorem go_and {ta tb : TE} {Q : VK} (h : ta σ H fun x H1 => ∃ c, x = .bl c ∧ if c = true then tb σ H1 Q else Q (.bl false) H1) : tAndV ta tb σ H Q := h
theorem go_chain {r r' : R2} {ta tb tc : TE} {Q : VK} (h : ta σ H fun x H1 => tb σ H1 fun y H2 => r x y H2 fun z H3 => ∃ k, z = .bl k ∧ if k = true then tc σ H3 fun w' H4 => r' y w' H4 Q else Q (.bl false) H3) : tChain r r' ta tb tc σ H Q := h
theorem go_or {ta tb : TE} {Q : VK} (h : ta σ H fun x H1 => ∃ c, x = .bl c ∧ if c = true then Q (.bl true) H1 else tb σ H1 Q) : tOrV ta tb σ H Q := h
theorem go_lst {t : TA} {Q : VK} (h : t σ H fun xs H1 => xs.length ≤ sizeLine ∧ ∀ p, H1 p = none → Q (.ref p) (upd H1 p (.lst xs))) : tLst t σ H Q := h
end
/-- both, told as one truth -/
theorem and_join {c : Bool} {tb : TE} {Q : VK} {σ : L2.St} {H : Hp} (d : Bool) (h : c = true → ∀ Q' : VK, Q' (.bl d) H → tb σ H Q') (q : Q (.bl (c && d)) H) : ∃ c', V.bl c = .bl c' ∧ if c' = true then tb σ H Q else Q (.bl false) H := by
  refine ⟨c, rfl, ?_⟩
  cases c with
  | true => exact h rfl _ q
  | false => exact q
theorem and_b {c : Bool} {A B : Prop} (h1 : c = true → A) (h2 : c = false → B) : if c = true then A else B := by
  cases c with
  | true => rw [if_pos rfl]; exact h1 rfl
  | false => rw [if_neg (by decide)]; exact h2 rfl
theorem map_nil_dec {α β : Type} (f : α → β) (l : List α) [Decidable (l.map f = [])] : decide (l.map f = []) = l.isEmpty := by
  cases l with
  | nil => exact decide_eq_true rfl
  | cons a t => exact decide_eq_false (fun e => nomatch e)
theorem filt_empty (p : Nat → Bool) (l : List Nat) : (l.filter fun c => !p c).isEmpty = l.all p := by
  induction l with
  | nil => rfl
  | cons c t ih =>
    cases h : p c with
    | true =>
      rw [List.filter_cons_of_neg (by rw [h]; decide), List.all_cons, h, ih]
      rfl
    | false =>
      rw [List.filter_cons_of_pos (by rw [h]; rfl), List.all_cons, h]
      rfl
/-- one sign is the blank -/
theorem is_blank (c : Nat) : decide (V.str (S [c]) = V.str (Str.ofString " ")) = decide (c = 32) := by
  by_cases hc : c = 32
  · subst hc
    rfl
  · rw [decide_eq_false hc, decide_eq_false]
    intro e
    injection e with e
    have := congrArg (fun z : Str => z.cps.toList) e
    simp [S] at this
    exact hc (by have h2 : (Str.ofString " ").cps.toList = [32] := rfl; rw [h2] at this; simpa using this)
theorem take_succ {α : Type} {l : List α} {i : Nat} {c : α} (h : l[i]? = some c) : l.take (i + 1) = l.take i ++ [c] := by
  rw [List.take_add_one, h]
  rfl
theorem ixN_last (n : Nat) : ixN (n + 1) (-1) = some n := by
  unfold ixN
  rw [if_neg (by decide), if_pos (by omega)]
  congr 1
  omega
end Kx
namespace Kx
open PySem PySem.Spec PyProof.Rows L2 SX LamX
section
variable {X : Cx} {k : Nat} {f : Addr} {fd : FuncData} {ps : List Str} {sp : Sp} {x : Str} {p pos : Pos} {e1 : Expr} {more : List Expr} {t : TA}
/-! ### a call of a def that is promised only where no repr runs around it; it raises nothing -/
theorem pe_callG (F : FnG X.prog X.w X.K X.mg X.base CX0 k f fd ps sp) (nog : X.A.guards = some []) (room : Room k X.A) (here : Gl X x) (at_f : X.mg x = some (.ref f)) (keeps : PySem.W.keepIn X.K (.ref f) = true) (bd : Binds X.K fd ps [])
    (args : PA X (e1 :: more) t) (nd : (x == ("__debug__" : Str)) = false := by decide) (h1 : starEach (e1 :: more) X.env = (false, eval e1 X.env) :: starEach more X.env := by rfl) (h2 : (backTo pos (starEach more X.env)).any (·.1) = false := by rfl) :
    PE X (.Call (.Name x p) (e1 :: more) [] pos) (tCall sp [] C8.E0 t) := by
  constructor
  intro pins s σ H Q I want
  apply wpAny_Call_Name_kw
  refine ld_glob I here at_f ?_ nd
  refine PySem.W.callWith_K (h₀ := X.base) I.ok.mod.kin keeps (thn (args.run pos pins s σ H _ I want) fun us st hh => ?_) h1 h2
  obtain ⟨vs, Hm, J, rv, promise⟩ := hh
  rw [List.append_nil] at promise
  have size : (us ++ []).length = ps.length := by
    rw [List.append_nil, ← rv.length]
    exact F.len _ _ _ _ promise
  have bound := bd st us J.kIn size
  rw [List.append_nil] at bound
  refine ⟨J.kIn, wpAny_call (codeAny_mono (F.go X.A X.stack st Hm ⟨us, []⟩ us vs Q C8.E0 nog room J.env0 bound rv promise) fun r st2 done => ?_)⟩
  match r, done with
  | .ok (.ret u), done => exact J.after done
  | .error e, done => exact (show False from done).elim
  | .ok .next, done => exact done.elim
  | .ok .brk, done => exact done.elim
  | .ok .cont, done => exact done.elim
end
/-! ### tables stay through draws -/
theorem Tabs.mv {T : List (Addr × Str)} {a c : Addr} {n : Nat} {H H' : Hp} (t : Tabs T H) (w : Wh H a c n) (m : Mv a H H') : Tabs T H' := fun p hp => by
  obtain ⟨ps, h1, h2, h3⟩ := t p hp
  obtain ⟨cs, x, l', g1, _⟩ := w
  refine ⟨ps, m _ _ (ne_of_two h1 g1 (fun z => by cases z)) h1, h2, fun pos cv hc => ?_⟩
  obtain ⟨c', e1, e2⟩ := h3 pos cv hc
  exact ⟨c', e1, m _ _ (ne_of_two e2 g1 (fun z => by cases z)) e2⟩
theorem Tabs.same {T : List (Addr × Str)} {H H' : Hp} (t : Tabs T H) (m : Same H H') : Tabs T H' := fun p hp => (t p hp).ext m
end Kx
namespace Kx
open PySem PySem.Spec PyProof.Rows L2 SX LamX
/-! ### data that repr shows -/
structure Sh (k m : Nat) (d : PyData) : Prop where
  sh : d.showable = true
  nd : d.hasDict = false
  dp : d.depth ≤ k
  lv : d.leavesShort 13 = true
  bk : d.bulk ≤ m
theorem Sh.len {k m : Nat} {d : PyData} (h : Sh k m d) (hm : m ≤ 1048576) : d.shown.length ≤ sizeLine :=
  PyData.shown_fits_bulk (B := 13) (by decide) (by decide) h.lv (Nat.le_trans h.bk hm)
theorem Sh.up {k l m n : Nat} {d : PyData} (h : Sh k m d) (hk : k ≤ l) (hm : m ≤ n) : Sh l n d := ⟨h.sh, h.nd, Nat.le_trans h.dp hk, h.lv, Nat.le_trans h.bk hm⟩
theorem sh_bool (b : Bool) : Sh 0 0 (.bool b) := ⟨rfl, rfl, Nat.le_refl _, rfl, Nat.le_refl _⟩
theorem sh_none : Sh 0 0 .none := ⟨rfl, rfl, Nat.le_refl _, rfl, Nat.le_refl _⟩
theorem sh_int {i : Int} (h : i.natAbs < 1000000000000) : Sh 0 0 (.int i) :=
  ⟨by
    simp only [PyData.showable, decide_eq_true_eq]
    by_cases z : i.natAbs = 0
    · rw [z]; decide
    · exact Nat.lt_of_lt_of_le ((Nat.log2_lt z).mpr (Nat.lt_of_lt_of_le h (by decide : 1000000000000 ≤ 2 ^ 40))) (by decide), rfl, Nat.le_refl _, by simp only [PyData.leavesShort, decide_eq_true_eq]; exact PyData.shown_int_le (by exact h), Nat.le_refl _⟩
theorem sh_str {x : Str} {l : List Nat} (e : x = S l) (h : cdC l) : Sh 0 l.length (.str x) :=
  ⟨rfl, rfl, Nat.le_refl _, by
    subst e
    simp only [PyData.leavesShort, List.all_eq_true, decide_eq_true_eq]
    intro c hc
    have h2 := List.all_eq_true.mp h c (by simpa [S] using hc)
    have h3 := of_decide_eq_true h2
    exact Nat.lt_of_lt_of_le h3 (by decide), by
    subst e
    simp [PyData.bulk, S]⟩
/-- items that are shown, m: their signs and one each -/
inductive ShA (k : Nat) : Nat → List PyData → Prop
  | nil : ShA k 0 []
  | cons {m n : Nat} {d : PyData} {ds : List PyData} : Sh k m d → ShA k n ds → ShA k (m + 1 + n) (d :: ds)
theorem ShA.all {k m : Nat} {ds : List PyData} (h : ShA k m ds) : PyData.showableAll ds = true ∧ PyData.hasDictAll ds = false ∧ PyData.depthAll ds ≤ k ∧ PyData.leavesShortAll 13 ds = true ∧ PyData.bulkAll ds ≤ m := by
  induction h with
  | nil => exact ⟨rfl, rfl, Nat.zero_le _, rfl, Nat.le_refl _⟩
  | cons h1 _ ih =>
    obtain ⟨a, b, c, d, e⟩ := ih
    refine ⟨?_, ?_, ?_, ?_, ?_⟩
    · simp only [PyData.showableAll, h1.sh, a, Bool.and_self]
    · simp only [PyData.hasDictAll, h1.nd, b, Bool.or_self]
    · simp only [PyData.depthAll]
      exact Nat.max_le.mpr ⟨h1.dp, c⟩
    · simp only [PyData.leavesShortAll, h1.lv, d, Bool.and_self]
    · simp only [PyData.bulkAll]
      have := h1.bk
      omega
theorem ShA.lst {k m : Nat} {ds : List PyData} (h : ShA k m ds) : Sh (k + 1) m (.list ds) := by
  obtain ⟨a, b, c, d, e⟩ := h.all
  exact ⟨by simp only [PyData.showable, a], by simp only [PyData.hasDict, b], by simp only [PyData.depth]; omega, by simp only [PyData.leavesShort, d], by simp only [PyData.bulk]; exact e⟩
theorem ShA.tup {k m : Nat} {ds : List PyData} (h : ShA k m ds) : Sh (k + 1) m (.tuple ds) := by
  obtain ⟨a, b, c, d, e⟩ := h.all
  exact ⟨by simp only [PyData.showable, a], by simp only [PyData.hasDict, b], by simp only [PyData.depth]; omega, by simp only [PyData.leavesShort, d], by simp only [PyData.bulk]; exact e⟩
theorem shA_ints {k : Nat} : ∀ (l : List Int), (∀ i ∈ l, i.natAbs < 1000000000000) → ShA k l.length (l.map PyData.int)
  | [], _ => .nil
  | i :: r, h => by
    have := ShA.cons ((sh_int (h i List.mem_cons_self)).up (Nat.zero_le k) (Nat.le_refl _)) (shA_ints r fun j m => h j (List.mem_cons_of_mem _ m))
    have e : 0 + 1 + r.length = (i :: r).length := by rw [List.length_cons]; omega
    rw [e] at this
    exact this
theorem shA_texts {k : Nat} : ∀ (xs : List (List Nat)), (∀ x ∈ xs, cdC x) → ShA k (reachA 0 xs) (xs.map fun x => PyData.str (S x))
  | [], _ => .nil
  | x :: r, h => by
    have := ShA.cons ((sh_str rfl (h x List.mem_cons_self)).up (Nat.zero_le k) (Nat.le_refl _)) (shA_texts r fun y m => h y (List.mem_cons_of_mem _ m))
    have e : ∀ (r : List (List Nat)) (p : Nat), reachA p r = p + reachA 0 r := fun r => by
      induction r with
      | nil => intro p; rfl
      | cons y r ih =>
        intro p
        show reachA (p + y.length + 1) r = p + reachA (0 + y.length + 1) r
        rw [ih, ih (0 + y.length + 1)]
        omega
    have e2 : x.length + 1 + reachA 0 r = reachA 0 (x :: r) := by
      show _ = reachA (0 + x.length + 1) r
      rw [e r (0 + x.length + 1)]
      omega
    rw [e2] at this
    exact this
theorem item_cd : ∀ (l acc it : List Nat), it ∈ itemsA acc l → ∀ c ∈ it, c ∈ acc ∨ c ∈ l
  | [], acc, it, h, c, hc => by
    rw [List.mem_singleton.mp h] at hc
    exact .inl hc
  | d :: r, acc, it, h, c, hc => by
    have h : it ∈ (if d = 32 then acc :: itemsA [] r else itemsA (acc ++ [d]) r) := h
    by_cases e : d = 32
    · rw [if_pos e] at h
      rcases List.mem_cons.mp h with rfl | h
      · exact .inl hc
      · rcases item_cd r [] it h c hc with z | z
        · cases z
        · exact .inr (List.mem_cons_of_mem _ z)
    · rw [if_neg e] at h
      rcases item_cd r _ it h c hc with z | z
      · rcases List.mem_append.mp z with z | z
        · exact .inl z
        · rw [List.mem_singleton.mp z]
          exact .inr List.mem_cons_self
      · exact .inr (List.mem_cons_of_mem _ z)
theorem begins_le : ∀ (xs : List (List Nat)) (p : Nat), ∀ b ∈ beginsA p xs, b ≤ reachA p xs
  | [], p, b, h => by cases h
  | x :: xs, p, b, h => by
    have r : ∀ (xs : List (List Nat)) (p : Nat), p ≤ reachA p xs := fun xs => by
      induction xs with
      | nil => exact fun p => Nat.le_refl _
      | cons y ys ih =>
        intro p
        show p ≤ reachA (p + y.length + 1) ys
        exact Nat.le_trans (by omega) (ih _)
    show b ≤ reachA (p + x.length + 1) xs
    rcases List.mem_cons.mp h with rfl | h
    · exact Nat.le_trans (by omega) (r xs _)
    · exact begins_le xs _ b h
/-- repr of data -/
theorem go_repr {K : PySem.W.Frag} {a : Addr} {d : PyData} {k m : Nat} {H : Hp} {Q : VK} (hd : Dp K H (.ref a) d) (h : Sh k m d) (hk : k ≤ 60) (hm : m ≤ 1048576) (q : Q (.str d.shown) H) : rRepr K [.ref a] H Q :=
  ⟨a, d, rfl, hd, h.sh, h.nd, Nat.le_trans h.dp hk, h.len hm, q⟩
/-- one and the same text is no other -/
theorem rne_self {x : Str} {H : Hp} {Q : Bool → Hp → Prop} (q : Q false H) : ∃ k, V.bl (!decide (V.str x = V.str x)) = .bl k ∧ Q k H := ⟨false, by simp, q⟩
theorem bools_dp {K : PySem.W.Frag} {H : Hp} {p : Addr} {bs : List Bool} (h : H p = some (.lst (bs.map V.bl))) : Dp K H (.ref p) (.list (bs.map PyData.bool)) := .lst (.inl (.inl h)) (by
  clear h
  induction bs with
  | nil => exact .nil
  | cons b t ih => exact .cons (.bl b) ih)
theorem shA_bools {k : Nat} : ∀ (l : List Bool), ShA k l.length (l.map PyData.bool)
  | [] => .nil
  | i :: r => by
    have := ShA.cons ((sh_bool i).up (Nat.zero_le k) (Nat.le_refl _)) (shA_bools r)
    have e : 0 + 1 + r.length = (i :: r).length := by rw [List.length_cons]; omega
    rw [e] at this
    exact this
theorem cnt_count : ∀ (l : List Nat), cnt 32 l = (l.count 32 : Nat)
  | [] => rfl
  | c :: r => by
    rw [cnt_cons, cnt_count r]
    by_cases h : c = 32
    · subst h
      rw [List.count_cons_self]
      simp
      omega
    · rw [List.count_cons_of_ne h]
      simp [h]
theorem count_blank (l : List Nat) : Txt.count (S l) " " = (l.count 32 : Nat) := by
  have h := count_cnt (S l) 32
  have e : (" " : Str) = ⟨#[32]⟩ := rfl
  rw [e, h]
  have e2 : (S l).cps.toList = l := by simp [S]
  rw [e2, cnt_count]
end Kx
namespace Kx
open PySem PySem.Spec PyProof.Rows L2 SX LamX
/-- no positional value, one by name -/
def oneG {α : Type} (us ws : List α) : List α := match us, ws with | [], [u] => [u] | _, _ => []
theorem kb_one {K : PySem.W.Frag} {x qual : Str} {st : Stmt} {f : Addr} {fd : FuncData} {a : Str} (F : Fun K x qual st f fd)
    (h : ∀ (kV doc pm : Value) (an : Option Addr) (cdv ct : Value) (u : Value), bindArgs (PySem.W.fnOf x qual (defArgs st) (defBody st) (defScope st) .none kV doc pm an cdv ct) ⟨[], [(a, u)]⟩ = pure [(a, u)]) :
    KBinds K fd [a] [a] oneG oneG := by
  obtain ⟨oc, od, kV, doc, pm, an, cdv, ct, osl, rfl, lk, hcd⟩ := F.ex
  refine ⟨fun s us ws X l => ?_, fun {vs us zs ws} r1 r2 => ?_⟩
  · match us, ws, l with
    | [], [u], _ => exact .of_eq (h kV doc pm an cdv ct u)
    | [], [], l => cases l
    | [], _ :: _ :: _, l => cases l
    | _ :: _, _, l => cases l
  · cases r1 with
    | cons _ _ => exact .nil
    | nil =>
      cases r2 with
      | nil => exact .nil
      | cons h1 r2 =>
        cases r2 with
        | nil => exact .cons h1 .nil
        | cons _ _ => exact .nil
/-- no positional value, three by name: c, a, b for a, b, c -/
def turnG {α : Type} (us ws : List α) : List α := match us, ws with | [], [c, a, b] => [a, b, c] | _, _ => []
theorem kb_turn {K : PySem.W.Frag} {x qual : Str} {st : Stmt} {f : Addr} {fd : FuncData} {a b c : Str} (F : Fun K x qual st f fd)
    (h : ∀ (kV doc pm : Value) (an : Option Addr) (cdv ct : Value) (u v w : Value), bindArgs (PySem.W.fnOf x qual (defArgs st) (defBody st) (defScope st) .none kV doc pm an cdv ct) ⟨[], [(c, w), (a, u), (b, v)]⟩ = pure [(a, u), (b, v), (c, w)]) :
    KBinds K fd [a, b, c] [c, a, b] turnG turnG := by
  obtain ⟨oc, od, kV, doc, pm, an, cdv, ct, osl, rfl, lk, hcd⟩ := F.ex
  refine ⟨fun s us ws X l => ?_, fun {vs us zs ws} r1 r2 => ?_⟩
  · match us, ws, l with
    | [], [w, u, v], _ => exact .of_eq (h kV doc pm an cdv ct u v w)
    | [], [], l => cases l
    | [], [_], l => cases l
    | [], [_, _], l => cases l
    | [], _ :: _ :: _ :: _ :: _, l => cases l
    | _ :: _, _, l => cases l
  · cases r1 with
    | cons _ _ => exact .nil
    | nil =>
      cases r2 with
      | nil => exact .nil
      | cons h1 r2 =>
        cases r2 with
        | nil => exact .nil
        | cons h2 r2 =>
          cases r2 with
          | nil => exact .nil
          | cons h3 r2 =>
            cases r2 with
            | nil => exact .cons h2 (.cons h3 (.cons h1 .nil))
            | cons _ _ => exact .nil
end Kx
namespace Kx
open PySem PySem.Spec PyProof.Rows L2 SX LamX
theorem go_nil {σ : L2.St} {H : Hp} {Q : List V → Hp → Prop} (h : Q [] H) : tNil σ H Q := h
theorem go_var {σ : L2.St} {H : Hp} {i : Nat} {v : V} {Q : VK} (e : σ[i]? = some (some v)) (h : Q v H) : tVar i σ H Q := ⟨v, e, h⟩
theorem go_or2 {ta tb : TT} {σ : L2.St} {H : Hp} {Q : Bool → Hp → Prop} (h : ta σ H fun b H1 => if b = true then Q true H1 else tb σ H1 Q) : tOr ta tb σ H Q := h
theorem go_not {ta : TT} {σ : L2.St} {H : Hp} {Q : Bool → Hp → Prop} (h : ta σ H fun b H1 => Q (!b) H1) : tNot ta σ H Q := h
theorem go_b {te : TE} {σ : L2.St} {H : Hp} {Q : Bool → Hp → Prop} (h : te σ H fun x H1 => ∃ c, x = .bl c ∧ Q c H1) : tB te σ H Q := h
end Kx
namespace Kx
open PySem PySem.Spec PyProof.Rows L2 SX LamX
theorem ext_at {H H' : Hp} {b : Addr} {o : HO} (e : ExtN H H') (h : H b = some o) (n : ∀ ps, o ≠ .tbl ps := by intro ps z; cases z) : H' b = some o := e b o h n
theorem tyx_ext {K : PySem.W.Frag} {H H' : Hp} {x : V} {n : String} (e : ExtN H H') (h : TyX K H x (.type n)) : TyX K H' x (.type n) := by
  cases h with
  | base b =>
    cases b with
    | non => exact .base .non
    | bl y => exact .base (.bl y)
    | int i => exact .base (.int i)
    | str z => exact .base (.str z)
    | flt z => exact .base (.flt z)
    | lst h => exact .base (.lst (ext_at e h))
    | frz h => exact .base (.frz (ext_at e h))
    | tup h => exact .base (.tup (ext_at e h))
    | dK h => exact .base (.dK (ext_at e h))
    | dT h => exact .base (.dT (ext_at e h))
  | byt b => exact .byt b
  | set h => exact .set (ext_at e h)
  | kList h c => exact .kList h c
  | kTuple h c => exact .kTuple h c
  | kDict h c => exact .kDict h c
  | fTuple h => exact .fTuple (ext_at e h)
  | fDict h => exact .fDict (ext_at e h)
theorem sqL_ext {K : PySem.W.Frag} {H H' : Hp} {a : Addr} {xs : List V} (e : ExtN H H') (h : SqL K H a xs) : SqL K H' a xs := by
  rcases h with (h | ⟨o, h⟩) | h
  · exact .inl (.inl (ext_at e h))
  · exact .inl (.inr ⟨o, ext_at e h⟩)
  · exact .inr h
theorem sqT_ext {K : PySem.W.Frag} {H H' : Hp} {a : Addr} {xs : List V} (e : ExtN H H') (h : SqT K H a xs) : SqT K H' a xs := by
  rcases h with (h | ⟨o, h⟩) | h
  · exact .inl (.inl (ext_at e h))
  · exact .inl (.inr ⟨o, ext_at e h⟩)
  · exact .inr h
/-- ["text", "text"] == ["text", "text"] -/
theorem eq_data {K : PySem.W.Frag} {H : Hp} {a b : Addr} {d e : PyData} {Q : VK} (h1 : Dp K H (.ref a) d) (h2 : Dp K H (.ref b) e) (s1 : SeqAt.shaped d = true) (s2 : SeqAt.shaped e = true) (q : Q (.bl (PyData.eqv d e)) H) : rEqD K (.ref a) (.ref b) H Q :=
  ⟨d, e, h1, h2, s1, s2, q⟩
end Kx
namespace Kx
open PySem PySem.Spec PyProof.Rows L2 SX LamX
theorem reachA_add : ∀ (r : List (List Nat)) (p : Nat), reachA p r = p + reachA 0 r
  | [], p => rfl
  | y :: r, p => by
    show reachA (p + y.length + 1) r = p + reachA (0 + y.length + 1) r
    rw [reachA_add r, reachA_add r (0 + y.length + 1)]
    omega
theorem sum_texts : ∀ xs : List (List Nat), ((xs.map S).map (·.length)).sum + xs.length = reachA 0 xs
  | [] => rfl
  | x :: r => by
    have e : reachA 0 (x :: r) = x.length + 1 + reachA 0 r := by
      show reachA (0 + x.length + 1) r = _
      rw [reachA_add]
      omega
    rw [e, ← sum_texts r]
    simp only [List.map_cons, List.sum_cons, List.length_cons, S_len]
    omega
end Kx
namespace Kx
open PySem PySem.Spec PyProof.Rows L2 SX LamX
theorem S_inj {a b : Str} (h : a.cps.toList = b.cps.toList) : a = b := by
  cases a with
  | mk a =>
    cases b with
    | mk b =>
      have : a = b := Array.toList_inj.mp h
      rw [this]
theorem fold_arr (a : Array Nat) : ∀ (n : Nat) (acc : Array Nat), ((List.replicate n a).foldl (· ++ ·) acc).toList = acc.toList ++ (List.replicate n a.toList).flatten
  | 0, acc => by simp
  | n + 1, acc => by
    rw [List.replicate_succ, List.foldl_cons, fold_arr a n, List.replicate_succ, List.flatten_cons, Array.toList_append, List.append_assoc]
theorem mul_S (l : List Nat) (n : Nat) : Txt.mul (S l) n = S ((List.replicate n l).flatten) := by
  refine S_inj ?_
  have e0 : ∀ m : List Nat, (S m).cps.toList = m := fun m => by simp [S]
  rw [e0]
  unfold Txt.mul
  by_cases h1 : (n : Int) < 1
  · rw [if_pos h1]
    have : n = 0 := by omega
    subst this
    rfl
  · rw [if_neg h1]
    by_cases h2 : ((n : Int) == 1 || (S l).length == 0) = true
    · rw [if_pos h2, e0]
      simp only [Bool.or_eq_true, beq_iff_eq] at h2
      rcases h2 with h2 | h2
      · have : n = 1 := by omega
        subst this
        simp
      · rw [S_len] at h2
        cases l with
        | nil => simp
        | cons _ _ => simp at h2
    · rw [if_neg h2]
      show ((List.replicate (n : Int).toNat (S l).cps).foldl (· ++ ·) #[]).toList = _
      rw [fold_arr, Int.toNat_natCast, e0]
      simp
section
variable {X : Cx}
/-- a text times an int -/
def rRepS : R2 := fun x y H Q => ∃ (l : List Nat) (n : Nat), x = .str (S l) ∧ y = .int n ∧ l.length ≤ 16 ∧ n ≤ 1048576 ∧ Q (.str (S ((List.replicate n l).flatten))) H
theorem op_repS : OpR X (binaryOp .Mult) rRepS := by
  intro pins s σ H x y v u Q I rx ry h
  obtain ⟨l, n, rfl, rfl, h1, h2, q⟩ := h
  obtain ⟨t, rfl⟩ := rx
  obtain ⟨t', rfl⟩ := ry
  refine PySem.W.KXi.mul (n := l.length) (S_len l) h1 (by omega) (by omega) (fun t2 tk _ _ => ⟨.str _, H, I.tok _, ⟨_, rfl⟩, ?_⟩)
  rw [mul_S]
  exact q
end
end Kx
namespace Kx
open PySem PySem.Spec PyProof.Rows L2 SX LamX
section
variable {X : Cx}
/-- a list of whatever values == [] -/
def rEqE : R2 := fun x y H Q => ∃ (a b : Addr) (xs : List V), x = .ref a ∧ y = .ref b ∧ H a = some (.lst xs) ∧ H b = some (.lst []) ∧ Q (.bl xs.isEmpty) H
theorem op_eqE (hu : X.A.units + 64 < cLine) : OpR X (compareOp .Eq) rEqE := by
  intro pins s σ H x y v u Q I rx ry h
  obtain ⟨a, b, xs, rfl, rfl, ha, hb, q⟩ := h
  cases rx
  cases ry
  obtain ⟨z, its, n, r, hl, e⟩ := I.lstM ha
  obtain ⟨z2, its2, n2, r2, hl2, e2⟩ := I.lstM hb
  have l2 : its2 = [] := by
    cases its2 with
    | nil => rfl
    | cons _ _ => simp at hl2
  subst l2
  cases xs with
  | nil =>
    have l1 : its = [] := by
      cases its with
      | nil => rfl
      | cons _ _ => simp at hl
    subst l1
    exact P.eq_list (e := fun _ => true) e e2 rfl (fun j h1 _ => absurd h1 (Nat.not_lt_zero j)) (by omega) ⟨.bl true, H, I, rfl, q⟩
  | cons x r' =>
    exact P.eq_list_lengths e e2 (by
      simp only [List.size_toArray, List.length_nil]
      rw [← hl]
      simp) (by omega) ⟨.bl false, H, I, rfl, q⟩
end
end Kx
namespace Kx
open PySem PySem.Spec PyProof.Rows L2 SX LamX
section
variable {K : PySem.W.Frag} {a : Addr} {xs : List V} {g : TG} {tt : TT} {te : TE} {vs : List Nat} {σ : L2.St} {H : Hp} {k : Nat} {Q : VK}
/-- [e for x in NAME if t], NAME a tuple -/
theorem lc_tupk (zs : List (Option V)) (hz : zs.length = xs.length) (hi : σ[k]? = some (some (.ref a))) (hq : SqT K H a xs) (len : xs.length ≤ 1000000)
    (turn : ∀ (i : Nat) (x : V) (z : Option V) (Hc : Hp) (Q' : VK) (R' : Hp → Prop), xs[i]? = some x → zs[i]? = some z → Same H Hc → (∀ v H4, z = some v → Same Hc H4 → Q' v H4) → (∀ H4, z = none → Same Hc H4 → R' H4) → g x (wipe σ vs) Hc fun σ2 H2 => wipe σ2 vs = wipe σ vs ∧ tt σ2 H2 fun b H3 => if b = true then te σ2 H3 Q' else R' H3)
    (fin : ∀ (D : Addr) (Hc : Hp), Same H Hc → Hc D = some (.lst (zs.filterMap id)) → Q (.ref D) Hc) :
    tLc (iTup K (tVar k)) g tt te vs σ H Q := ⟨_, hi, a, rfl, ⟨_, hq⟩, fun D nD => lc_keep walk_tup zs hz nD len (fun Hc e => Same.t e hq) (fun i x z Hc Hx Q' R' _ hzi e y q r => by
      obtain ⟨rfl, hx⟩ := y
      exact turn i x z _ Q' R' hx hzi e q r) (fin D)⟩
theorem lc_or {I J : TI} (h : tLc I g tt te vs σ H Q ∨ tLc J g tt te vs σ H Q) : tLc (fun σ H R => I σ H R ∨ J σ H R) g tt te vs σ H Q := h
/-- .. a list or a tuple -/
theorem lc_seqk (zs : List (Option V)) (hz : zs.length = xs.length) (hi : σ[k]? = some (some (.ref a))) (hq : SqQ K H a xs) (len : xs.length ≤ 1000000)
    (turn : ∀ (i : Nat) (x : V) (z : Option V) (Hc : Hp) (Q' : VK) (R' : Hp → Prop), xs[i]? = some x → zs[i]? = some z → Same H Hc → (∀ v H4, z = some v → Same Hc H4 → Q' v H4) → (∀ H4, z = none → Same Hc H4 → R' H4) → g x (wipe σ vs) Hc fun σ2 H2 => wipe σ2 vs = wipe σ vs ∧ tt σ2 H2 fun b H3 => if b = true then te σ2 H3 Q' else R' H3)
    (fin : ∀ (D : Addr) (Hc : Hp), Same H Hc → Hc D = some (.lst (zs.filterMap id)) → Q (.ref D) Hc) :
    tLc (fun σ H R => iList K (tVar k) σ H R ∨ iTup K (tVar k) σ H R) g tt te vs σ H Q :=
  lc_or (hq.imp (fun h => lc_lstk zs hz hi h len turn fin) (fun h => lc_tupk zs hz hi h len turn fin))
end
theorem filt_none {α : Type} (p : α → Bool) : ∀ (l : List α), ((l.map fun x => if p x = true then some x else none).filterMap id).isEmpty = l.all fun x => !p x
  | [] => rfl
  | x :: r => by
    cases h : p x with
    | true =>
      simp only [List.map_cons, h, if_true, List.filterMap_cons, id, List.all_cons, Bool.not_true, Bool.false_and]
      rfl
    | false =>
      have := filt_none p r
      simp only [List.map_cons, h, Bool.false_eq_true, if_false, List.filterMap_cons, id, List.all_cons, Bool.not_false, Bool.true_and]
      exact this
theorem core_same {a : Addr} {H H' : Hp} (e : Same (core a H) H') (h : ∀ b o, core a H b = some o → b ≠ a) : Same (core a H) (core a H') := fun b o k => core_at (e b o k) (h b o k) (of_core k).2.2
theorem core_core {a : Addr} {H0 H : Hp} (e : Same (core a H0) H) : Same (core a H0) (core a H) := fun b o k => core_at (e b o k) (of_core k).1 (of_core k).2.2
theorem go_par {i j : Nat} {t : TA} {D : Ends} {σ : L2.St} {H : Hp} (h : tPar i j t D σ H) : tPar i j t D σ H := h
end Kx
namespace Kx
open PySem PySem.Spec PyProof.Rows L2 SX LamX
section
variable {K : PySem.W.Frag} {σ : L2.St} {H : Hp} {ta tb : TE} {k m : Nat}
/-- repr(x) != repr(y), of one and the same data -/
theorem nerepr_t (d : PyData) (hd : Sh k m d) (hk : k ≤ 60) (hm : m ≤ 1048576) {Q : Bool → Hp → Prop}
    (ha : ∀ Q : VK, (∀ a H', Same H H' → Dp K H' (.ref a) d → Q (.ref a) H') → ta σ H Q)
    (hb : ∀ H0, Same H H0 → ∀ Q : VK, (∀ b H', Same H0 H' → Dp K H' (.ref b) d → Q (.ref b) H') → tb σ H0 Q)
    (h : ∀ H', Same H H' → Q false H') : tTest (tOp rNe (tCB (rRepr K) (tCons ta tNil)) (tCB (rRepr K) (tCons tb tNil))) σ H Q := by
  refine go_test (go_op (go_cb (go_cons (ha _ fun a H1 e1 h1 => go_nil (go_repr h1 hd hk hm (go_cb (go_cons (hb H1 e1 _ fun b H2 e2 h2 => go_nil (go_repr h2 hd hk hm ⟨rfl, false, ?_, h H2 (e1.trans e2)⟩)))))))))
  rw [ne_self]
theorem nerepr_if (d : PyData) (hd : Sh k m d) (hk : k ≤ 60) (hm : m ≤ 1048576) {D : Ends} {t u : TS}
    (ha : ∀ Q : VK, (∀ a H', Same H H' → Dp K H' (.ref a) d → Q (.ref a) H') → ta σ H Q)
    (hb : ∀ H0, Same H H0 → ∀ Q : VK, (∀ b H', Same H0 H' → Dp K H' (.ref b) d → Q (.ref b) H') → tb σ H0 Q)
    (h : ∀ H', Same H H' → u D σ H') : tIfS (tTest (tOp rNe (tCB (rRepr K) (tCons ta tNil)) (tCB (rRepr K) (tCons tb tNil)))) t u D σ H :=
  go_if (nerepr_t d hd hk hm ha hb fun H' e => iteF (A := _) (h H' e))
end
theorem sh_bb (b c : Bool) : Sh 1 2 (.list [.bool b, .bool c]) := (shA_bools (k := 0) [b, c]).lst
theorem dp_bc {K : PySem.W.Frag} {H : Hp} {p : Addr} {b c : Bool} (h : H p = some (.lst [.bl b, .bl c])) : Dp K H (.ref p) (.list [.bool b, .bool c]) := .lst (.inl (.inl h)) (.cons (.bl b) (.cons (.bl c) .nil))
end Kx
namespace Kx
open PySem PySem.Spec PyProof.Rows L2 SX LamX
theorem go_c {v : V} {σ : L2.St} {H : Hp} {Q : VK} (h : Q v H) : tC v σ H Q := h
theorem core_sub {a : Addr} {H : Hp} : Same (core a H) H := fun b o h => (of_core h).2.1
theorem core_mvO {a : Addr} {H0 H H' : Hp} (e : Same (core a H0) H) (m : Mv a H H') : Same (core a H0) H' := fun b o h => m b o (of_core h).1 (e b o h)
theorem sz5 : 5 ≤ sizeLine := by decide
theorem rep_flat (n x : Nat) : (List.replicate n [x]).flatten = List.replicate n x := by
  induction n with
  | zero => rfl
  | succ j ih => rw [List.replicate_succ, List.flatten_cons, ih, List.replicate_succ]; rfl
theorem rep_len (n : Nat) (l : List Nat) : ((List.replicate n l).flatten).length = n * l.length := by
  induction n with
  | zero => simp
  | succ j ih => rw [List.replicate_succ, List.flatten_cons, List.length_append, ih, Nat.succ_mul, Nat.add_comm]
theorem rep_mem {n : Nat} {l : List Nat} {i : Nat} (h : i ∈ (List.replicate n l).flatten) : i ∈ l := by
  obtain ⟨m, hm, hi⟩ := List.mem_flatten.mp h
  rw [List.eq_of_mem_replicate hm] at hi
  exact hi
end Kx
namespace Kx
open PySem PySem.Spec PyProof.Rows L2 SX LamX
section
variable {M : Model} {prog : Program} {w : World} {A : Around} {E : Value → Shared → Prop} {s : Shared} {K : PySem.W.Frag} {x C f : Addr} {ox : Obj} {od : Option Obj} {y : Value}
theorem objNe (X : K.In s.heap) (I : PySem.W.InstAt s.heap x ox C od) (hu : A.units < cLine) (hs : PySem.W.findIn K (.ref C) "__eq__" = some (some (.ref f))) (hf : PySem.W.isFn K (.ref f) = true) {Q : Fin → Shared → Prop}
    (hcall : wpAny (model prog w) A (call (.ref f) [.ref x, y]) (fun v s' => ∃ b, v = .bool b ∧ Q (.done (.ret (.bool (!b)))) s') E s) : wpAny (model prog w) A (Builtin.«object.__ne__» ⟨[.ref x, y], []⟩) Q E s := by
  unfold Builtin.«object.__ne__»
  repeat (first
    | with_reducible refine wpAny_cRoomFor hu ?_
    | (refine wpAny_bind (m := callSpecialIfBound? (.ref x) (Str.ofString "__eq__") [y])
        (PySem.W.ifBound_K X I hs hf (wpAny_mono hcall (fun r s' hr => by
          obtain ⟨b, rfl, hq⟩ := hr
          repeat (first | exact hq | exact wpAny_pure hq | exact wpAny_truthy_bool hq | (refine wpAny_bind (m := truthy (.bool _)) (wpAny_truthy_bool ?_)) | wp_step)) fun _ _ e => e)))
    | wp_step)
theorem call_ne {Q : Value → Shared → Prop} (X : K.In s.heap) (I : PySem.W.InstAt s.heap x ox C od) (hu : A.in1.units < cLine) (hm : PySem.W.mroIn K C (.type "object") = some true) (hs : PySem.W.findIn K (.ref C) "__eq__" = some (some (.ref f))) (hf : PySem.W.isFn K (.ref f) = true)
    (hcall : wpAny (model prog w) A.in1 (call (.ref f) [.ref x, y]) (fun v s' => ∃ b, v = .bool b ∧ Q (.bool (!b)) s') E s) : wpAny (model prog w) A (call (.builtin "object.__ne__") [.ref x, y]) Q E s :=
  wpAny_call (codeAny_call_builtin F.cmp_object.ne.plain F.cmpEntry_ne (PySem.W.check_slot F.cmpKind_ne F.cmpSplit_ne (I.type.andThen (PySem.W.looks_mroIn X hm)) (F.cmpArgs_ne _ _) (objNe X I hu hs hf hcall)))
theorem ifBound_objNe {args : List Value} {Q : Option Value → Shared → Prop} (X : K.In s.heap) (I : PySem.W.InstAt s.heap x ox C od) (hs : PySem.W.findIn K (.ref C) "__ne__" = some (some (.builtin "object.__ne__")))
    (h : wpAny M A (call (.builtin "object.__ne__") (.ref x :: args)) (fun v => Q (some v)) E s) : wpAny M A (callSpecialIfBound? (.ref x) "__ne__" args) Q E s := by
  simp only [callSpecialIfBound?, bindSpecialIfBound?]
  refine wpAny_holding (wpAny_bind (wpAny_bind (wpAny_bind (I.type.here ((PySem.W.looks_findIn X hs).here ?_)))))
  refine wpAny_bind (wpAny_askSetting (wpAny_ite ?_))
  have fin : wpAny M A (call (.builtin "object.__ne__") ([.ref x] ++ args) >>= fun v => pure (some v)) Q E s := wpAny_bind (wpAny_mono h (fun v s' h' => wpAny_pure h') fun _ _ h' => h')
  split
  · exact wpAny_bind (wpAny_of_eq (F.cmp_object.ne.bind _) (wpAny_pure (by exact fin)))
  · exact wpAny_tryCatch (wpAny_bind (wpAny_of_eq (F.cmp_object.ne.bind _) (wpAny_pure (by exact fin))))
/-- x != y, x an instance with an == of its own, no != -/
theorem rich_ne {Q : Value → Shared → Prop} {tb : Value} (hu : A.in1.units < cLine) (X : K.In s.heap) (I : PySem.W.InstAt s.heap x ox C od) (hb : PySem.W.Looks (model prog w) s.heap (typeOf y) tb) (hn : PySem.W.notFirst K C tb = true) (hm : PySem.W.mroIn K C (.type "object") = some true)
    (hs : PySem.W.findIn K (.ref C) "__eq__" = some (some (.ref f))) (hf : PySem.W.isFn K (.ref f) = true) (hne : PySem.W.findIn K (.ref C) "__ne__" = some (some (.builtin "object.__ne__")))
    (h : wpAny (model prog w) A.in1 (call (.ref f) [.ref x, y]) (fun v s' => ∃ b, v = .bool b ∧ Q (.bool (!b)) s') E s) : wpAny (model prog w) A (richCompare .NotEq (.ref x) y) Q E s := by
  have one : wpAny (model prog w) A (tryCompare (.ref x) "__ne__" y) (fun r s' => ∃ v, r = some v ∧ Q v s') E s := by
    unfold tryCompare
    refine wpAny_bind (ifBound_objNe X I hne (call_ne X I hu hm hs hf (wpAny_mono h (fun v s' hv => ?_) fun _ _ e => e)))
    obtain ⟨b, rfl, hq⟩ := hv
    exact ⟨b, rfl, wpAny_pure ⟨_, rfl, hq⟩⟩
  have hu0 : A.units < cLine := Nat.lt_of_succ_lt (show A.units + 1 < cLine from hu)
  unfold richCompare
  simp only [oneThing_ref]
  refine wpAny_holding (wpAny_bind (wpAny_cRoomFor hu0 ?_))
  rw [cmpInfo_NotEq]
  dsimp only
  refine wpAny_bind (I.type.here (wpAny_bind (hb.here ?_)))
  split
  · rename_i q
    have e : PySem.W.subIn K tb (.ref C) = some false := by
      rcases Bool.or_eq_true_iff.mp hn with e | e
      · rw [beq_iff_eq.mp e] at q; simp at q
      · exact beq_iff_eq.mp e
    refine wpAny_bind ((PySem.W.looks_subIn X e).here ?_)
    simp only [Bool.false_eq_true, if_false]
    refine wpAny_bind (wpAny_mono one (fun r s' z => ?_) fun _ _ e => e)
    obtain ⟨v, rfl, hq⟩ := z
    exact wpAny_pure hq
  · refine wpAny_bind (wpAny_pure ?_)
    simp only [Bool.false_eq_true, if_false]
    refine wpAny_bind (wpAny_mono one (fun r s' z => ?_) fun _ _ e => e)
    obtain ⟨v, rfl, hq⟩ := z
    exact wpAny_pure hq
theorem sub_list : PySem.W.subIn K (.type "list") (.ref C) = some false := by
  have e : fastBuiltinMro "list" = some [.type "list", .type "object"] := by decide +kernel
  show (fastBuiltinMro "list").map (·.contains (.ref C)) = some false
  rw [e]
  first
    | rfl
    | simp
theorem sub_tuple : PySem.W.subIn K (.type "tuple") (.ref C) = some false := by
  have e : fastBuiltinMro "tuple" = some [.type "tuple", .type "object"] := by decide +kernel
  show (fastBuiltinMro "tuple").map (·.contains (.ref C)) = some false
  rw [e]
  first
    | rfl
    | simp
end
end Kx
namespace Kx
open PySem PySem.Spec PyProof.Rows L2 SX LamX
section
variable {X : Cx} {pins : List (Addr × Obj)} {σ : L2.St} {H : Hp} {s : Shared}
/-- what stands at the other side of an own ==: an instance of the class, a list, a tuple -/
def OthV (K : PySem.W.Frag) (C : Addr) (H : Hp) (y : V) : Prop := ∃ b, y = .ref b ∧ ((∃ dx fs, H b = some (.ins C dx fs)) ∨ ∃ xs, SqQ K H b xs)
theorem oth_looks {C : Addr} {y : V} {u : Value} (I : Inv X pins σ H s) (ry : RelV y u) (h : OthV X.K C H y) : ∃ b tb, y = .ref b ∧ u = .ref b ∧ (∀ M, PySem.W.Looks M s.heap (typeOf u) tb) ∧ PySem.W.notFirst X.K C tb = true := by
  obtain ⟨b, rfl, h⟩ := h
  obtain rfl : u = Value.ref b := ry
  rcases h with ⟨dx, fs, h⟩ | ⟨xs, h | h⟩
  · obtain ⟨mA, J, _⟩ := ins_get I.hok h
    obtain ⟨od, J, _⟩ := J.look
    exact ⟨b, _, rfl, rfl, fun M => J.type, by simp [PySem.W.notFirst]⟩
  · obtain ⟨us, r1, p1, _⟩ := I.list h
    obtain ⟨o, n, e, c1, c2, d⟩ := p1
    have c : o.cls = .type "list" := by first | exact c1 | exact c2
    refine ⟨b, .type "list", rfl, rfl, fun M => c ▸ (PySem.W.Looks.ld e).andThen .now, ?_⟩
    unfold PySem.W.notFirst
    rw [sub_list]
    rfl
  · obtain ⟨us, r1, ⟨o, e, c, _⟩, _⟩ := I.tuple h
    refine ⟨b, .type "tuple", rfl, rfl, fun M => c ▸ (PySem.W.Looks.ld e).andThen .now, ?_⟩
    unfold PySem.W.notFirst
    rw [sub_tuple]
    rfl
end
end Kx
namespace Kx
open PySem PySem.Spec PyProof.Rows L2 SX LamX
section
variable {X : Cx}
/-- x == y by the class's own ==: what it promises, a truth -/
def rEqI (K : PySem.W.Frag) (C : Addr) (sp : Sp) : R2 := fun x y H Q => ∃ a dx fs, x = .ref a ∧ H a = some (.ins C dx fs) ∧ OthV K C H y ∧ sp [x, y] H (fun v H' => ∃ b, v = .bl b ∧ Q (.bl b) H') C8.E0
def rNeI (K : PySem.W.Frag) (C : Addr) (sp : Sp) : R2 := fun x y H Q => ∃ a dx fs, x = .ref a ∧ H a = some (.ins C dx fs) ∧ OthV K C H y ∧ sp [x, y] H (fun v H' => ∃ b, v = .bl b ∧ Q (.bl (!b)) H') C8.E0
theorem own_run {f : Addr} {fd : FuncData} {ps : List Str} {n : Nat} {sp : Sp} {A : Around} {pins : List (Addr × Obj)} {σ : L2.St} {H : Hp} {s : Shared} {a b : Addr} {Q : VK} {R : Value → Shared → Prop} {xe : Value → Shared → Prop}
    (F : FnOk X.prog X.w X.K X.mg X.base C8.CX0 n f fd ps sp) (hb : Binds X.K fd ps []) (hr : Room n A) (hf : A.frames = X.A.frames) (I : Inv X pins σ H s) (h : sp [.ref a, .ref b] H Q C8.E0)
    (back : ∀ u s', EP X pins σ Q u s' → R u s') : wpAny (model X.prog X.w) A (call (.ref f) [.ref a, .ref b]) R xe s := by
  have e0 : Env0 X.prog X.w X.K X.mg X.base A X.stack s H := by
    have e := I.env0
    exact ⟨by rw [hf]; exact e.frames, e.mod, e.bs, e.bsz, e.funs, e.frf, e.hok, e.bare⟩
  have hl := F.len _ _ _ _ h
  have r2 : Vals [V.ref a, V.ref b] [Value.ref a, Value.ref b] := .cons rfl (.cons rfl .nil)
  refine wpAny_call (codeAny_mono (F.run A X.stack s H ⟨[.ref a, .ref b], []⟩ [.ref a, .ref b] [.ref a, .ref b] _ C8.E0 hr e0 (by
    have := hb s [.ref a, .ref b] I.kIn (by simpa using hl)
    simpa using this) r2 h) fun r s' hq => ?_)
  match r, hq with
  | .error e, hq => exact (show False from hq).elim
  | .ok (.ret w), hq => exact back w s' (I.after hq)
  | .ok .next, hq => exact False.elim hq
  | .ok .brk, hq => exact False.elim hq
  | .ok .cont, hq => exact False.elim hq
theorem op_eqI {C f : Addr} {fd : FuncData} {ps : List Str} {n : Nat} {sp : Sp} (F : FnOk X.prog X.w X.K X.mg X.base C8.CX0 n f fd ps sp) (hb : Binds X.K fd ps []) (hr : Room n X.A)
    (hs : PySem.W.findIn X.K (.ref C) "__eq__" = some (some (.ref f))) (hf : PySem.W.isFn X.K (.ref f) = true) : OpR X (compareOp .Eq) (rEqI X.K C sp) := by
  intro pins s σ H x y v u Q I rx ry hq
  obtain ⟨a, dx, fs, rfl, ha, oth, h⟩ := hq
  cases rx
  obtain ⟨mA, J, _⟩ := ins_get I.hok ha
  obtain ⟨od, J, _⟩ := J.look
  obtain ⟨b, tb, rfl, rfl, lk, nf⟩ := oth_looks I ry oth
  obtain ⟨m, hF⟩ := I.fr
  show wpAny (model X.prog X.w) X.A (richCompare .Eq (.ref a) (.ref b)) _ _ s
  refine PySem.W.cmp_K (op := .Eq) (tb := tb) hr.units0 hF I.ok.mod.kin J (lk _) nf hs hf (own_run F hb hr rfl I h fun u s' ep => ?_)
  obtain ⟨z, H', I', rz, c, rfl, q⟩ := ep
  cases rz
  exact ⟨.bl c, H', I', rfl, q⟩
theorem op_neI {C f : Addr} {fd : FuncData} {ps : List Str} {n : Nat} {sp : Sp} (F : FnOk X.prog X.w X.K X.mg X.base C8.CX0 n f fd ps sp) (hb : Binds X.K fd ps []) (hr : Room (n + 1) X.A)
    (hs : PySem.W.findIn X.K (.ref C) "__eq__" = some (some (.ref f))) (hf : PySem.W.isFn X.K (.ref f) = true) (hm : PySem.W.mroIn X.K C (.type "object") = some true) (hne : PySem.W.findIn X.K (.ref C) "__ne__" = some (some (.builtin "object.__ne__"))) :
    OpR X (compareOp .NotEq) (rNeI X.K C sp) := by
  intro pins s σ H x y v u Q I rx ry hq
  obtain ⟨a, dx, fs, rfl, ha, oth, h⟩ := hq
  cases rx
  obtain ⟨mA, J, _⟩ := ins_get I.hok ha
  obtain ⟨od, J, _⟩ := J.look
  obtain ⟨b, tb, rfl, rfl, lk, nf⟩ := oth_looks I ry oth
  show wpAny (model X.prog X.w) X.A (richCompare .NotEq (.ref a) (.ref b)) _ _ s
  refine rich_ne hr.in1.units0 I.kIn J (lk _) nf hm hs hf hne (own_run F hb hr.in1 rfl I h fun u s' ep => ?_)
  obtain ⟨z, H', I', rz, c, rfl, q⟩ := ep
  cases rz
  exact ⟨c, rfl, .bl (!c), H', I', rfl, q⟩
end
end Kx
namespace Kx
open PySem PySem.Spec PyProof.Rows L2 SX LamX
/-! ### texts, each once -/
def onceStep (σ : List Str) (x : Str) : List Str := if σ.any (· == x) = true then σ else σ ++ [x]
def onceS (xs : List Str) : List Str := xs.foldl onceStep []
theorem once_any (σ : List Str) (v k : Str) : (onceStep σ v).any (· == k) = (σ.any (· == k) || decide (k = v)) := by
  unfold onceStep
  by_cases h : σ.any (· == v) = true
  · rw [if_pos h]
    by_cases e : k = v
    · rw [e, h]; simp
    · simp [e]
  · rw [if_neg h, List.any_append]
    by_cases e : k = v
    · rw [e]; simp
    · have hb : (v == k) = false := by simpa [beq_iff_eq] using (fun h' : v = k => e h'.symm)
      simp [hb, e]
theorem once_len (σ : List Str) (v : Str) : (onceStep σ v).length = if σ.any (· == v) = true then σ.length else σ.length + 1 := by
  unfold onceStep
  split <;> simp
theorem once_fold : ∀ (xs σ : List Str), (xs.foldl onceStep σ).length ≤ σ.length + xs.length
  | [], σ => Nat.le_refl _
  | x :: r, σ => by
    have h := once_fold r (onceStep σ x)
    have h2 := once_len σ x
    rw [List.foldl_cons, List.length_cons]
    split at h2 <;> omega
theorem onceS_le (xs : List Str) : (onceS xs).length ≤ xs.length := by
  have h := once_fold xs []
  simpa [onceS] using h
theorem onceS_take {xs : List Str} {i : Nat} {x : Str} (h : xs[i]? = some x) : onceS (xs.take (i + 1)) = onceStep (onceS (xs.take i)) x := by
  unfold onceS
  rw [List.take_add_one, h, List.foldl_append]
  rfl
section
variable {prog : Program} {w : World} {A : Around} {R : Result → Shared → Prop} {I : Addr} {fp wr : List Addr} {G : Array GenState → Array GenState → Prop} {n : Nat} {P : Nat → Value → Prop} {St : Nat → Shared → Prop}
def txSet (prog : Program) (w : World) (h : Heap) (S : Addr) (l : List Str) : Prop := h.SetOf (PySem.strKind prog w) S (fun k => l.any (· == k)) l.length
theorem txSet_at {h h' : Heap} {S : Addr} {l : List Str} (t : txSet prog w h S l) (k : ∀ o, h.get? S = some o → h'.get? S = some o) : txSet prog w h' S l := by
  obtain ⟨o, es, ep, tb, ho, rest⟩ := t
  exact ⟨o, es, ep, tb, k o ho, rest⟩
/-- set.update over texts, whatever walks over them -/
theorem upd_texts (W : WalksS prog w A.in1 I fp wr G n P St) (S : Addr) (hSf : S ∉ fp) (xs : List Str) (hn : n = xs.length) (hval : ∀ i v, P i v → ∃ x t, xs[i]? = some x ∧ v = .str x t) (hb : n + 1 < scanBound) :
    ∀ (k i : Nat) (s : Shared), n - i = k → i ≤ n → St i s → txSet prog w s.heap S (onceS (xs.take i)) →
      (∀ s', Moved (S :: wr) G s s' → txSet prog w s'.heap S (onceS xs) → R (.ok (.ret .none)) s') → codeAny (model prog w) A (.builtin "set.update.loop" ⟨[.ref S, .ref I], []⟩) R s := by
  have out : S ∉ wr := fun h => hSf (W.sub _ h)
  have more : ∀ b ∈ wr, b ∈ S :: wr := fun b hb => List.mem_cons_of_mem _ hb
  intro k
  induction k with
  | zero =>
    intro i s hk hi hst hS hR
    obtain rfl : i = n := by omega
    refine codeAny_builtin PyProof.Rows.F.entry_set_update_loop ?_
    rw [Around.under_plainId PyProof.Rows.F.plain_set_update_loop _]
    show wpAny _ A.in1 (pyNext (.ref I) >>= _) _ _ s
    refine wpAny_bind (W.done s _ _ hst fun s' hm => ?_)
    show wpAny _ A.in1 (ret Value.none) _ _ s'
    rw [hn, List.take_length] at hS
    exact wpAny_pure (hR s' (hm.mono more) (txSet_at hS fun o e => hm.heap S o out e))
  | succ k ih =>
    intro i s hk hi hst hS hR
    have hlt : i < n := by omega
    refine codeAny_builtin PyProof.Rows.F.entry_set_update_loop ?_
    rw [Around.under_plainId PyProof.Rows.F.plain_set_update_loop _]
    show wpAny _ A.in1 (pyNext (.ref I) >>= _) _ _ s
    refine wpAny_bind (W.item i s _ _ hlt hst fun v s' hP hst' hm => ?_)
    obtain ⟨x, t, hx, rfl⟩ := hval i v hP
    have hS' := txSet_at hS fun o e => hm.heap S o out e
    show wpAny _ A.in1 (holding [Value.str x t] (setAdd S (.str x t)) >>= _) _ _ s'
    refine wpAny_bind (wpAny_holding ?_)
    unfold setAdd
    refine wpAny_holding (wpAny_bind ((PySem.strKind prog w).pyHash (k := x) (strKind_is _ _ _ _) ?_))
    have room : (onceS (xs.take i)).length + 1 < scanBound := by
      have h1 := onceS_le (xs.take i)
      rw [List.length_take] at h1
      omega
    refine wpAny_setAddHashed_of (knd := PySem.strKind prog w) (s := { s' with toks := s'.toks + 1 }) (strKind_is _ _ _ _) rfl hS' room fun h' same hS2 => ?_
    have hS3 : txSet prog w h' S (onceS (xs.take (i + 1))) := PyProof.Rows.SetOf_congr hS2 (fun k' => by rw [onceS_take hx, once_any]) (by rw [onceS_take hx, once_len])
    refine wpAny_pure ⟨plainId_quiet PyProof.Rows.F.plain_set_update_loop _, ih (i + 1) _ (by omega) hlt (W.frame _ s' _ _ hst' (Nat.le_succ _) fun b hb o e => ?_) hS3 fun s2 hm2 hS4 => ?_⟩
    · rw [same.2 b (fun h : b = S => hSf (by rw [← h]; exact hb))]
      exact e
    · refine hR s2 (Moved.trans W.gtrans ((hm.mono more).then_heap (Nat.le_succ _) fun b o hb e => ?_) hm2) hS4
      rw [same.2 b (fun h : b = S => hb (by rw [h]; exact List.mem_cons_self))]
      exact e
end
section
variable {prog : Program} {w : World} {A : Around} {E : Value → Shared → Prop} {s : Shared}
abbrev freshSet (led : Bool) : Obj := { cls := .type "set", dict := none, data := .set #[] 0 (.fresh 0 0 led) }
/-- what a set of these texts leaves -/
def MadeTx (prog : Program) (w : World) (s : Shared) (xs : List Str) (h' : Heap) : Prop := txSet prog w h' s.heap.objs.size (onceS xs) ∧ ∀ b o, s.heap.get? b = some o → h'.get? b = some o
/-- set(x): what its __init__ has to do -/
theorem set_made {x : Value} {xs : List Str} {Q : Value → Shared → Prop}
    (hin : ∀ (led : Bool) (A' : Around) (E' : Value → Shared → Prop) (Q' : Fin → Shared → Prop), A'.handled = A.handled → (∀ h' tk, MadeTx prog w s xs h' → Q' (.done (.ret .none)) { s with heap := h', toks := tk }) →
      wpAny (model prog w) A' (Builtin.«set.__init__» ⟨[.ref s.heap.objs.size, x], []⟩) Q' E' { s with heap := s.heap.push (freshSet led) })
    (h : ∀ (h' : Heap) (tk : Nat), MadeTx prog w s xs h' → Q (.ref s.heap.objs.size) { s with heap := h', toks := tk }) : wpAny (model prog w) A (call (.type "set") [x]) Q E s := by
  obtain ⟨c, tl, hmro⟩ := PySem.F.called_set.mro
  have hmade := PySem.F.called_set.made
  have hsub := PySem.F.called_set.sub
  refine wpAny_call (codeAny_of_tree ?_)
  show wpAny _ _ (callAny (.type "set") _) _ _ _
  refine wpAny_pure ⟨Code.quiet_builtin _ (by decide +kernel), codeAny_builtin PySem.F.entry_type_call ?_⟩
  rw [Around.under_plain (weight_type_call_type "set" [x] []) rfl]
  have h1 := PySem.F.called_set.notType
  have h2 := PySem.F.called_set.canCreate
  have hct := PySem.F.typeCall_set_1 x
  repeat (any_goals (first | assumption | wp_step))
  refine codeAny_mono (code_set_new_1 x (E := E) (Q₁ := fun obj s₁ => ∃ led : Bool, obj = .ref s.heap.objs.size ∧ s₁ = { s with heap := s.heap.push (freshSet led) }) fun led => ⟨led, rfl, rfl⟩) fun r s₁ hr => ?_
  match r, hr with
  | .error e, hr => exact hr
  | .ok .next, hr => exact hr.elim
  | .ok .brk, hr => exact hr.elim
  | .ok .cont, hr => exact hr.elim
  | .ok (.ret obj), hr =>
    obtain ⟨led, rfl, rfl⟩ := hr
    have hS : (s.heap.push (freshSet led)).get? s.heap.objs.size = some (freshSet led) := Heap.get?_push_size _ rfl
    have hT : Shared.TypeIs { s with heap := s.heap.push (freshSet led) } (.ref s.heap.objs.size) "set" := ⟨_, hS, rfl⟩
    have hli := PySem.F.called_set.init.lookup
    have hbi := PySem.F.called_set.init.bind (.ref s.heap.objs.size)
    repeat (any_goals (first | assumption | wp_step))
    refine codeAny_mono (codeAny_call_builtin (R := wants (fun r s₂ => r = .none ∧ ∃ h' tk, s₂ = { s with heap := h', toks := tk } ∧ MadeTx prog w s xs h') E) PySem.F.called_set.init.plain PySem.F.entry_set_init (check_set_init_1 hT ?_)) fun r₂ s₂ hr₂ => ?_
    · exact hin led _ _ _ rfl fun h' tk m => ⟨rfl, h', tk, rfl, m⟩
    · match r₂, hr₂ with
      | .error e, hr₂ => exact hr₂
      | .ok .next, hr₂ => exact hr₂.elim
      | .ok .brk, hr₂ => exact hr₂.elim
      | .ok .cont, hr₂ => exact hr₂.elim
      | .ok (.ret r), hr₂ =>
        obtain ⟨rfl, h', tk, rfl, m⟩ := hr₂
        repeat (any_goals (first | assumption | wp_step))
        exact h _ _ m
end
end Kx
namespace Kx
open PySem PySem.Spec PyProof.Rows L2 SX LamX
section
variable {prog : Program} {w : World} {A : Around} {E : Value → Shared → Prop} {s : Shared}
theorem strs_get : ∀ {us : List Value} {xs : List Str}, StrsAre us xs → ∀ (i : Nat) (v : Value), us[i]? = some v → ∃ x t, xs[i]? = some x ∧ v = .str x t
  | _, _, .nil, i, v, h => by simp at h
  | _, _, .cons y t hr, 0, v, h => by
    simp at h
    exact ⟨y, t, rfl, h.symm⟩
  | _, _, .cons y t hr, i + 1, v, h => by
    simp only [List.getElem?_cons_succ] at h
    exact strs_get hr i v h
theorem strs_len : ∀ {us : List Value} {xs : List Str}, StrsAre us xs → us.length = xs.length
  | _, _, .nil => rfl
  | _, _, .cons _ _ r => by rw [List.length_cons, List.length_cons, strs_len r]
/-- set(x), a list or a tuple of texts -/
theorem call_set_texts {l : Addr} {items : Array Value} {xs : List Str} {Q : Value → Shared → Prop} (hh : A.handled = none) (hl : s.heap.IsList l items ∨ s.heap.IsTuple l items) (hi : StrsAre items.toList xs) (hb : xs.length + 1 < scanBound)
    (h : ∀ (h' : Heap) (tk : Nat), MadeTx prog w s xs h' → Q (.ref s.heap.objs.size) { s with heap := h', toks := tk }) : wpAny (model prog w) A (call (.type "set") [.ref l]) Q E s := by
  refine set_made (xs := xs) (fun led A' E' Q' hA q => ?_) h
  have isz : items.size = xs.length := by rw [← strs_len hi, Array.length_toList]
  have hS : (s.heap.push (freshSet led)).get? s.heap.objs.size = some (freshSet led) := Heap.get?_push_size _ rfl
  have hlS : l < s.heap.objs.size := by
    rcases hl with ⟨o, ho, _⟩ | ⟨o, ho, _⟩ <;> exact Heap.lt_size ho
  have hneI : l ≠ (s.heap.push (freshSet led)).objs.size := by
    rw [Heap.size_push]
    exact Nat.ne_of_lt (Nat.lt_succ_of_lt hlS)
  have hSf : s.heap.objs.size ∉ [(s.heap.push (freshSet led)).objs.size, l] := by
    rw [Heap.size_push]
    simp only [List.mem_cons, List.not_mem_nil, or_false, not_or]
    exact ⟨Nat.ne_of_lt (Nat.lt_succ_self _), Nat.ne_of_gt hlS⟩
  have hval : ∀ (i : Nat) (v : Value), items[i]? = some v → ∃ x t, xs[i]? = some x ∧ v = .str x t := fun i v hv => strs_get hi i v (by rw [Array.getElem?_toList]; exact hv)
  have hh3 : A'.in1.handled = none := by simp [hA, hh]
  have done : ∀ (it : Obj) (s' : Shared), Moved (s.heap.objs.size :: [(s.heap.push (freshSet led)).objs.size]) (fun a b => b = a) { s with heap := (s.heap.push (freshSet led)).push it } s' → txSet prog w s'.heap s.heap.objs.size (onceS xs) →
      wpAny (model prog w) A' (ret Value.none) Q' E' s' := fun it s' hm hS' => by
    obtain ⟨h', g', d', tk', os'⟩ := s'
    have eg : g' = s.gens := hm.gens
    have ed : d' = s.drawn := hm.drawn
    have eo : os' = s.os := hm.os
    subst eg
    subst ed
    subst eo
    refine wpAny_pure (q h' tk' ⟨hS', fun b o e => ?_⟩)
    have hb0 : b < s.heap.objs.size := Heap.lt_size e
    have hb1 : b ≠ s.heap.objs.size := Nat.ne_of_lt hb0
    have hb2 : b ≠ (s.heap.push (freshSet led)).objs.size := by
      rw [Heap.size_push]
      exact Nat.ne_of_lt (Nat.lt_succ_of_lt hb0)
    exact hm.heap b o (by simp only [List.mem_cons, List.not_mem_nil, or_false, not_or]; exact ⟨hb1, hb2⟩) (Heap.get?_push_of_some _ (Heap.get?_push_of_some _ e))
  unfold Builtin.«set.__init__» noKeywords Builtin.Frozenset.updateFrom
  rcases hl with hl | hl
  · obtain ⟨ol, hol, hcl, nl, hdl⟩ := hl
    obtain ⟨ocls, odict, odata, oslots⟩ := ol
    simp only at hcl hdl
    subst hcl
    subst hdl
    have hol' : (s.heap.push (freshSet led)).get? l = some { cls := .type "list", dict := odict, data := .seq items nl, slots := oslots } := Heap.get?_push_of_some _ hol
    have hsls := PySem.F.sub_list_set
    have hslf := PySem.F.sub_list_frozenset
    have hne : (Value.type "list" == Value.type "dict") = false := by decide
    have hl1 : (s.heap.push (freshSet led)).IsList l items := ⟨_, hol', rfl, nl, rfl⟩
    generalize hPI : pyIter = PI
    wp_walk
    subst hPI
    refine wpAny_pyIter_list hl1 ?_
    refine wpAny_bind (wpAny_runValue ?_)
    refine upd_texts ((Walks.list hh3 _ l hneI items).toS) s.heap.objs.size hSf xs isz hval (by omega) (items.size - 0) 0 _ (by omega) (Nat.zero_le _) ⟨⟨_, Heap.get?_push_size _ rfl, rfl, rfl⟩, (hl1.push _)⟩ ?_ (fun s' hm hS' => ?_)
    · have hget : ((s.heap.push (freshSet led)).push { cls := .type "list_iterator", data := .fields #[.ref l, .int 0 0] }).get? s.heap.objs.size = some (freshSet led) := Heap.get?_push_of_some _ hS
      exact PyProof.Rows.SetOf_congr ((PyProof.Rows.setObjOf_fresh (knd := PySem.strKind prog w) led).setOf hget (by unfold scanBound; omega)) (fun _ => rfl) rfl
    · exact wpAny_pure (done _ s' hm hS')
  · obtain ⟨ol, hol, hcl, nl, hdl⟩ := hl
    obtain ⟨ocls, odict, odata, oslots⟩ := ol
    simp only at hcl hdl
    subst hcl
    subst hdl
    have hol' : (s.heap.push (freshSet led)).get? l = some { cls := .type "tuple", dict := odict, data := .seq items nl, slots := oslots } := Heap.get?_push_of_some _ hol
    have hsls := PySem.F.sub_tuple_set
    have hslf := PySem.F.sub_tuple_frozenset
    have hne : (Value.type "tuple" == Value.type "dict") = false := by decide
    have hl1 : (s.heap.push (freshSet led)).IsTuple l items := ⟨_, hol', rfl, nl, rfl⟩
    generalize hPI : pyIter = PI
    wp_walk
    subst hPI
    refine wpAny_pyIter_tuple hl1 ?_
    refine wpAny_bind (wpAny_runValue ?_)
    refine upd_texts ((Walks.tuple hh3 _ l hneI items).toS) s.heap.objs.size hSf xs isz hval (by omega) (items.size - 0) 0 _ (by omega) (Nat.zero_le _) ⟨⟨_, Heap.get?_push_size _ rfl, rfl, rfl⟩, (hl1.push _)⟩ ?_ (fun s' hm hS' => ?_)
    · have hget : ((s.heap.push (freshSet led)).push { cls := .type "tuple_iterator", data := .fields #[.ref l, .int 0 0] }).get? s.heap.objs.size = some (freshSet led) := Heap.get?_push_of_some _ hS
      exact PyProof.Rows.SetOf_congr ((PyProof.Rows.setObjOf_fresh (knd := PySem.strKind prog w) led).setOf hget (by unfold scanBound; omega)) (fun _ => rfl) rfl
    · exact wpAny_pure (done _ s' hm hS')
end
end Kx
namespace Kx
open PySem PySem.Spec PyProof.Rows L2 SX LamX
section
variable {X : Cx}
/-- len(set(e)), e a list or a tuple of texts -/
def tLenSetN (K : PySem.W.Frag) (ta : TE) : TE := fun σ H Q => ta σ H fun x H1 => ∃ (l : Addr) (xs : List Str), x = .ref l ∧ SqQ K H1 l (xs.map V.str) ∧ xs.length ≤ 4000 ∧ Q (.int ((onceS xs).length : Nat)) H1
theorem pe_lenSetN {a : Expr} {ta : TE} {p p2 q pos : Pos} (hg : Gl X "len") (hm : X.mg "len" = none) (hg2 : Gl X "set") (hm2 : X.mg "set" = none) (ha : PE X a ta) (hc : X.calm = true := by rfl)
    (na : starEach [a] X.env = (false, eval a X.env) :: starEach [] X.env := by rfl) : PE X (.Call (.Name "len" p) [.Call (.Name "set" p2) [a] [] q] [] pos) (tLenSetN X.K ta) := by
  refine ⟨fun pins s σ H Q I h => ?_⟩
  refine Call_ (ld_blt I hg hm boot_len ?_)
  refine PyProof.Rows.callWith_builtin1 (PyProof.Rows.args_cons ?_ rfl) rfl rfl
  refine Call_ (ld_blt I hg2 hm2 boot_set ?_)
  refine PyProof.Rows.callWith_type1 (PyProof.Rows.args_cons (thn (ha.run pins s σ H _ I h) fun v s1 ⟨x, H1, I1, r1, q1⟩ => PyProof.Rows.args_nil ?_) na) na rfl
  obtain ⟨l, xs, rfl, hq, h1, q1⟩ := q1
  cases r1
  have fin : ∀ (h' : Heap) (tk : Nat), MadeTx X.prog X.w s1 xs h' →
      wpAny (model X.prog X.w) X.A (spliced (backTo pos (starEach [] X.env))) (fun vs s₂ => wpAny (model X.prog X.w) X.A (call (.builtin "len") (Value.ref s1.heap.objs.size :: vs)) (EP X pins σ Q) X.xe s₂) X.xe { s1 with heap := h', toks := tk } := fun h' tk m => by
    refine PyProof.Rows.args_nil ?_
    obtain ⟨⟨o, es, ep, t, ho, hex, hd, _, _, _, hf, hn⟩, hk⟩ := m
    have I2 : Inv X pins σ H1 { s1 with heap := h', toks := tk } := I1.kept fun b o e => hk b o e
    have h2 := onceS_le xs
    exact call_len_set ho hex hd hf (by rw [hn] <;> omega) ⟨.int ((onceS xs).length : Nat), H1, I2.tok _, ⟨_, by rw [hn]⟩, q1⟩
  rcases hq with hq | hq
  · obtain ⟨its, r, pl, hz⟩ := I1.list hq
    exact call_set_texts (I1.ok.hd hc) (.inl pl.isList) (by simpa using strsAre_of r) (by unfold scanBound; omega) fin
  · obtain ⟨its, r, pl, hz⟩ := I1.tuple hq
    exact call_set_texts (I1.ok.hd hc) (.inr pl) (by simpa using strsAre_of r) (by unfold scanBound; omega) fin
end
theorem onceS_nodup : ∀ (xs : List Str), (onceS xs).length = xs.length ↔ xs.Nodup := by
  have key : ∀ (xs σ : List Str), σ.Nodup → ((xs.foldl onceStep σ).length = σ.length + xs.length ↔ (xs.Nodup ∧ ∀ x ∈ xs, x ∉ σ)) := by
    intro xs
    induction xs with
    | nil => intro σ _; simp
    | cons x r ih =>
      intro σ hσ
      rw [List.foldl_cons, List.length_cons]
      by_cases hx : σ.any (· == x) = true
      · have e : onceStep σ x = σ := by unfold onceStep; rw [if_pos hx]
        have hm : x ∈ σ := by
          obtain ⟨y, hy, e⟩ := List.any_eq_true.mp hx
          rw [← beq_iff_eq.mp e]
          exact hy
        rw [e]
        have := once_fold r σ
        constructor
        · intro h; omega
        · intro ⟨_, h⟩
          exact absurd hm (h x List.mem_cons_self)
      · have e : onceStep σ x = σ ++ [x] := by unfold onceStep; rw [if_neg hx]
        have hm : x ∉ σ := fun hm => hx (List.any_eq_true.mpr ⟨x, hm, by simp⟩)
        rw [e]
        have hn : (σ ++ [x]).Nodup := List.nodup_append.mpr ⟨hσ, by simp, fun a ha b hb => by
          rw [List.mem_singleton.mp hb]
          exact fun e => hm (e ▸ ha)⟩
        have h := ih (σ ++ [x]) hn
        rw [List.length_append, List.length_singleton] at h
        have e2 : σ.length + 1 + r.length = σ.length + (r.length + 1) := by omega
        rw [e2] at h
        rw [h, List.nodup_cons]
        constructor
        · rintro ⟨h1, h2⟩
          refine ⟨⟨fun hr => h2 x hr (List.mem_append_right _ (List.mem_singleton.mpr rfl)), h1⟩, fun y hy => ?_⟩
          rcases List.mem_cons.mp hy with rfl | hy
          · exact hm
          · exact fun z => h2 y hy (List.mem_append_left _ z)
        · rintro ⟨⟨h1, h2⟩, h3⟩
          refine ⟨h2, fun y hy z => ?_⟩
          rcases List.mem_append.mp z with z | z
          · exact h3 y (List.mem_cons_of_mem _ hy) z
          · rw [List.mem_singleton.mp z] at hy
            exact h1 hy
  intro xs
  have h := key xs [] List.nodup_nil
  simpa [onceS] using h
end Kx
namespace Kx
open PySem PySem.Spec PyProof.Rows L2 SX LamX
section
variable {X : Cx}
/-- tuple(list): the tuple is known to the object -/
theorem call_tuple_frz : CallR X (.type "tuple") (fun xs H Q => ∃ p ys, xs = [.ref p] ∧ ((SqL X.K H p ys ∧ ∀ l o, H l = none → o.dict = none → Q (.ref l) (upd H l (.frz o (.tup ys)))) ∨ (SqT X.K H p ys ∧ Q (.ref p) H))) := by
  intro pins s σ H xs us Q I r h
  obtain ⟨p, ys, rfl, h⟩ := h
  obtain ⟨u, rfl, rx⟩ := vals1 r
  cases rx
  rcases h with ⟨hq, q⟩ | ⟨hq, q⟩
  · obtain ⟨its, r', pl, hz⟩ := I.list hq
    have hlen := r'.length
    refine call_tuple_list pl.isList (fun h' kp => ?_) (by simp only [List.size_toArray] <;> omega)
    have I1 : Inv X pins σ H { s with heap := h' } := I.kept (t' := s.toks) kp
    have I2 : Inv X pins σ (upd H h'.objs.size (.frz { cls := .type "tuple", data := .seq its.toArray } (.tup ys))) { s with heap := h'.push { cls := .type "tuple", data := .seq its.toArray } } :=
      I1.laid (t' := s.toks) (fun b o e => Heap.get?_push_of_some _ e) (Nat.le_refl _) (show ObjOk X.prog X.w _ _ _ (.frz _ (.tup ys)) from ⟨Heap.get?_push_size _ rfl, hz, its, r', IsTup.new _ _⟩)
    exact ⟨.ref h'.objs.size, _, I2, rfl, q _ _ (I1.hok.fresh (Nat.le_refl _)) rfl⟩
  · obtain ⟨its, r', pl, hz⟩ := I.tuple hq
    exact call_tuple_same pl ⟨.ref p, H, I, rfl, q⟩
/-- a tuple that has no dict -/
def TupN (K : PySem.W.Frag) (H : Hp) (p : Addr) : Prop := (∃ o xs, H p = some (.frz o (.tup xs)) ∧ o.dict = none) ∨ ∃ o, K.lookup p = some o ∧ o.cls = .type "tuple" ∧ o.dict = none
theorem TupN.same {K : PySem.W.Frag} {H H' : Hp} {p : Addr} (e : Same H H') (h : TupN K H p) : TupN K H' p := by
  rcases h with ⟨o, xs, h1, h2⟩ | h
  · exact .inl ⟨o, xs, e _ _ h1, h2⟩
  · exact .inr h
theorem TupN.ext {K : PySem.W.Frag} {H H' : Hp} {p : Addr} (e : ExtN H H') (h : TupN K H p) : TupN K H' p := by
  rcases h with ⟨o, xs, h1, h2⟩ | h
  · exact .inl ⟨o, xs, ext_at e h1, h2⟩
  · exact .inr h
theorem tupN_ty {pins : List (Addr × Obj)} {σ : L2.St} {H : Hp} {s : Shared} {y : V} {v : Value} (I : Inv X pins σ H s) (r : RelV y v) (ty : ∃ p, y = .ref p ∧ TupN X.K H p) :
    s.TypeIs v "tuple" ∧ ∀ a, v = .ref a → ∃ ob, s.heap.get? a = some ob ∧ ob.dict = none := by
  obtain ⟨p, rfl, h⟩ := ty
  cases r
  have key : ∃ ob, s.heap.get? p = some ob ∧ ob.cls = .type "tuple" ∧ ob.dict = none := by
    rcases h with ⟨o, xs, e, d⟩ | ⟨o, e, c, d⟩
    · have h1 : ObjOk X.prog X.w H s.heap p (.frz o (.tup xs)) := I.hok p _ e
      obtain ⟨g, _, its, _, ⟨o2, g2, c2, _⟩⟩ := h1
      rw [g] at g2
      cases g2
      exact ⟨o, g, c2, d⟩
    · exact ⟨o, I.kIn _ _ e, c, d⟩
  obtain ⟨ob, g, c, d⟩ := key
  refine ⟨⟨ob, g, c⟩, fun b hb => ?_⟩
  cases hb
  exact ⟨ob, g, d⟩
def tTM (K : PySem.W.Frag) (r : V → List V → Hp → VK → Prop) (to : TE) (t : TA) : TE := fun σ H Q => to σ H fun x H1 => (∃ p, x = .ref p ∧ TupN K H1 p) ∧ t σ H1 fun xs H2 => r x xs H2 Q
variable {o e : Expr} {es : List Expr} {to : TE} {t : TA} {name : Str} {apos cpos : Pos} {id : String} {r : V → List V → Hp → VK → Prop}
/-- o.m(e, ..), o a tuple -/
theorem pe_tm (slot : Slot "tuple" name id) (hty : typeOf (.builtin id) = pure (.type "method_descriptor")) (hm : MtR X id r) (ho : PE X o to) (ha : PA X (e :: es) t)
    (hbase : attributeBase o name X.env (eval o X.env) = eval o X.env := by rfl)
    (hfew : ((backTo cpos (starEach (e :: es) X.env)).all (fun x => !x.1) && (backToKw cpos (keywordEach [] X.env)).all (fun x => x.1.isSome)
      && decide ((e :: es).length + ([] : List Keyword).length + (if ([] : List Keyword).isEmpty then 0 else 1) < 30)) = true := by rfl)
    (hline : (apos.endLine == cpos.line) = true := by rfl) (hs : starEach (e :: es) X.env = (false, eval e X.env) :: starEach es X.env := by rfl) (hplain : (backTo cpos (starEach es X.env)).any (·.1) = false := by rfl) :
    PE X (.Call (.Attribute o name apos) (e :: es) [] cpos) (tTM X.K r to t) := by
  refine ⟨fun pins s σ H Q I h => ?_⟩
  refine wpAny_Call_method_late hbase hfew hline rfl (thn (ho.run pins s σ H _ I h) fun v s1 ⟨x, H1, I1, r1, ty, q1⟩ => ?_)
  obtain ⟨h1, h2⟩ := tupN_ty I1 r1 ty
  refine ⟨"tuple", id, PySem.F.plainAttrs_tuple, slot, hty, h1, h2, ?_⟩
  have hA := ha.run cpos pins s1 σ H1 _ I1 q1
  rw [hs] at hA ⊢
  refine Calls.callWith_builtin (by show (false || (backTo cpos (starEach es X.env)).any (·.1)) = false; rw [hplain] <;> rfl) (Calls.evalArgs_plain ?_)
  exact thn hA fun us s2 ⟨vs, H2, I2, r2, q2⟩ => hm pins s2 σ H2 x vs v us Q I2 r1 r2 q2
end
section
variable {X : Cx} {CX : CXT} {k : Nat} {f C : Addr} {fd : FuncData} {ps ks : List Str} {sp : Sp} {E : XK} {o : Expr} {m : Str} {apos pos : Pos} {kws : List Keyword} {ta : TE} {tk : TA} {g : List Value → List Value → List Value} {gV : List V → List V → List V}
def tMethK (C : Addr) (m : Str) (sp : Sp) (gV : List V → List V → List V) (E : XK) (ta : TE) (tk : TA) : TE := fun σ H Q => ta σ H fun x H1 => ∃ a dx fs, x = .ref a ∧ H1 a = some (.ins C dx fs) ∧ fs.lookup m = none ∧ tk σ H1 fun zs H2 => sp (gV [x] zs) H2 Q E
/-- o.m(k = v) -/
theorem pe_methK0 {pl : Sem Bool} (he : PE X o ta) (c : Cls X.K C) (hm : Meth X.K C m f) (F : FnOk X.prog X.w X.K X.mg X.base CX k f fd ps sp) (hr : Room k X.A) (hb : KBinds X.K fd ps ks g gV) (hx : Passes CX X E) (hkw : PK X kws tk)
    (hall : (backToKw pos (keywordEach kws X.env)).all (·.1.isSome) = true := by rfl) (hks : (backToKw pos (keywordEach kws X.env)).filterMap (·.1) = ks := by rfl)
    (hpl : ((backTo pos (starEach [] X.env)).any (·.1) || (backToKw pos (keywordEach kws X.env)).any (·.1.isNone)) = false := by rfl)
    (ht : eval (.Call (.Attribute o m apos) [] kws pos) X.env = (do
      let ov ← eval o X.env
      standAt apos.atName
      let (f, first) ← holding [ov] (getMethod ov m pl)
      callWith pos f first (backTo pos (starEach [] X.env)) (backToKw pos (keywordEach kws X.env))) := by rfl) :
    PE X (.Call (.Attribute o m apos) [] kws pos) (tMethK C m sp gV E ta tk) := by
  refine ⟨fun pins s σ H Q I h => ?_⟩
  refine PySem.W.methodCall_KW (pl := pl) (thn (he.run pins s σ H _ I h) fun u s1 ⟨x, H1, I1, rx, a, dx, fs, ex, ea, l, q⟩ => ?_) ht
  subst ex
  obtain rfl : u = Value.ref a := rx
  refine getmeth_ok I1 ea c hm l ?_
  show wpAny _ _ (callWith pos (.ref f) [.ref a] (backTo pos (starEach [] X.env)) (backToKw pos (keywordEach kws X.env))) _ _ _
  refine PySem.W.callWith_KW0 (first := [.ref a]) (h₀ := X.base) I.ok.mod.kin hm.kp hall (thn (hkw.run pos pins s1 σ H1 _ I1 q) fun ws s2 ⟨zs, H2, I2, rz, q2⟩ => ⟨I2.kIn, ?_⟩) hpl
  rw [hks]
  exact run_fnk (us := [.ref a]) (vs := [.ref a]) F hr hb hx I2 (.cons rfl .nil) rz q2
end
/-- self, and one by name -/
def selfG {α : Type} (us ws : List α) : List α := match us, ws with | [s], [u] => [s, u] | _, _ => []
theorem kb_self {K : PySem.W.Frag} {x qual : Str} {st : Stmt} {f : Addr} {fd : FuncData} {a b : Str} (F : Fun K x qual st f fd)
    (h : ∀ (kV doc pm : Value) (an : Option Addr) (cdv ct : Value) (s u : Value), bindArgs (PySem.W.fnOf x qual (defArgs st) (defBody st) (defScope st) .none kV doc pm an cdv ct) ⟨[s], [(b, u)]⟩ = pure [(a, s), (b, u)]) :
    KBinds K fd [a, b] [b] selfG selfG := by
  obtain ⟨oc, od, kV, doc, pm, an, cdv, ct, osl, rfl, lk, hcd⟩ := F.ex
  refine ⟨fun s us ws X l => ?_, fun {vs us zs ws} r1 r2 => ?_⟩
  · match us, ws, l with
    | [s], [u], _ => exact .of_eq (h kV doc pm an cdv ct s u)
    | [], _, l => cases l
    | [_], [], l => cases l
    | [_], _ :: _ :: _, l => cases l
    | _ :: _ :: _, _, l => cases l
  · cases r1 with
    | nil => exact .nil
    | cons h1 r1 =>
      cases r1 with
      | cons _ _ => exact .nil
      | nil =>
        cases r2 with
        | nil => exact .nil
        | cons h2 r2 =>
          cases r2 with
          | nil => exact .cons h1 (.cons h2 .nil)
          | cons _ _ => exact .nil
/-- .. the same for the making of an instance -/
theorem kbn_self {K : PySem.W.Frag} {x qual : Str} {st : Stmt} {f : Addr} {fd : FuncData} {a b : Str} (F : Fun K x qual st f fd)
    (h : ∀ (kV doc pm : Value) (an : Option Addr) (cdv ct : Value) (s u : Value), bindArgs (PySem.W.fnOf x qual (defArgs st) (defBody st) (defScope st) .none kV doc pm an cdv ct) ⟨[s], [(b, u)]⟩ = pure [(a, s), (b, u)]) :
    KBn K fd [a, b] 1 [b] selfG selfG := by
  have kb := kb_self F h
  refine ⟨fun s us ws X l1 l2 => kb.to s us ws X ?_, kb.rel⟩
  match us, ws, l1, l2 with
  | [_], [_], _, _ => rfl
end Kx
namespace Kx
open PySem PySem.Spec PyProof.Rows L2 SX LamX
theorem sqT_put {K : PySem.W.Frag} {H : Hp} {p a C dx : Addr} {fs : List (Str × V)} {o : HO} {xs : List V} (hp : H p = some (.ins C dx fs)) (h : SqT K H a xs) : SqT K (upd H p o) a xs := by
  rcases h with (h | ⟨ob, h⟩) | h
  · exact .inl (.inl (by rw [upd_ne (ne_of_two h hp (fun z => by cases z))]; exact h))
  · exact .inl (.inr ⟨ob, by rw [upd_ne (ne_of_two h hp (fun z => by cases z))]; exact h⟩)
  · exact .inr h
theorem tupN_put {K : PySem.W.Frag} {H : Hp} {p a C dx : Addr} {fs : List (Str × V)} {o : HO} (hp : H p = some (.ins C dx fs)) (h : TupN K H a) : TupN K (upd H p o) a := by
  rcases h with ⟨ob, xs, h, d⟩ | h
  · exact .inl ⟨ob, xs, by rw [upd_ne (ne_of_two h hp (fun z => by cases z))]; exact h, d⟩
  · exact .inr h
theorem kitOne_no {K : PySem.W.Frag} {C : Addr} {n : String} (h1 : PySem.W.isClsIn K C = true) (h2 : PySem.W.typeIn K (.ref C) = some (.type "type")) (h3 : PySem.W.subIn K (.type n) (.ref C) = some false) : PySem.W.kitOne K (.type n) (.ref C) = some false := by
  unfold PySem.W.kitOne
  rw [if_neg (by simp)]
  unfold PySem.W.kitCls
  have h1' : (PySem.W.clsIn K C).isSome = true := h1
  dsimp only
  rw [h1', h2]
  exact h3
theorem kitOne_self {K : PySem.W.Frag} {C : Addr} : PySem.W.kitOne K (.ref C) (.ref C) = some true := by
  unfold PySem.W.kitOne
  simp
theorem kitOne_other {K : PySem.W.Frag} {C D : Addr} (h1 : PySem.W.isClsIn K C = true) (h2 : PySem.W.typeIn K (.ref C) = some (.type "type")) (h3 : PySem.W.subIn K (.ref D) (.ref C) = some false) (h4 : PySem.W.subIn K (.ref D) (.ref D) = some true) : PySem.W.kitOne K (.ref D) (.ref C) = some false := by
  have ne : D ≠ C := fun e => by
    rw [e] at h3 h4
    rw [h3] at h4
    cases h4
  unfold PySem.W.kitOne
  rw [if_neg (by simpa using ne)]
  unfold PySem.W.kitCls
  have h1' : (PySem.W.clsIn K C).isSome = true := h1
  dsimp only
  rw [h1', h2]
  exact h3
theorem sub_non {K : PySem.W.Frag} {C : Addr} : PySem.W.subIn K (.type "NoneType") (.ref C) = some false := HN.sub_none
theorem eqv_text (a b : List Nat) : PyData.eqv (.str (S a)) (.str (S b)) = decide (a = b) := by
  show (S a == S b) = _
  by_cases h : a = b
  · rw [h, decide_eq_true rfl]
    simp
  · rw [decide_eq_false h, beq_eq_false_iff_ne]
    intro e
    have := congrArg (fun z : Str => z.cps.toList) e
    exact h (by simpa [S] using this)
theorem eqv_texts (xs ys : List (List Nat)) : PyData.eqv (.tuple (xs.map fun l => PyData.str (S l))) (.tuple (ys.map fun l => PyData.str (S l))) = decide (xs = ys) := eqvAll_map eqv_text xs ys
theorem pl_text {l : List Nat} (h : cdC l) : Pl 0 (.str (S l)) := ⟨by
  show (S l).cps.all (· < 0x110000) = true
  have e : (S l).cps.all (· < 0x110000) = l.all (fun c => decide (c < 1114112)) := by simp [S]
  rw [e]
  exact h, Nat.le_refl _⟩
theorem low_cd {l : List Nat} (h : l.all low = true) : cdC l := by
  unfold cdC
  rw [List.all_eq_true] at h ⊢
  intro c hc
  have := low_lt (h c hc)
  exact decide_eq_true (by omega)
theorem inV_texts {v : V} (ws : List (List Nat)) : inV v (ws.map fun l => V.str (S l)) = true ↔ ∃ w ∈ ws, v = .str (S w) := by
  unfold inV
  rw [List.any_map, List.any_eq_true]
  constructor
  · rintro ⟨w, hw, h⟩
    refine ⟨w, hw, ?_⟩
    cases v with
    | str x =>
      have h' : (S w == x) = true := h
      rw [beq_iff_eq.mp h']
    | _ => cases h
  · rintro ⟨w, hw, rfl⟩
    exact ⟨w, hw, by show (S w == S w) = true; simp⟩
end Kx
namespace Kx
open PySem PySem.Spec PyProof.Rows L2 SX LamX
section
variable {X : Cx}
theorem rev_pick (z : Str) : ((Builtin.Str.strSliceIndices none none (-1) z.length).filterMap (z.cps[·]?)).toArray = z.cps.toList.reverse.toArray := by
  have e : Builtin.Str.strSliceIndices none none (-1) z.length = sliceRange ((z.cps.size : Int) - 1) (-1) (-1) := rfl
  rw [e, PySem.W.krv_sliceRange, PySem.W.krv_range, List.filterMap_reverse, PySem.W.krv_all]
/-- x[::-1], a text -/
def tRevS (te : TE) : TE := fun σ H Q => te σ H fun x H1 => ∃ l : List Nat, x = .str (S l) ∧ l.length ≤ 1000000 ∧ Q (.str (S l.reverse)) H1
theorem pe_revS {e : Expr} {te : TE} {k : Nat} {p1 p2 p3 pos : Pos} (he : PE X e te) : PE X (.Subscript e (.Slice none none (some (.UnaryOp .USub (.Constant (.int 1) k p1) p2)) p3) pos) (tRevS te) := by
  refine ⟨fun pins s σ H Q I h => ?_⟩
  refine Subscript_ (thn (he.run pins s σ H _ I h) fun v s1 ⟨x, H1, I1, r1, q1⟩ => ?_)
  obtain ⟨z, ex, hz, q⟩ := q1
  subst ex
  obtain ⟨t, rfl⟩ := r1
  have hst : PO X (some (.UnaryOp .USub (.Constant (.int 1) k p1) p2)) (tPart (tUn (rU fun i => .int (-i)) (tC (.int 1)))) := po_some (pe_un un_neg pe_int)
  refine wpAny_Slice (thn (po_none.run pins s1 σ H1 (fun o H2 => o = none ∧ H2 = H1) I1 ⟨rfl, rfl⟩) fun vl s2 ⟨l, H2, I2, pl, el, e2⟩ => ?_)
  subst el e2
  refine thn (po_none.run pins s2 σ H2 (fun o H3 => o = none ∧ H3 = H2) I2 ⟨rfl, rfl⟩) fun vu s3 ⟨u, H3, I3, pu, eu, e3⟩ => ?_
  subst eu e3
  refine thn (hst.run pins s3 σ H3 (fun o H4 => o = some (-1) ∧ H4 = H3) I3 ⟨1, rfl, -1, rfl, rfl, rfl⟩) fun vs s4 ⟨o, H4, I4, ps, eo, e4⟩ => ?_
  subst eo e4
  have I5 : Inv X pins σ H4 { s4 with heap := s4.heap.push { cls := .type "slice", data := .fields #[vl, vu, vs] } } := I4.kept (t' := s4.toks) fun b ob q => Heap.get?_push_of_some _ q
  obtain ⟨l', rfl, e1⟩ := IsPart.raw pl
  obtain ⟨u', rfl, e2⟩ := IsPart.raw pu
  obtain ⟨w', rfl, e3⟩ := IsPart.raw ps
  show wpAny (model X.prog X.w) X.A (subscriptTail e (.Slice none none (some (.UnaryOp .USub (.Constant (.int 1) k p1) p2)) p3) (.str (S z) t) (.ref s4.heap.objs.size)) (EP X pins σ Q) X.xe _
  refine tail_any (ops := [.str (S z) t, .ref s4.heap.objs.size]) (typeIs_str _ _ _) (PySem.F.slot_str_getitem.lookup) ?_ (by with_unfolding_all rfl)
  refine wpAny_getItem_str_slice (l := l') (u := u') (st := w') ⟨_, Heap.get?_push_size _ rfl, rfl, rfl⟩ (by rw [e3]; decide) ?_
  have hm : l'.map (·.1) = none := e1
  have hu : u'.map (·.1) = none := e2
  have made : sliceMade (S z) t l' u' w' = Made.str (S z.reverse) := by
    unfold sliceMade slicePicked
    rw [hm, hu, e3]
    show (if ((-1 : Int) == 1 && _) = true then _ else _) = _
    rw [if_neg (by simp)]
    have e0 : (S z).cps.toList = z := by simp [S]
    have e5 := rev_pick (S z)
    rw [e0] at e5
    exact congrArg (fun a => Made.str ⟨a⟩) e5
  rw [made]
  exact ⟨by rw [S_len, List.length_reverse]; exact Nat.le_trans hz (by decide), .str _, _, I5.tok _, ⟨_, rfl⟩, q⟩
end
end Kx
namespace Kx
open PySem PySem.Spec PyProof.Rows L2 SX LamX
theorem go_set {te : TE} {u : TS} {D : Ends} {σ : L2.St} {H : Hp} {i : Nat} (h : te σ H fun x H1 => u D (σ.set i (some x)) H1) : tSeq (tAsg te (gName i)) u D σ H := h
theorem go_next {D : Ends} {σ : L2.St} {H : Hp} (h : D.nx σ H) : tNext D σ H := h
theorem go_and2 {ta tb : TT} {σ : L2.St} {H : Hp} {Q : Bool → Hp → Prop} (h : ta σ H fun b H1 => if b = true then tb σ H1 Q else Q false H1) : tAnd ta tb σ H Q := h
end Kx
namespace Kx
open PySem PySem.Spec PyProof.Rows L2 SX LamX
/-- a test that fails -/
theorem if_same {c : TT} {t u : TS} {D : Ends} {σ : L2.St} {H : Hp} (hc : ∀ Q : Bool → Hp → Prop, (∀ H', Same H H' → Q false H') → c σ H Q) (h : ∀ H', Same H H' → u D σ H') : tIfS c t u D σ H := go_if (hc _ fun H' e => iteF (A := _) (h H' e))
theorem nodup_rev {α : Type} {l : List α} (h : l.Nodup) : l.reverse.Nodup := by
  unfold List.Nodup at h ⊢
  rw [List.pairwise_reverse]
  exact h.imp fun h e => h e.symm
end Kx
namespace Kx
open PySem PySem.Spec PyProof.Rows L2 SX LamX
open PySem.W in
/-- the goal that the head leaves, of a law in which two defs make lambdas -/
theorem walkL2 {l : OpenLaw} {n k : Nat} {q : Program} {loose : List Str} {XP : (Str → Option Value) → Heap → Prop} {YP : World → Heap → Prop} {d : DefRec} {K : Params → Frag} {x y z : Str} (sp : Frag → Addr → Addr → Sp)
    (hn : l.most = some n) (hz : n ≤ sizeLine) (h0 : d.params.defaults = []) (hr : Room k callerA) (hY : ∀ (w : World) (h : Heap), YP w h → (K w.params).In h)
    (hc : ∀ p, ((∃ r, (recsOf q).find? (fun r => r.name == y) = some r) ∧ ∃ r, (recsOf q).find? (fun r => r.name == z) = some r) ∧ ∃ c Pt c2 Pu, (tabIn (K p) y = some (c, Pt) ∧ (K p).lookup Pt = none) ∧ (tabIn (K p) z = some (c2, Pu) ∧ (K p).lookup Pu = none) ∧ Pt ≠ Pu)
    (F : ∀ (w : World) (mg : Str → Option Value) (fa : Addr) (h : Heap), (K w.params).In h → h.Ns mainGlobals mg → mg d.name = some (.ref fa) → ∃ fd : FuncData,
      (∀ (t : Shared) (u : Value), BindsTo t fd ⟨[u], []⟩ [(x, u)]) ∧ ∀ (c Pt c2 Pu : Addr), tabIn (K w.params) y = some (c, Pt) → tabIn (K w.params) z = some (c2, Pu) → Pt ≠ Pu → ∀ base : Heap, (K w.params).In base → base.Ns mainGlobals mg → TabB base mg c Pt → TabB base mg c2 Pu → FnG l.prog w (K w.params) mg base CX0 k fa fd [x] (sp (K w.params) Pt Pu))
    (pr : ∀ (K : Frag) (Pt Pu : Addr) (H : Hp) (a : Addr) (ns : List Int), ns.length ≤ n → H Pt = some (.tbl #[]) → H Pu = some (.tbl #[]) → SqL K H a (ns.map V.int) → sp K Pt Pu [.ref a] H (fun v _ => v = .bl true) fun _ _ _ => False) :
    WalkO q loose XP YP l.row.toRowW d [] (fun f us => PySem.call f us) := by
  refine walkT (x := x) (K := K) (cs := fun p => [(y, ((tabIn (K p) y).getD (0, 0))), (z, ((tabIn (K p) z).getD (0, 0)))]) (sp := fun K => sp K ((tabIn K y).getD (0, 0)).2 ((tabIn K z).getD (0, 0)).2) hn hz h0 hr hY (fun p e he => ?_) (fun w mg fa h KX G hmg => ?_) (fun p H a ns hl ht hS _ => pr _ _ _ H a ns hl (ht _ List.mem_cons_self) (ht _ (List.mem_cons_of_mem _ List.mem_cons_self)) hS)
  · obtain ⟨⟨r1, r2⟩, c, Pt, c2, Pu, ⟨h2, h3⟩, ⟨h4, h5⟩, _⟩ := hc p
    rcases List.mem_cons.mp he with rfl | he
    · refine ⟨r1, ?_, ?_⟩
      · rw [h2]
        rfl
      · rw [h2]
        exact h3
    · cases List.mem_singleton.mp he
      refine ⟨r2, ?_, ?_⟩
      · rw [h4]
        rfl
      · rw [h4]
        exact h5
  · obtain ⟨fd, hb, hF⟩ := F w mg fa h KX G hmg
    obtain ⟨_, c, Pt, c2, Pu, ⟨h2, _⟩, ⟨h4, _⟩, hne⟩ := hc w.params
    refine ⟨fd, hb, fun base hk hg ht => ?_⟩
    have hT := ht _ List.mem_cons_self
    have hU := ht _ (List.mem_cons_of_mem _ List.mem_cons_self)
    simp only [h2, h4, Option.getD_some] at hT hU ⊢
    exact hF c Pt c2 Pu h2 h4 hne base hk hg hT hU
theorem tab_at {K : PySem.W.Frag} {x : Str} {f c Pt : Addr} {oc oc2 : Value} {od od2 : Option Addr} {osl osl2 : Array (Option Value)} {fd : FuncData} {vs : Array Value} (a : PySem.W.nsIn K mainGlobals x = some (some (.ref f)))
    (l : K.lookup f = some ⟨oc, od, .func fd, osl⟩) (e : fd.code = .ref c) (l2 : K.lookup c = some ⟨oc2, od2, .fields vs, osl2⟩) (v : (vs[11]? : Option Value) = some (.ref Pt)) (n : K.lookup Pt = none) :
    PySem.W.tabIn K x = some (c, Pt) ∧ K.lookup Pt = none := by
  refine ⟨?_, n⟩
  unfold PySem.W.tabIn
  rw [a]
  simp only [l, e, l2, v]
end Kx
namespace Kx
open PySem PySem.Spec PyProof.Rows L2 SX LamX
section
variable {X : Cx} {K : PySem.W.Frag}
theorem inK_op_in_seq (e : X.K = K) : OpR X (compareOp .In) (rIn K false) := e ▸ op_in_seq
theorem inK_op_notIn_seq (e : X.K = K) : OpR X (compareOp .NotIn) (rIn K true) := e ▸ op_notIn_seq
theorem inK_call_tuple_frz (e : X.K = K) : CallR X (.type "tuple") (fun xs H Q => ∃ p ys, xs = [.ref p] ∧ ((SqL K H p ys ∧ ∀ l o, H l = none → o.dict = none → Q (.ref l) (upd H l (.frz o (.tup ys)))) ∨ (SqT K H p ys ∧ Q (.ref p) H))) := e ▸ call_tuple_frz
end
theorem sub_int {K : PySem.W.Frag} {C : Addr} : PySem.W.subIn K (.type "int") (.ref C) = some false := by
  have e : fastBuiltinMro "int" = some [.type "int", .type "object"] := by decide +kernel
  show (fastBuiltinMro "int").map (·.contains (.ref C)) = some false
  rw [e]
  first
    | rfl
    | simp
end Kx
namespace PySem
open Sem (wp)
open AutoSeq1 (wpAny_loadPart')
theorem meets_enumerate_newT (l : Addr) (items : Array Value) (n : Nat) (dct : Option Addr) (sl : Array (Option Value)) :
    Meets (Builtin.«enumerate.__new__» ⟨[.type "enumerate", .ref l], []⟩) (fun _ R s => s.heap.get? l = some { cls := .type "tuple", dict := dct, data := .seq items n, slots := sl } ∧
      R (.ok (.ret (.ref (s.heap.push { cls := .type "tuple_iterator", data := .fields #[.ref l, .int 0 0] }).objs.size)))
        { s with heap := (s.heap.push { cls := .type "tuple_iterator", data := .fields #[.ref l, .int 0 0] }).push { cls := .type "enumerate", data := .fields #[.none, .bool false, .ref s.heap.objs.size, rawInt 0, .none, .none] } }) :=
  .of_wp fun prog w A R s h => by
    obtain ⟨hp, g, d, tk, os⟩ := s
    obtain ⟨hl, h⟩ := h
    have hsub := sub_enumerate
    have hL : Heap.IsTuple (Shared.heap ⟨hp, g, d, tk, os⟩) l items := ⟨_, hl, rfl, n, rfl⟩
    wp_walk using wpAny_loadPart' hl
    refine wpAny_stack_any fun st => wpAny_pure ?_
    split
    · rename_i c _ _ _ _ _
      cases (c == Value.type "enumerate")
      · wp_walk using wpAny_loadPart' hl, wpAny_pyIter_tuple hL
        exact ⟨_, rfl, h⟩
      · wp_walk using wpAny_loadPart' hl, wpAny_pyIter_tuple hL
        exact ⟨_, rfl, h⟩
    · wp_walk using wpAny_loadPart' hl, wpAny_pyIter_tuple hL
      exact ⟨_, rfl, h⟩
section
variable {prog : Program} {w : World} {A : Around} {E : Value → Shared → Prop} {s : Shared}
theorem call_enumerate_tuple {l : Addr} {items : Array Value} {Q : Value → Shared → Prop} (hL : s.heap.IsTuple l items)
    (h : ∀ h', IsEnum h' (s.heap.objs.size + 1) s.heap.objs.size 0 .none → h'.IsTupleIter s.heap.objs.size l 0 → h'.objs.size = s.heap.objs.size + 2 →
      (∀ b o, s.heap.get? b = some o → h'.get? b = some o) → Q (.ref (s.heap.objs.size + 1)) { s with heap := h' }) :
    wpAny (model prog w) A (call (.type "enumerate") [.ref l]) Q E s := by
  obtain ⟨⟨c, dct, dt, sl⟩, hl, hc, n, hd⟩ := hL
  replace hc : c = .type "tuple" := hc
  replace hd : dt = .seq items n := hd
  subst hc hd
  refine callType_new F.called_enumerate (by decide) (F.typeCall_enumerate_1 _) (F.newCall_enumerate_1 _) (fun obj => F.args_object_init_2 obj _) F.entry_enumerate_new
    (meets_enumerate_newT l items n dct sl) ⟨hl, ?_⟩
  have hz : (s.heap.push { cls := .type "tuple_iterator", data := .fields #[.ref l, .int 0 0] }).objs.size = s.heap.objs.size + 1 := Heap.size_push ..
  show _ ∧ _
  rw [hz]
  have he : IsEnum ((s.heap.push { cls := .type "tuple_iterator", data := .fields #[.ref l, .int 0 0] }).push
      { cls := .type "enumerate", data := .fields #[.none, .bool false, .ref s.heap.objs.size, rawInt 0, .none, .none] }) (s.heap.objs.size + 1) s.heap.objs.size 0 .none := by
    have := Heap.get?_push_size (s.heap.push { cls := .type "tuple_iterator", data := .fields #[.ref l, .int 0 0] })
      (o := { cls := .type "enumerate", data := .fields #[.none, .bool false, .ref s.heap.objs.size, rawInt 0, .none, .none] }) rfl
    rw [hz] at this; exact this
  refine ⟨⟨_, he, rfl⟩, h _ he ⟨_, Heap.get?_push_of_some _ (Heap.get?_push_size _ rfl), rfl, rfl⟩ (by rw [Heap.size_push, hz]) fun b o x => Heap.get?_push_of_some _ (Heap.get?_push_of_some _ x)⟩
end
end PySem
namespace Kx
open PySem PySem.Spec PyProof.Rows L2 SX LamX
/-! ### enumerate(tuple) -/
def IteT (K : PySem.W.Frag) (a : Addr) : It :=
  ⟨fun i H => ∃ (xs : List V) (x : V), SqT K H a xs ∧ xs[i]? = some x, fun i H v H' => ∃ T x, v = .ref T ∧ H T = none ∧ H' = upd H T (.tup [.int (i : Nat), x]) ∧ ∀ xs, SqT K H a xs → xs[i]? = some x, fun i H => ∃ xs : List V, SqT K H a xs ∧ i = xs.length⟩
theorem turn_enumT {P : Program} {w : World} {K : PySem.W.Frag} {elts : List Expr} {kk : Nat} {tpos : Pos} (a e it : Addr) :
    Turn P w K (.Tuple elts kk tpos) (IteT K a) [e, it] e (fun i h => (∃ old, IsEnum h e it ((i : Nat) : Int) old) ∧ h.IsTupleIter it a i ∧ e ≠ it ∧ a ≠ it ∧ a ≠ e) where
  mem := by simp
  obj := fun i h st b hb => by
    obtain ⟨⟨old, he⟩, ⟨o, ho, hc, hd⟩, _⟩ := st
    rcases (show b = e ∨ b = it by simpa using hb) with z | z
    · rw [z]
      exact ⟨_, he, fun v q => nomatch q⟩
    · rw [z]
      exact ⟨o, ho, fun v q => by rw [hd] at q; cases q⟩
  keep := fun i h h' st k => by
    obtain ⟨⟨old, he⟩, ⟨o, ho, r⟩, hne⟩ := st
    exact ⟨⟨old, k e (by simp) _ he⟩, ⟨o, k it (by simp) _ ho, r⟩, hne⟩
  item := by
    intro X hP hw hK hc i pins s σ H E I hf st hg
    subst hP hw hK
    obtain ⟨⟨old, he⟩, hit, hne, n1, n2⟩ := st
    obtain ⟨xs, x, hq, hx⟩ := hg
    obtain ⟨its, rv, p, hz⟩ := I.tuple hq
    obtain ⟨u, hu, ru⟩ := rv.get hx
    have el : e < s.heap.objs.size := Heap.lt_size he
    have il : it < s.heap.objs.size := by
      obtain ⟨_, q, _⟩ := hit
      exact Heap.lt_size q
    have D := Draws.tuple (prog := X.prog) (w := X.w) (A := X.A.in1) (I.ok.hd hc) it a n1 its.toArray
    have hlt : i < its.toArray.size := by
      have := (List.getElem?_eq_some_iff.mp hu).1
      simpa using this
    refine wpAny_pyNext_enum_itemD D he ⟨hit, p⟩ hlt hne (by simp [hne, Ne.symm n2]) fun u' h' tk hu' ho hit' hT hz' hk => ?_
    obtain rfl : u = u' := by
      have h1 : its.toArray[i]? = some u := by simpa using hu
      rw [h1] at hu'
      exact Option.some.inj hu'
    refine ⟨_, rfl, wpAny_letOwnedTupleGo_enum (s := { s with heap := h', toks := tk + 1 }) ho fun h2 he' sb => ?_⟩
    have T2 := (sb.2 _ (Nat.ne_of_gt el)).trans hT
    have new : ObjOk X.prog X.w (upd H s.heap.objs.size (.tup [.int (i : Nat), x])) h2 s.heap.objs.size (.tup [.int (i : Nat), x]) :=
      ⟨by show 2 ≤ sizeLine; decide, [.int i tk, u], .cons ⟨_, rfl⟩ (.cons ru .nil), ⟨_, T2, rfl, _, rfl⟩⟩
    have I1 : Inv X pins σ (upd H s.heap.objs.size (.tup [.int (i : Nat), x])) { s with heap := h2, toks := tk + 1 } :=
      I.turnedNew (ch := [e, it]) (fun b ob hb q => (sb.2 b (fun z => hb (by simp [z]))).trans (hk b ob (fun z => hb (by simp [z])) (fun z => hb (by simp [z])) q)) hf (Nat.le_refl _) new
    refine ⟨.ref s.heap.objs.size, _, I1, rfl, ⟨_, x, rfl, I.hok.fresh (Nat.le_refl _), rfl, fun ys hy => by rw [I.tuple_inj hy hq]; exact hx⟩, ⟨⟨u, ?_⟩, ?_, hne, n1, n2⟩, fun b hb => ?_⟩
    · rw [show ((i + 1 : Nat) : Int) = (i : Int) + 1 by omega]
      exact he'
    · obtain ⟨⟨o, ho2, r⟩, _⟩ := hit'
      exact ⟨o, (sb.2 it (Ne.symm hne)).trans ho2, r⟩
    · have hb' : b < s.heap.objs.size := by
        rcases (show b = e ∨ b = it by simpa using hb) with z | z
        · rw [z]
          exact el
        · rw [z]
          exact il
      rw [upd_ne (Nat.ne_of_lt hb')]
      exact (hf b hb).1
  done := by
    intro X hP hw hK hc i pins s σ H E I hf st hg
    subst hP hw hK
    obtain ⟨⟨old, he⟩, hit, hne, n1, n2⟩ := st
    obtain ⟨xs, hq, hx⟩ := hg
    obtain ⟨its, rv, p, hz⟩ := I.tuple hq
    obtain ⟨f0, f1, f2, f3, f4, f5⟩ := hf it (by simp)
    have hl : i = its.toArray.size := by
      rw [hx, rv.length]
      simp
    have D := Draws.tuple (prog := X.prog) (w := X.w) (A := X.A.in1) (I.ok.hd hc) it a n1 its.toArray
    rw [hl] at hit he
    exact wpAny_pyNext_enum_endD D he ⟨hit, p⟩ fun h' eb => ⟨rfl, I.turned (t' := s.toks) (fun b o hb q => eb b o hb q) f0 f1 f3 f4 f5⟩
  self := fun A i s Q E st h => by
    obtain ⟨⟨_, he⟩, _⟩ := st
    exact wpAny_pyIter_enum he h
def iEnumT (K : PySem.W.Frag) (ta : TA) : TI := fun σ H R => ta σ H fun vs H1 => ∃ a xs, vs = [.ref a] ∧ SqT K H1 a xs ∧ R (IteT K a) H1
theorem pi_enumT {X : Cx} {e : Expr} {ta : TA} {p pos tpos : Pos} {elts : List Expr} {kk : Nat} (hg : Gl X "enumerate") (hm : X.mg "enumerate" = none) (ha : PA X [e] ta) (hs : starEach [e] X.env = [(false, eval e X.env)] := by rfl) :
    PI X (.Tuple elts kk tpos) (.Call (.Name "enumerate" p) [e] [] pos) (iEnumT X.K ta) := by
  refine ⟨fun pins s σ H R I h => ?_⟩
  refine Call_ (ld_blt I hg hm boot_enumerate (PyProof.Rows.callWith_type1 (thn (ha.run pos pins s σ H _ I h) fun us s1 hh => ?_) hs rfl))
  obtain ⟨vs, H1, I1, r1, a, xs, rfl, hq, q⟩ := hh
  obtain ⟨u, rfl, rx⟩ := vals1 r1
  cases rx
  obtain ⟨its, rv, pp, hz⟩ := I1.tuple hq
  have hla : a < s1.heap.objs.size := by
    obtain ⟨_, q, _⟩ := pp
    exact Heap.lt_size q
  refine call_enumerate_tuple pp fun h' he hit hsz hk => wpAny_pyIter_enum he ?_
  have I2 : Inv X pins σ H1 { s1 with heap := h' } := I1.kept (t' := s1.toks) hk
  refine ⟨s1.heap.objs.size + 1, [s1.heap.objs.size + 1, s1.heap.objs.size], _, _, H1, rfl, I2, turn_enumT a (s1.heap.objs.size + 1) s1.heap.objs.size, ⟨⟨.none, he⟩, hit, Nat.succ_ne_self _, Nat.ne_of_lt hla, Nat.ne_of_lt (Nat.lt_succ_of_lt hla)⟩, fun b hb => ?_, q⟩
  have hle : s1.heap.objs.size ≤ b := by
    rcases (show b = s1.heap.objs.size + 1 ∨ b = s1.heap.objs.size by simpa using hb) with z | z
    · rw [z]
      exact Nat.le_add_right _ _
    · rw [z]
      exact Nat.le_refl _
  exact I1.fpOk hle (I1.hok.fresh hle)
theorem walk_enumT {K : PySem.W.Frag} {a : Addr} {xs : List V} : Walk (IteT K a) xs.length (fun H => SqT K H a xs) (fun i H v H' => ∃ T x, v = .ref T ∧ H T = none ∧ H' = upd H T (.tup [.int (i : Nat), x]) ∧ xs[i]? = some x) :=
  ⟨fun i _ hi q => ⟨xs, xs[i], q, by simp [hi]⟩, fun _ q => ⟨xs, q, rfl⟩, fun _ _ _ _ _ q y => by
    obtain ⟨T, x, h1, h2, h3, h4⟩ := y
    exact ⟨T, x, h1, h2, h3, h4 xs q⟩⟩
section
variable {J : It} {n : Nat} {G : Hp → Prop} {Y : Nat → Hp → V → Hp → Prop}
/-- a dict comprehension over whatever walks: Pv by the turn and the heap (the new dict at D within) -/
theorem dc_it (w : Walk J n G Y) {g : TG} {tt : TT} {tk tv : TE} {vs : List Nat} {σ : L2.St} {H1 : Hp} {D : Addr} {Qd : Hp → Prop} (Pv : Nat → Hp → Prop) (h0 : Pv 0 (upd H1 D (.dK []))) (hG : ∀ i H, i ≤ n → Pv i H → G H)
    (hs : ∀ i x H H', i < n → Pv i H → Y i H x H' → g x (wipe σ vs) H' fun σ2 H2 => wipe σ2 vs = wipe σ vs ∧ tt σ2 H2 fun b H3 =>
      if b = true then tk σ2 H3 fun y H4 => tv σ2 H4 fun z H5 => ∃ kvs k, y = kV k ∧ H5 D = some (.dK kvs) ∧ kvs.length < sizeLine ∧ Pv (i + 1) (upd H5 D (.dK (putK kvs k z))) else Pv (i + 1) H3) (hd : ∀ H, Pv n H → Qd H) :
    ∃ W : Nat → Nat → Hp → Prop, (∃ m, W 0 m (upd H1 D (.dK []))) ∧ ∀ i m H, W i m H →
      (J.stop i H ∧ Qd H) ∨ (J.go i H ∧ ∃ Nx : Hp → Prop, (∀ H', Nx H' → ∃ m', m' < m ∧ W (i + 1) m' H') ∧ ∀ x H', J.yld i H x H' → g x (wipe σ vs) H' fun σ2 H2 => wipe σ2 vs = wipe σ vs ∧ tt σ2 H2 fun b H3 =>
        if b = true then tk σ2 H3 fun y H4 => tv σ2 H4 fun z H5 => ∃ kvs k, y = kV k ∧ H5 D = some (.dK kvs) ∧ kvs.length < sizeLine ∧ Nx (upd H5 D (.dK (putK kvs k z))) else Nx H3) := by
  refine ⟨fun i m H => m = n - i ∧ i ≤ n ∧ Pv i H, ⟨n, by simp, Nat.zero_le _, h0⟩, ?_⟩
  rintro i m H ⟨rfl, hi, p⟩
  have q := hG i H hi p
  by_cases hlt : i < n
  · refine .inr ⟨w.goes i H hlt q, Pv (i + 1), fun H' p' => ⟨n - (i + 1), by omega, rfl, hlt, p'⟩, fun x H' y => hs i x H H' hlt p (w.yields i H x H' hlt q y)⟩
  · have e : i = n := by omega
    subst e
    exact .inl ⟨w.stops H q, hd H p⟩
end
theorem inK_pe_fld {X : Cx} {K : PySem.W.Frag} {e : Expr} {ta : TE} {f : Str} {pos : Pos} (q : X.K = K) (he : PE X e ta) (hb : attributeBase e f X.env (eval e X.env) = eval e X.env) : PE X (.Attribute e f pos) (tFld K ta f) := q ▸ pe_fld he hb
end Kx
namespace Kx
open PySem PySem.Spec PyProof.Rows L2 SX LamX
/-- a method called by two names, the other way round -/
def selfSwapG {α : Type} (us ws : List α) : List α := match us, ws with | [s], [v, u] => [s, u, v] | _, _ => []
theorem kb_selfSwap {K : PySem.W.Frag} {x qual : Str} {st : Stmt} {f : Addr} {fd : FuncData} {a b c : Str} (F : Fun K x qual st f fd)
    (h : ∀ (kV doc pm : Value) (an : Option Addr) (cdv ct : Value) (s u v : Value), bindArgs (PySem.W.fnOf x qual (defArgs st) (defBody st) (defScope st) .none kV doc pm an cdv ct) ⟨[s], [(c, v), (b, u)]⟩ = pure [(a, s), (b, u), (c, v)]) :
    KBinds K fd [a, b, c] [c, b] selfSwapG selfSwapG := by
  obtain ⟨oc, od, kV, doc, pm, an, cdv, ct, osl, rfl, lk, hcd⟩ := F.ex
  refine ⟨fun s us ws X l => ?_, fun {vs us zs ws} r1 r2 => ?_⟩
  · match us, ws, l with
    | [s], [v, u], _ => exact .of_eq (h kV doc pm an cdv ct s u v)
    | [], _, l => cases l
    | [_], [], l => cases l
    | [_], [_], l => cases l
    | [_], _ :: _ :: _ :: _, l => cases l
    | _ :: _ :: _, _, l => cases l
  · cases r1 with
    | nil => exact .nil
    | cons h1 r1 =>
      cases r1 with
      | cons _ _ => exact .nil
      | nil =>
        cases r2 with
        | nil => exact .nil
        | cons h2 r2 =>
          cases r2 with
          | nil => exact .nil
          | cons h3 r2 =>
            cases r2 with
            | nil => exact .cons h1 (.cons h3 (.cons h2 .nil))
            | cons _ _ => exact .nil
theorem kbn_selfSwap {K : PySem.W.Frag} {x qual : Str} {st : Stmt} {f : Addr} {fd : FuncData} {a b c : Str} (F : Fun K x qual st f fd)
    (h : ∀ (kV doc pm : Value) (an : Option Addr) (cdv ct : Value) (s u v : Value), bindArgs (PySem.W.fnOf x qual (defArgs st) (defBody st) (defScope st) .none kV doc pm an cdv ct) ⟨[s], [(c, v), (b, u)]⟩ = pure [(a, s), (b, u), (c, v)]) :
    KBn K fd [a, b, c] 1 [c, b] selfSwapG selfSwapG := by
  have kb := kb_selfSwap F h
  refine ⟨fun s us ws X l1 l2 => kb.to s us ws X ?_, kb.rel⟩
  match us, ws, l1, l2 with
  | [_], [_, _], _, _ => rfl
end Kx
namespace Kx
open PySem PySem.Spec PyProof.Rows L2 SX LamX
/-! ### texts joined by blanks -/
theorem itemsA_app : ∀ (x acc r : List Nat), 32 ∉ x → itemsA acc (x ++ r) = itemsA (acc ++ x) r
  | [], acc, r, _ => by rw [List.append_nil, List.nil_append]
  | c :: x, acc, r, h => by
    have hc : c ≠ 32 := fun e => h (by rw [e]; exact List.mem_cons_self)
    show (if c = 32 then acc :: itemsA [] (x ++ r) else itemsA (acc ++ [c]) (x ++ r)) = _
    rw [if_neg hc, itemsA_app x (acc ++ [c]) r (fun m => h (List.mem_cons_of_mem _ m)), List.append_assoc]
    rfl
theorem itemsA_one {x acc : List Nat} (h : 32 ∉ x) : itemsA acc x = [acc ++ x] := by
  have := itemsA_app x acc [] h
  rw [List.append_nil] at this
  rw [this]
  rfl
theorem items_join : ∀ (its : List (List Nat)), its ≠ [] → (∀ it ∈ its, 32 ∉ it) → itemsA [] (TL.joinL [32] its) = its
  | [], h, _ => absurd rfl h
  | [x], _, h => by
    show itemsA [] x = [x]
    rw [itemsA_one (h x (List.mem_singleton.mpr rfl))]
    rfl
  | x :: y :: r, _, h => by
    show itemsA [] (x ++ (32 :: TL.joinL [32] (y :: r))) = _
    rw [itemsA_app x [] _ (h x List.mem_cons_self)]
    show (if (32 : Nat) = 32 then ([] ++ x) :: itemsA [] (TL.joinL [32] (y :: r)) else _) = _
    rw [if_pos rfl, items_join (y :: r) (List.cons_ne_nil _ _) (fun it m => h it (List.mem_cons_of_mem _ m))]
    rfl
theorem joinL_all {p : Nat → Bool} (h32 : p 32 = true) : ∀ (its : List (List Nat)), (∀ it ∈ its, it.all p = true) → (TL.joinL [32] its).all p = true
  | [], _ => rfl
  | [x], h => by
    show x.all p = true
    exact h x (List.mem_singleton.mpr rfl)
  | x :: y :: r, h => by
    show (x ++ (32 :: TL.joinL [32] (y :: r))).all p = true
    rw [List.all_append, List.all_cons, h32, joinL_all h32 (y :: r) (fun it m => h it (List.mem_cons_of_mem _ m)), h x List.mem_cons_self]
    rfl
theorem joinL_len {k : Nat} : ∀ (its : List (List Nat)), (∀ it ∈ its, it.length ≤ k) → (TL.joinL [32] its).length ≤ its.length * (k + 1)
  | [], _ => Nat.zero_le _
  | [x], h => by
    show x.length ≤ _
    have := h x (List.mem_singleton.mpr rfl)
    simp only [List.length_cons, List.length_nil]
    omega
  | x :: y :: r, h => by
    have h1 := joinL_len (y :: r) (fun it m => h it (List.mem_cons_of_mem _ m))
    have h2 := h x List.mem_cons_self
    show (x ++ (32 :: TL.joinL [32] (y :: r))).length ≤ _
    rw [List.length_append, List.length_cons]
    rw [List.length_cons (a := x), Nat.succ_mul]
    omega
/-- the length of a joined text -/
theorem joinL_sum : ∀ (its : List (List Nat)), its ≠ [] → (TL.joinL [32] its).length + 1 = (its.map fun it => it.length + 1).sum
  | [], h => absurd rfl h
  | [x], _ => by simp [TL.joinL]
  | x :: y :: r, _ => by
    have h1 := joinL_sum (y :: r) (List.cons_ne_nil _ _)
    show (x ++ (32 :: TL.joinL [32] (y :: r))).length + 1 = (x.length + 1) + ((y :: r).map fun it => it.length + 1).sum
    rw [List.length_append, List.length_cons, ← h1]
    omega
/-! ### slices of texts -/
theorem slice_S (l : List Nat) (lo hi : Option Int) : Txt.slice (S l) lo hi = S ((l.drop (HT.sIx l.length 0 lo)).take (HT.sIx l.length l.length hi - HT.sIx l.length 0 lo)) := by
  rw [← C8.cutS_slice]
  unfold cutS
  rw [S_len]
theorem slice_part {l : List Nat} {lo hi : Option Int} : ∃ m : List Nat, Txt.slice (S l) lo hi = S m ∧ m.length ≤ l.length ∧ ∀ c ∈ m, c ∈ l :=
  ⟨_, slice_S l lo hi, by rw [List.length_take, List.length_drop]; omega, fun c h => List.mem_of_mem_drop (List.mem_of_mem_take h)⟩
theorem slice_fromS (l : List Nat) (k : Nat) : Txt.slice (S l) (some (k : Int)) none = S (l.drop k) := by
  rw [slice_S, HT.sIx_none, HT.sIx_nat]
  by_cases h : k ≤ l.length
  · rw [Nat.min_eq_left h, List.take_of_length_le (by rw [List.length_drop]; omega)]
  · rw [Nat.min_eq_right (by omega), List.drop_of_length_le (Nat.le_refl _), List.drop_of_length_le (by omega), List.take_nil]
theorem slice_toS (l : List Nat) (k : Nat) : Txt.slice (S l) none (some (k : Int)) = S (l.take k) := by
  rw [slice_S, HT.sIx_none, HT.sIx_nat, List.drop_zero, Nat.sub_zero]
  by_cases h : k ≤ l.length
  · rw [Nat.min_eq_left h]
  · rw [Nat.min_eq_right (by omega), List.take_of_length_le (Nat.le_refl _), List.take_of_length_le (by omega)]
theorem sum_S_le {k : Nat} : ∀ its : List (List Nat), (∀ it ∈ its, it.length ≤ k) → ((its.map S).map (·.length)).sum ≤ its.length * k
  | [], _ => Nat.zero_le _
  | x :: r, h => by
    have h1 := sum_S_le r (fun it m => h it (List.mem_cons_of_mem _ m))
    have h2 := h x List.mem_cons_self
    have h3 : (S x).length = x.length := S_len x
    show (S x).length + ((r.map S).map (·.length)).sum ≤ (r.length + 1) * k
    rw [h3, Nat.succ_mul]
    omega
theorem inK_call_list_of {X : Cx} {K : PySem.W.Frag} (e : X.K = K) : CallR X (.type "list") (fun xs H Q => ∃ p ys, xs = [.ref p] ∧ (SqL K H p ys ∨ SqT K H p ys) ∧ ∀ l, H l = none → Q (.ref l) (upd H l (.lst ys))) := e ▸ call_list_of
end Kx
/-! ### replace of one written text, once -/
namespace Kx
open PySem PySem.Spec PyProof.Rows L2 SX LamX PySem.Builtin PySem.Builtin.Str
theorem gives_str_replace_n (x y z : Str) (t u v w : Tok) (n : Nat) (hn : n < 1000)
    (hf : ((occurrences x y 0 x.length n).isEmpty || (y.length == 0 && z.length == 0)) = false →
      (u == 0 || v == 0) = false ∧ (u == v) = false ∧ (y == z) = false ∧ tooLong (x.length + (occurrences x y 0 x.length n).length * z.length) = false) :
    Gives («str.replace» ⟨[.str x t, .str y u, .str z v, .int n w], []⟩) (if ((occurrences x y 0 x.length n).isEmpty || (y.length == 0 && z.length == 0)) = true then .val (.str x t) else .str (glued z (partsBetween x (occurrences x y 0 x.length n) y.length))) := by
  have key : «str.replace» ⟨[.str x t, .str y u, .str z v, .int n w], []⟩ = (do
      let limit ← countLimit "str.replace" (some (.int n w)) (x.length + 1)
      if ((occurrences x y 0 x.length limit).isEmpty || (y.length == 0 && z.length == 0)) = true then (do rule "str.replace.nothing"; ret (.str x t)) else
          (do let same ← isSame (.str y u) (.str z v)
              if same = true then (do rule "str.replace.old-is-new"; ret (.str x t)) else
              if tooLong (x.length + (occurrences x y 0 x.length limit).length * z.length) = true then unsupported "str.replace:memory" else
              retStr (glued z (partsBetween x (occurrences x y 0 x.length limit) y.length)))) := rfl
  have cl : countLimit "str.replace" (some (.int n w)) (x.length + 1) = pure n := by
    rw [countLimit_int _ _ _ _ (by rw [decide_eq_false (show ¬ ((n : Int) < -(2 ^ 63 : Int)) by omega), decide_eq_false (show ¬ ((n : Int) ≥ 2 ^ 63) by omega)]; rfl), if_neg (by omega)]
    rfl
  rw [key, cl]
  show Gives (if ((occurrences x y 0 x.length n).isEmpty || (y.length == 0 && z.length == 0)) = true then (do rule "str.replace.nothing"; ret (.str x t)) else
          (do let same ← isSame (.str y u) (.str z v)
              if same = true then (do rule "str.replace.old-is-new"; ret (.str x t)) else
              if tooLong (x.length + (occurrences x y 0 x.length n).length * z.length) = true then unsupported "str.replace:memory" else
              retStr (glued z (partsBetween x (occurrences x y 0 x.length n) y.length)))) _
  cases hc : ((occurrences x y 0 x.length n).isEmpty || (y.length == 0 && z.length == 0))
  · obtain ⟨h0, huv, hyz, hl⟩ := hf hc
    rw [isSame_str_other y z u v h0 huv hyz, hl]
    exact .of_eq rfl
  · exact .rule (.of_eq rfl)
/-- what is left of x when the first y is gone, of one sign -/
def repOne (x y : Str) : Str := if (occurrences x y 0 x.length 1).isEmpty = true then x else glued ⟨#[]⟩ (partsBetween x (occurrences x y 0 x.length 1) y.length)
theorem repOne_eq (x y : Str) : repOne x y = x ∨ ∃ i, repOne x y = ⟨x.cps.extract 0 i ++ #[] ++ x.cps.extract (i + y.length) x.length⟩ := by
  unfold repOne
  cases hc : (occurrences x y 0 x.length 1) with
  | nil => exact .inl rfl
  | cons i r =>
    have h1 := StrLaws.occ_length_le x y 0 x.length 1
    rw [hc] at h1
    cases r with
    | nil => exact .inr ⟨i, rfl⟩
    | cons j t => simp at h1
theorem repOne_S (l : List Nat) (y : Str) : ∃ m : List Nat, repOne (S l) y = S m ∧ m.length ≤ l.length + l.length ∧ ∀ c ∈ m, c ∈ l := by
  rcases repOne_eq (S l) y with h | ⟨i, h⟩
  · exact ⟨l, h, by omega, fun c m => m⟩
  · refine ⟨((S l).cps.extract 0 i ++ #[] ++ (S l).cps.extract (i + y.length) (S l).length).toList, ?_, ?_, fun c m => ?_⟩
    · rw [h]
    · simp [S]
      omega
    · simp [S] at m
      rcases m with m | m
      · exact List.mem_of_mem_take m
      · exact List.mem_of_mem_drop (List.mem_of_mem_take m)
theorem SC_replace1 {prog : Program} {w : World} {A : Around} {E : Value → Shared → Prop} {s : Shared} {x y : Str} {t u v w1 : Tok} {Q : Value → Shared → Prop} (hu : u ≠ 0) (hv : v ≠ 0) (huv : u ≠ v) (hyz : (y == (⟨#[]⟩ : Str)) = false) (hy : (y.length == 0) = false) (hb : x.length ≤ 1000000)
    (hq : ∀ t' k, Q (.str (repOne x y) t') { s with toks := k }) : wpAny (model prog w) A (call (.builtin "str.replace") [.str x t, .str y u, .str ⟨#[]⟩ v, .int 1 w1]) Q E s := by
  have hl : tooLong (x.length + (occurrences x y 0 x.length 1).length * Str.length ⟨#[]⟩) = false := by
    show decide (x.length + (occurrences x y 0 x.length 1).length * 0 > sizeLine) = false
    rw [Nat.mul_zero]
    exact decide_eq_false (by show ¬ (sizeLine < x.length + 0); have : (1000000 : Nat) ≤ sizeLine := by decide
                              omega)
  refine call_gives F.slot_str_replace (typeIs_str _ _ _) F.entry_str_replace (F.args_str_replace_4 _ _ _ _)
    (gives_str_replace_n x y ⟨#[]⟩ t u v w1 1 (by decide) fun _ => ⟨by simp [hu, hv], by simp [huv], hyz, hl⟩) ?_
  have hq' := hq
  unfold repOne at hq'
  cases hc : (occurrences x y 0 x.length 1).isEmpty
  · rw [hc] at hq'
    rw [hy]
    simp only [Bool.false_eq_true, if_false, Bool.false_and, Bool.or_false] at hq' ⊢
    have hr : (glued ⟨#[]⟩ (partsBetween x (occurrences x y 0 x.length 1) y.length)).length ≤ x.length + x.length := by
      have h1 := repOne_eq x y
      unfold repOne at h1
      rw [hc] at h1
      simp only [Bool.false_eq_true, if_false] at h1
      rcases h1 with h1 | ⟨i, h1⟩
      · rw [h1]
        omega
      · rw [h1]
        show (x.cps.extract 0 i ++ #[] ++ x.cps.extract (i + y.length) x.length).size ≤ _
        have hx : x.length = x.cps.size := rfl
        simp [hx]
        omega
    exact ⟨Nat.le_trans hr (by have : (2000000 : Nat) ≤ sizeLine := by decide
                               omega), hq' _ _⟩
  · rw [hc] at hq'
    simp only [if_true, Bool.true_or] at hq' ⊢
    exact hq' t s.toks
end Kx
namespace Kx
open PySem PySem.Spec PyProof.Rows L2 CwR
def tRep1 (to : TE) (y : Str) : TE := fun σ H Q => to σ H fun v H1 => ∃ x, v = .str x ∧ x.length ≤ 1000000 ∧ Q (.str (repOne x y)) H1
section
variable {X : Cx} {o : Expr} {to : TE} {y z : Str} {j k l : Nat} {c0 c1 c2 apos pos : Pos}
theorem pet_repl1 (ho : PE X o to) (hz : z = ⟨#[]⟩) (hyz : (y == (⟨#[]⟩ : Str)) = false) (hy : (y.length == 0) = false)
    (hst : starEach [.Constant (.str y) j c0, .Constant (.str z) k c1, .Constant (.int 1) l c2] X.env = [(false, eval (.Constant (.str y) j c0) X.env), (false, eval (.Constant (.str z) k c1) X.env), (false, eval (.Constant (.int 1) l c2) X.env)])
    (hbase : attributeBase o "replace" X.env (eval o X.env) = eval o X.env) (hline : (apos.endLine == pos.line) = true) :
    PET X (.Call (.Attribute o "replace" apos) [.Constant (.str y) j c0, .Constant (.str z) k c1, .Constant (.int 1) l c2] [] pos) (tRep1 to y) := by
  intro pins s σ H Q h0 I h
  refine PySem.wpAny_Call_method_lateS hbase (by rw [hst]; rfl) hline ?_
  rw [hst]
  refine (wpAny_mono (PySem.wpAny_toks (ho.run pins s σ H _ I h)) (fun v s1 q => ?_) fun _ _ z => z.2)
  obtain ⟨hk, v', H1, I1, r1, x, e1, hb, q⟩ := q
  subst e1
  obtain ⟨tx, e2⟩ := r1
  subst e2
  refine ⟨"str", _, PySem.F.plainAttrs_str, PySem.F.slot_str_replace, PySem.F.type_str_replace, typeIs_str _ _ _, (fun _ e => nomatch e), Calls.callWith_builtin rfl (Calls.evalArgs_plain (Calls.spliced_cons ?_))⟩
  refine Calls.Constant_str (k := j) (pos := c0) (Calls.spliced_cons (Calls.Constant_str (k := k) (pos := c1) (Calls.spliced_cons (PySem.wpAny_Constant_int (i := 1) (k := l) (pos := c2) (Calls.spliced_nil ?_)))))
  subst hz
  exact SC_replace1 (by show s1.toks ≠ 0; omega) (by show s1.toks + 1 ≠ 0; omega) (by show s1.toks ≠ s1.toks + 1; omega) hyz hy hb fun t' k => ⟨.str (repOne x y), H1, I1.tok k, ⟨t', rfl⟩, q⟩
end
theorem inK_ix_seq {X : Cx} {K : PySem.W.Frag} (e : X.K = K) : IxR X (rIx K) := e ▸ ix_seq
end Kx
namespace Kx
open PySem PySem.Spec PyProof.Rows L2 SX LamX
section
variable {X : Cx}
/-- repr of a text -/
def rReprS : List V → Hp → VK → Prop := fun xs H Q => ∃ (x : Str), xs = [.str x] ∧ (PyData.str x).shown.length ≤ sizeLine ∧ Q (.str (PyData.str x).shown) H
theorem call_reprS : CallR X (.builtin "repr") rReprS := by
  intro pins s σ H xs us Q I r h
  obtain ⟨x, rfl, hl, q⟩ := h
  obtain ⟨u, rfl, t, rfl⟩ := vals1 r
  exact PySem.P.repr_of_str (x := x) ⟨.str (PyData.str x).shown, H, I.tok _, ⟨_, rfl⟩, q⟩ hl
end
/-- repr(x) != repr(y), of one and the same text -/
theorem nerepr_s {σ : L2.St} {H : Hp} {ta tb : TE} (l : List Nat) (hl : cdC l) (hm : l.length ≤ 1048576) {Q : Bool → Hp → Prop}
    (ha : ∀ Q : VK, (∀ H', Same H H' → Q (.str (S l)) H') → ta σ H Q)
    (hb : ∀ H0, Same H H0 → ∀ Q : VK, (∀ H', Same H0 H' → Q (.str (S l)) H') → tb σ H0 Q)
    (h : ∀ H', Same H H' → Q false H') : tTest (tOp rNe (tCB rReprS (tCons ta tNil)) (tCB rReprS (tCons tb tNil))) σ H Q := by
  have sz := (sh_str (x := S l) rfl hl).len hm
  refine go_test (go_op (go_cb (go_cons (ha _ fun H1 e1 => go_nil ⟨S l, rfl, sz, go_cb (go_cons (hb H1 e1 _ fun H2 e2 => go_nil ⟨S l, rfl, sz, rfl, false, ?_, h H2 (e1.trans e2)⟩))⟩))))
  rw [ne_self]
def rev3G {α : Type} (us ws : List α) : List α := match us, ws with | [], [c, b, a] => [a, b, c] | _, _ => []
theorem kb_rev3 {K : PySem.W.Frag} {x qual : Str} {st : Stmt} {f : Addr} {fd : FuncData} {a b c : Str} (F : Fun K x qual st f fd)
    (h : ∀ (kV doc pm : Value) (an : Option Addr) (cdv ct : Value) (u v w : Value), bindArgs (PySem.W.fnOf x qual (defArgs st) (defBody st) (defScope st) .none kV doc pm an cdv ct) ⟨[], [(c, w), (b, v), (a, u)]⟩ = pure [(a, u), (b, v), (c, w)]) :
    KBinds K fd [a, b, c] [c, b, a] rev3G rev3G := by
  obtain ⟨oc, od, kV, doc, pm, an, cdv, ct, osl, rfl, lk, hcd⟩ := F.ex
  refine ⟨fun s us ws X l => ?_, fun {vs us zs ws} r1 r2 => ?_⟩
  · match us, ws, l with
    | [], [w, v, u], _ => exact .of_eq (h kV doc pm an cdv ct u v w)
    | [], [], l => cases l
    | [], [_], l => cases l
    | [], [_, _], l => cases l
    | [], _ :: _ :: _ :: _ :: _, l => cases l
    | _ :: _, _, l => cases l
  · cases r1 with
    | cons _ _ => exact .nil
    | nil =>
      cases r2 with
      | nil => exact .nil
      | cons h1 r2 =>
        cases r2 with
        | nil => exact .nil
        | cons h2 r2 =>
          cases r2 with
          | nil => exact .nil
          | cons h3 r2 =>
            cases r2 with
            | nil => exact .cons h3 (.cons h2 (.cons h1 .nil))
            | cons _ _ => exact .nil
end Kx
namespace K10
open PySem PySem.Spec PyProof.Rows L2 Kx SX LamX
def topS (i : Nat) : Stmt := PySem.Challenge.pw_anyletter_k10_rows_spelled_and_read.main.body.getD i (.Pass ⟨0, 0, 0, 0⟩)
abbrev s_is_list : Stmt := topS 3
theorem sc_is_list : FnScope ["value"] ["value"] (defScope s_is_list) := ⟨rfl, rfl, rfl, by decide +kernel, rfl, by decide +kernel, by decide +kernel⟩
abbrev s_is_integer : Stmt := topS 4
theorem sc_is_integer : FnScope ["value"] ["value"] (defScope s_is_integer) := ⟨rfl, rfl, rfl, by decide +kernel, rfl, by decide +kernel, by decide +kernel⟩
abbrev s_is_within : Stmt := topS 5
theorem sc_is_within : FnScope ["value", "least", "most"] ["value", "least", "most"] (defScope s_is_within) := ⟨rfl, rfl, rfl, by decide +kernel, rfl, by decide +kernel, by decide +kernel⟩
abbrev s_are_letters : Stmt := topS 6
theorem sc_are_letters : FnScope ["text"] ["text"] (defScope s_are_letters) := ⟨rfl, rfl, rfl, by decide +kernel, rfl, by decide +kernel, by decide +kernel⟩
abbrev s_is_word : Stmt := topS 7
theorem sc_is_word : FnScope ["value"] ["value"] (defScope s_is_word) := ⟨rfl, rfl, rfl, by decide +kernel, rfl, by decide +kernel, by decide +kernel⟩
abbrev s_is_text : Stmt := topS 8
theorem sc_is_text : FnScope ["value", "letters"] ["value"] (defScope s_is_text) := ⟨rfl, rfl, rfl, by decide +kernel, rfl, by decide +kernel, by decide +kernel⟩
abbrev s_are_words : Stmt := topS 22
theorem sc_are_words : FnScope ["value", "most", "word"] ["value", "most"] (defScope s_are_words) := ⟨rfl, rfl, rfl, by decide +kernel, rfl, by decide +kernel, by decide +kernel⟩
abbrev s_Book_init : Stmt := inClass (topS 23) 0
theorem sc_Book_init : FnScope ["self", "words"] ["self", "words"] (defScope s_Book_init) := ⟨rfl, rfl, rfl, by decide +kernel, rfl, by decide +kernel, by decide +kernel⟩
abbrev s_is_row : Stmt := topS 24
theorem sc_is_row : FnScope ["book", "value", "number"] ["book", "value"] (defScope s_is_row) := ⟨rfl, rfl, rfl, by decide +kernel, rfl, by decide +kernel, by decide +kernel⟩
abbrev s_copies_of_words : Stmt := topS 25
theorem sc_copies_of_words : FnScope ["book", "copies", "counts", "count"] ["book", "copies"] (defScope s_copies_of_words) := ⟨rfl, rfl, rfl, by decide +kernel, rfl, by decide +kernel, by decide +kernel⟩
abbrev s_spelled : Stmt := topS 26
theorem sc_spelled : FnScope ["book", "row", "copies", "counts", "number", "signs", "items"] ["book", "row", "copies"] (defScope s_spelled) := ⟨rfl, rfl, rfl, by decide +kernel, rfl, by decide +kernel, by decide +kernel⟩
abbrev s_read : Stmt := topS 27
theorem sc_read : FnScope ["book", "text", "number", "word", "numbers", "item"] ["book", "text"] (defScope s_read) := ⟨rfl, rfl, rfl, by decide +kernel, rfl, by decide +kernel, by decide +kernel⟩
abbrev s_law_bench : Stmt := topS 29
theorem sc_law_bench : FnScope ["script", "cell"] ["script"] (defScope s_law_bench) := ⟨rfl, rfl, rfl, by decide +kernel, rfl, by decide +kernel, by decide +kernel⟩
abbrev s_law_write : Stmt := topS 30
theorem sc_law_write : FnScope ["bench", "many", "rest", "turn", "cell", "mixed"] ["bench", "many"] (defScope s_law_write) := ⟨rfl, rfl, rfl, by decide +kernel, rfl, by decide +kernel, by decide +kernel⟩
abbrev s_law_one_of : Stmt := topS 31
theorem sc_law_one_of : FnScope ["bench", "some"] ["bench", "some"] (defScope s_law_one_of) := ⟨rfl, rfl, rfl, by decide +kernel, rfl, by decide +kernel, by decide +kernel⟩
abbrev s_law_word : Stmt := topS 32
theorem sc_law_word : FnScope ["bench", "most", "letters", "turn"] ["bench", "most", "letters"] (defScope s_law_word) := ⟨rfl, rfl, rfl, by decide +kernel, rfl, by decide +kernel, by decide +kernel⟩
abbrev s_law_words : Stmt := topS 33
theorem sc_law_words : FnScope ["bench", "many", "most", "letters", "found", "turn", "word"] ["bench", "many", "most", "letters"] (defScope s_law_words) := ⟨rfl, rfl, rfl, by decide +kernel, rfl, by decide +kernel, by decide +kernel⟩
abbrev s_law_heard : Stmt := topS 34
theorem sc_law_heard : FnScope ["ask", "caught", "error", "told", "word", "is_so"] ["ask"] (defScope s_law_heard) := ⟨rfl, rfl, rfl, by decide +kernel, rfl, by decide +kernel, by decide +kernel⟩
abbrev s_law_text : Stmt := topS 35
theorem sc_law_text : FnScope ["words", "row", "copies", "text", "is_first", "number", "turn"] ["words", "row", "copies"] (defScope s_law_text) := ⟨rfl, rfl, rfl, by decide +kernel, rfl, by decide +kernel, by decide +kernel⟩
abbrev s_law_read : Stmt := topS 36
theorem sc_law_read : FnScope ["words", "text", "found", "item", "sign"] ["words", "text"] (defScope s_law_read) := ⟨rfl, rfl, rfl, by decide +kernel, rfl, by decide +kernel, by decide +kernel⟩
abbrev s_law_bent : Stmt := topS 37
theorem sc_law_bent : FnScope ["bench", "words", "text", "at", "way"] ["bench", "words", "text"] (defScope s_law_bent) := ⟨rfl, rfl, rfl, by decide +kernel, rfl, by decide +kernel, by decide +kernel⟩
abbrev s_law_refused_right : Stmt := topS 38
theorem sc_law_refused_right : FnScope ["bench", "words", "row", "book", "many", "none", "bad", "odd", "text", "heard"] ["bench", "words", "row"] (defScope s_law_refused_right) := ⟨rfl, rfl, rfl, by decide +kernel, rfl, by decide +kernel, by decide +kernel⟩
abbrev s_law : Stmt := topS 39
theorem sc_law : FnScope ["script", "bench", "turn", "words", "place", "row", "word", "copies", "same", "book", "passed", "text", "often", "number", "bend", "wide"] ["script"] (defScope s_law) := ⟨rfl, rfl, rfl, by decide +kernel, rfl, by decide +kernel, by decide +kernel⟩
abbrev s_BadBook_init : Stmt := inClass (topS 14) 0
theorem sc_BadBook_init : FnScope ["self", "part"] ["self", "part"] (defScope s_BadBook_init) := ⟨rfl, rfl, rfl, by decide +kernel, rfl, by decide +kernel, by decide +kernel⟩
theorem in_BadBook : IsInit s_BadBook_init := ⟨_, _, _, _, rfl, sc_BadBook_init, rfl, rfl⟩
abbrev s_BadNumber_init : Stmt := inClass (topS 11) 0
theorem sc_BadNumber_init : FnScope ["self", "part"] ["self", "part"] (defScope s_BadNumber_init) := ⟨rfl, rfl, rfl, by decide +kernel, rfl, by decide +kernel, by decide +kernel⟩
theorem in_BadNumber : IsInit s_BadNumber_init := ⟨_, _, _, _, rfl, sc_BadNumber_init, rfl, rfl⟩
abbrev s_BadText_init : Stmt := inClass (topS 12) 0
theorem sc_BadText_init : FnScope ["self", "part"] ["self", "part"] (defScope s_BadText_init) := ⟨rfl, rfl, rfl, by decide +kernel, rfl, by decide +kernel, by decide +kernel⟩
theorem in_BadText : IsInit s_BadText_init := ⟨_, _, _, _, rfl, sc_BadText_init, rfl, rfl⟩
abbrev s_BadRow_init : Stmt := inClass (topS 15) 0
theorem sc_BadRow_init : FnScope ["self", "part"] ["self", "part"] (defScope s_BadRow_init) := ⟨rfl, rfl, rfl, by decide +kernel, rfl, by decide +kernel, by decide +kernel⟩
theorem in_BadRow : IsInit s_BadRow_init := ⟨_, _, _, _, rfl, sc_BadRow_init, rfl, rfl⟩
abbrev s_Misfit_init : Stmt := inClass (topS 16) 0
theorem sc_Misfit_init : FnScope ["self", "part"] ["self", "part"] (defScope s_Misfit_init) := ⟨rfl, rfl, rfl, by decide +kernel, rfl, by decide +kernel, by decide +kernel⟩
theorem in_Misfit : IsInit s_Misfit_init := ⟨_, _, _, _, rfl, sc_Misfit_init, rfl, rfl⟩
structure Tx (K : PySem.W.Frag) (mg : Str → Option Value) where
  f_is_list : Addr
  fd_is_list : FuncData
  F_is_list : Fun K "is_list" "is_list" s_is_list f_is_list fd_is_list
  g_is_list : mg "is_list" = some (.ref f_is_list)
  b_is_list : Binds K fd_is_list ["value"] []
  f_is_integer : Addr
  fd_is_integer : FuncData
  F_is_integer : Fun K "is_integer" "is_integer" s_is_integer f_is_integer fd_is_integer
  g_is_integer : mg "is_integer" = some (.ref f_is_integer)
  b_is_integer : Binds K fd_is_integer ["value"] []
  f_is_within : Addr
  fd_is_within : FuncData
  F_is_within : Fun K "is_within" "is_within" s_is_within f_is_within fd_is_within
  g_is_within : mg "is_within" = some (.ref f_is_within)
  b_is_within : Binds K fd_is_within ["value", "least", "most"] []
  f_are_letters : Addr
  fd_are_letters : FuncData
  F_are_letters : Fun K "are_letters" "are_letters" s_are_letters f_are_letters fd_are_letters
  g_are_letters : mg "are_letters" = some (.ref f_are_letters)
  b_are_letters : Binds K fd_are_letters ["text"] []
  f_is_word : Addr
  fd_is_word : FuncData
  F_is_word : Fun K "is_word" "is_word" s_is_word f_is_word fd_is_word
  g_is_word : mg "is_word" = some (.ref f_is_word)
  b_is_word : Binds K fd_is_word ["value"] []
  f_is_text : Addr
  fd_is_text : FuncData
  F_is_text : Fun K "is_text" "is_text" s_is_text f_is_text fd_is_text
  g_is_text : mg "is_text" = some (.ref f_is_text)
  b_is_text : Binds K fd_is_text ["value"] []
  f_are_words : Addr
  fd_are_words : FuncData
  F_are_words : Fun K "are_words" "are_words" s_are_words f_are_words fd_are_words
  g_are_words : mg "are_words" = some (.ref f_are_words)
  b_are_words : Binds K fd_are_words ["value", "most"] []
  f_is_row : Addr
  fd_is_row : FuncData
  F_is_row : Fun K "is_row" "is_row" s_is_row f_is_row fd_is_row
  g_is_row : mg "is_row" = some (.ref f_is_row)
  b_is_row : Binds K fd_is_row ["book", "value"] []
  f_copies_of_words : Addr
  fd_copies_of_words : FuncData
  F_copies_of_words : Fun K "copies_of_words" "copies_of_words" s_copies_of_words f_copies_of_words fd_copies_of_words
  g_copies_of_words : mg "copies_of_words" = some (.ref f_copies_of_words)
  b_copies_of_words : Binds K fd_copies_of_words ["book", "copies"] []
  f_spelled : Addr
  fd_spelled : FuncData
  F_spelled : Fun K "spelled" "spelled" s_spelled f_spelled fd_spelled
  g_spelled : mg "spelled" = some (.ref f_spelled)
  b_spelled : Binds K fd_spelled ["book", "row", "copies"] []
  f_read : Addr
  fd_read : FuncData
  F_read : Fun K "read" "read" s_read f_read fd_read
  g_read : mg "read" = some (.ref f_read)
  b_read : Binds K fd_read ["book", "text"] []
  f_law_bench : Addr
  fd_law_bench : FuncData
  F_law_bench : Fun K "_law_bench" "_law_bench" s_law_bench f_law_bench fd_law_bench
  g_law_bench : mg "_law_bench" = some (.ref f_law_bench)
  b_law_bench : Binds K fd_law_bench ["script"] []
  f_law_write : Addr
  fd_law_write : FuncData
  F_law_write : Fun K "_law_write" "_law_write" s_law_write f_law_write fd_law_write
  g_law_write : mg "_law_write" = some (.ref f_law_write)
  b_law_write : Binds K fd_law_write ["bench", "many"] []
  f_law_one_of : Addr
  fd_law_one_of : FuncData
  F_law_one_of : Fun K "_law_one_of" "_law_one_of" s_law_one_of f_law_one_of fd_law_one_of
  g_law_one_of : mg "_law_one_of" = some (.ref f_law_one_of)
  b_law_one_of : Binds K fd_law_one_of ["bench", "some"] []
  f_law_word : Addr
  fd_law_word : FuncData
  F_law_word : Fun K "_law_word" "_law_word" s_law_word f_law_word fd_law_word
  g_law_word : mg "_law_word" = some (.ref f_law_word)
  b_law_word : Binds K fd_law_word ["bench", "most", "letters"] []
  f_law_words : Addr
  fd_law_words : FuncData
  F_law_words : Fun K "_law_words" "_law_words" s_law_words f_law_words fd_law_words
  g_law_words : mg "_law_words" = some (.ref f_law_words)
  b_law_words : Binds K fd_law_words ["bench", "many", "most", "letters"] []
  f_law_heard : Addr
  fd_law_heard : FuncData
  F_law_heard : Fun K "_law_heard" "_law_heard" s_law_heard f_law_heard fd_law_heard
  g_law_heard : mg "_law_heard" = some (.ref f_law_heard)
  b_law_heard : Binds K fd_law_heard ["ask"] []
  f_law_text : Addr
  fd_law_text : FuncData
  F_law_text : Fun K "_law_text" "_law_text" s_law_text f_law_text fd_law_text
  g_law_text : mg "_law_text" = some (.ref f_law_text)
  b_law_text : Binds K fd_law_text ["words", "row", "copies"] []
  f_law_read : Addr
  fd_law_read : FuncData
  F_law_read : Fun K "_law_read" "_law_read" s_law_read f_law_read fd_law_read
  g_law_read : mg "_law_read" = some (.ref f_law_read)
  b_law_read : Binds K fd_law_read ["words", "text"] []
  f_law_bent : Addr
  fd_law_bent : FuncData
  F_law_bent : Fun K "_law_bent" "_law_bent" s_law_bent f_law_bent fd_law_bent
  g_law_bent : mg "_law_bent" = some (.ref f_law_bent)
  b_law_bent : Binds K fd_law_bent ["bench", "words", "text"] []
  f_law_refused_right : Addr
  fd_law_refused_right : FuncData
  F_law_refused_right : Fun K "_law_refused_right" "_law_refused_right" s_law_refused_right f_law_refused_right fd_law_refused_right
  g_law_refused_right : mg "_law_refused_right" = some (.ref f_law_refused_right)
  b_law_refused_right : Binds K fd_law_refused_right ["bench", "words", "row"] []
  n_law_refused_right : PySem.W.nsIn K mainGlobals "_law_refused_right" = some (some (.ref f_law_refused_right))
  f_law : Addr
  fd_law : FuncData
  F_law : Fun K "law" "law" s_law f_law fd_law
  g_law : mg "law" = some (.ref f_law)
  b_law : Binds K fd_law ["script"] []
  n_law : PySem.W.nsIn K mainGlobals "law" = some (some (.ref f_law))
  f_Book_init : Addr
  fd_Book_init : FuncData
  F_Book_init : Fun K "__init__" "Book.__init__" s_Book_init f_Book_init fd_Book_init
  b_Book_init : Binds K fd_Book_init ["self", "words"] []
  C_Book : Addr
  gC_Book : mg "Book" = some (.ref C_Book)
  cl_Book : Cls K C_Book
  mk_Book : Mk K C_Book f_Book_init
  ob_Book : PySem.W.mroIn K C_Book (.type "object") = some true
  ne_Book : PySem.W.findIn K (.ref C_Book) "__ne__" = some (some (.builtin "object.__ne__"))
  oc_Book : PySem.W.findIn K (.ref C_Book) "__class__" = some (some (.builtin "object.__class__"))
  on_Book : PySem.W.specialIn K (.builtin "object.__class__") "__get__" = some (some (.builtin "getset_descriptor.__get__"))
  ot_Book : PySem.W.takesIn K (.builtin "object.__class__") = some true
  kc_Book : PySem.W.isClsIn K C_Book = true
  kt_Book : PySem.W.typeIn K (.ref C_Book) = some (.type "type")
  na_Book_words : NoAttr K C_Book "words"
  k_TooMany : Addr
  gk_TooMany : mg "TooMany" = some (.ref k_TooMany)
  kc_TooMany : PySem.W.isClsIn K k_TooMany = true
  kt_TooMany : PySem.W.typeIn K (.ref k_TooMany) = some (.type "type")
  k_BadBook : Addr
  gk_BadBook : mg "BadBook" = some (.ref k_BadBook)
  kc_BadBook : PySem.W.isClsIn K k_BadBook = true
  kt_BadBook : PySem.W.typeIn K (.ref k_BadBook) = some (.type "type")
  k_BadNumber : Addr
  gk_BadNumber : mg "BadNumber" = some (.ref k_BadNumber)
  kc_BadNumber : PySem.W.isClsIn K k_BadNumber = true
  kt_BadNumber : PySem.W.typeIn K (.ref k_BadNumber) = some (.type "type")
  k_BadRow : Addr
  gk_BadRow : mg "BadRow" = some (.ref k_BadRow)
  kc_BadRow : PySem.W.isClsIn K k_BadRow = true
  kt_BadRow : PySem.W.typeIn K (.ref k_BadRow) = some (.type "type")
  k_BadText : Addr
  gk_BadText : mg "BadText" = some (.ref k_BadText)
  kc_BadText : PySem.W.isClsIn K k_BadText = true
  kt_BadText : PySem.W.typeIn K (.ref k_BadText) = some (.type "type")
  k_Misfit : Addr
  gk_Misfit : mg "Misfit" = some (.ref k_Misfit)
  kc_Misfit : PySem.W.isClsIn K k_Misfit = true
  kt_Misfit : PySem.W.typeIn K (.ref k_Misfit) = some (.type "type")
  su_BadBook_TooMany : PySem.W.subIn K (.ref k_BadBook) (.ref k_TooMany) = some false
  su_BadBook_BadBook : PySem.W.subIn K (.ref k_BadBook) (.ref k_BadBook) = some true
  su_BadBook_BadNumber : PySem.W.subIn K (.ref k_BadBook) (.ref k_BadNumber) = some false
  su_BadBook_BadRow : PySem.W.subIn K (.ref k_BadBook) (.ref k_BadRow) = some false
  su_BadBook_BadText : PySem.W.subIn K (.ref k_BadBook) (.ref k_BadText) = some false
  su_BadBook_Misfit : PySem.W.subIn K (.ref k_BadBook) (.ref k_Misfit) = some false
  su_BadNumber_TooMany : PySem.W.subIn K (.ref k_BadNumber) (.ref k_TooMany) = some false
  su_BadNumber_BadBook : PySem.W.subIn K (.ref k_BadNumber) (.ref k_BadBook) = some false
  su_BadNumber_BadNumber : PySem.W.subIn K (.ref k_BadNumber) (.ref k_BadNumber) = some true
  su_BadNumber_BadRow : PySem.W.subIn K (.ref k_BadNumber) (.ref k_BadRow) = some false
  su_BadNumber_BadText : PySem.W.subIn K (.ref k_BadNumber) (.ref k_BadText) = some false
  su_BadNumber_Misfit : PySem.W.subIn K (.ref k_BadNumber) (.ref k_Misfit) = some false
  su_BadRow_TooMany : PySem.W.subIn K (.ref k_BadRow) (.ref k_TooMany) = some false
  su_BadRow_BadBook : PySem.W.subIn K (.ref k_BadRow) (.ref k_BadBook) = some false
  su_BadRow_BadNumber : PySem.W.subIn K (.ref k_BadRow) (.ref k_BadNumber) = some false
  su_BadRow_BadRow : PySem.W.subIn K (.ref k_BadRow) (.ref k_BadRow) = some true
  su_BadRow_BadText : PySem.W.subIn K (.ref k_BadRow) (.ref k_BadText) = some false
  su_BadRow_Misfit : PySem.W.subIn K (.ref k_BadRow) (.ref k_Misfit) = some false
  su_BadText_TooMany : PySem.W.subIn K (.ref k_BadText) (.ref k_TooMany) = some false
  su_BadText_BadBook : PySem.W.subIn K (.ref k_BadText) (.ref k_BadBook) = some false
  su_BadText_BadNumber : PySem.W.subIn K (.ref k_BadText) (.ref k_BadNumber) = some false
  su_BadText_BadRow : PySem.W.subIn K (.ref k_BadText) (.ref k_BadRow) = some false
  su_BadText_BadText : PySem.W.subIn K (.ref k_BadText) (.ref k_BadText) = some true
  su_BadText_Misfit : PySem.W.subIn K (.ref k_BadText) (.ref k_Misfit) = some false
  su_Misfit_TooMany : PySem.W.subIn K (.ref k_Misfit) (.ref k_TooMany) = some false
  su_Misfit_BadBook : PySem.W.subIn K (.ref k_Misfit) (.ref k_BadBook) = some false
  su_Misfit_BadNumber : PySem.W.subIn K (.ref k_Misfit) (.ref k_BadNumber) = some false
  su_Misfit_BadRow : PySem.W.subIn K (.ref k_Misfit) (.ref k_BadRow) = some false
  su_Misfit_BadText : PySem.W.subIn K (.ref k_Misfit) (.ref k_BadText) = some false
  su_Misfit_Misfit : PySem.W.subIn K (.ref k_Misfit) (.ref k_Misfit) = some true
  su_Book_Book : PySem.W.subIn K (.ref C_Book) (.ref C_Book) = some true
  m_isinstance : mg "isinstance" = none
  m_list : mg "list" = none
  m_tuple : mg "tuple" = none
  m_int : mg "int" = none
  m_bool : mg "bool" = none
  m_str : mg "str" = none
  m_len : mg "len" = none
  m_all : mg "all" = none
  m_set : mg "set" = none
  m_sum : mg "sum" = none
  m_enumerate : mg "enumerate" = none
  m_abs : mg "abs" = none
  m_range : mg "range" = none
  m_repr : mg "repr" = none
  e_BadBook : Er K mg "BadBook" "BadBook.__init__" s_BadBook_init "LetterError"
  e_BadNumber : Er K mg "BadNumber" "BadNumber.__init__" s_BadNumber_init "LetterError"
  e_BadText : Er K mg "BadText" "BadText.__init__" s_BadText_init "LetterError"
  e_BadRow : Er K mg "BadRow" "BadRow.__init__" s_BadRow_init "LetterError"
  e_Misfit : Er K mg "Misfit" "Misfit.__init__" s_Misfit_init "LetterError"
  t_MOST_LETTERS : Tok
  c_MOST_LETTERS : mg "MOST_LETTERS" = some (.int 12 t_MOST_LETTERS)
  t_MOST_SIGNS : Tok
  c_MOST_SIGNS : mg "MOST_SIGNS" = some (.int 200000 t_MOST_SIGNS)
  t_MOST_WORDS : Tok
  c_MOST_WORDS : mg "MOST_WORDS" = some (.int 40 t_MOST_WORDS)
  t_MOST_NUMBERS : Tok
  c_MOST_NUMBERS : mg "MOST_NUMBERS" = some (.int 10000 t_MOST_NUMBERS)
  t_MOST_COPIES : Tok
  c_MOST_COPIES : mg "MOST_COPIES" = some (.int 12 t_MOST_COPIES)
section
variable {P : Program} {w : World} {K : PySem.W.Frag} {mg : Str → Option Value} {base : Heap} (T : Tx K mg)
/-! ### checks -/
def sp_is_list (K : PySem.W.Frag) : Sp := fun vs H Q _ => ∃ (x : V) (n : String) (b : Bool), vs = [x] ∧ TyX K H x (.type n) ∧ PySem.W.kitAny K (.type n) [.type "list", .type "tuple"] = some b ∧ ∀ H', Same H H' → Q (.bl b) H'
theorem ok_is_list : FnOk P w K mg base CX0 1 T.f_is_list T.fd_is_list ["value"] (sp_is_list K) := by
  refine T.F_is_list.ok sc_is_list (fun vs H Q E h => ?_) (fun cdv A outer s H vs Q E hr h => ?_)
  · obtain ⟨x, n, b, rfl, _⟩ := h
    rfl
  · obtain ⟨x, n, b, rfl, ht, hk, q⟩ := h
    refine ⟨_, (pss_one (ps_ret (pe_callB call_isiT (by rfl) T.m_isinstance (by decide +kernel) (pa_cons (pv 0) (pa_cons (pe_tup (pa_cons (pe_bltn (v := .ty "list") (by rfl) T.m_list (by decide +kernel) rfl) (pa_cons (pe_bltn (v := .ty "tuple") (by rfl) T.m_tuple (by decide +kernel) rfl) pa_nil))) pa_nil))))), ?_⟩
    refine ⟨x, rfl, by show 2 ≤ sizeLine; decide, fun p np => ?_⟩
    exact ⟨x, p, _, _, _, b, rfl, upd_same, .cons (.ty _) (.cons (.ty _) .nil), tyx_same (same_new np) ht, hk, q _ (same_new np)⟩
def sp_is_integer (K : PySem.W.Frag) : Sp := fun vs H Q _ => ∃ (x : V) (n : String) (a b : Bool), vs = [x] ∧ TyX K H x (.type n) ∧ kitB n "int" = some a ∧ kitB n "bool" = some b ∧ Q (.bl (a && !b)) H
theorem ok_is_integer : FnOk P w K mg base CX0 1 T.f_is_integer T.fd_is_integer ["value"] (sp_is_integer K) := by
  refine T.F_is_integer.ok sc_is_integer (fun vs H Q E h => ?_) (fun cdv A outer s H vs Q E hr h => ?_)
  · obtain ⟨x, n, a, b, rfl, _⟩ := h
    rfl
  · obtain ⟨x, n, a, b, rfl, ht, h1, h2, q⟩ := h
    refine ⟨_, (pss_one (ps_ret (pe_and (pe_callB call_isi (by rfl) T.m_isinstance (by decide +kernel) (pa_cons (pv 0) (pa_cons (pe_bltn (v := .ty "int") (by rfl) T.m_int (by decide +kernel) rfl) pa_nil))) (pe_one (pe_not (pe_callB call_isi (by rfl) T.m_isinstance (by decide +kernel) (pa_cons (pv 0) (pa_cons (pe_bltn (v := .ty "bool") (by rfl) T.m_bool (by decide +kernel) rfl) pa_nil)))))))), ?_⟩
    refine ⟨x, rfl, x, _, _, _, a, rfl, .ty _, ht, kit_ty h1, a, rfl, iteC (fun e => ?_) (fun e => ?_)⟩
    · refine ⟨x, rfl, x, _, _, _, b, rfl, .ty _, ht, kit_ty h2, b, rfl, ?_⟩
      rw [e] at q
      exact q
    · rw [e] at q
      exact q
def sp_is_within (K : PySem.W.Frag) : Sp := fun vs H Q _ => ∃ (x : V) (lo hi : Option Int), vs = [x, bdV lo, bdV hi] ∧ HasInt K H x ∧ Q (.bl (withinV x lo hi)) H
theorem ok_is_within : FnOk P w K mg base CX0 2 T.f_is_within T.fd_is_within ["value", "least", "most"] (sp_is_within K) := by
  refine T.F_is_within.ok sc_is_within (fun vs H Q E h => ?_) (fun cdv A outer s H vs Q E hr h => ?_)
  · obtain ⟨i, lo, hi, rfl, _⟩ := h
    rfl
  · obtain ⟨x, lo, hi, rfl, ⟨n, a, b, ht, k1, k2, e⟩, q⟩ := h
    refine ⟨_, (pss_cons (ps_if (pt_not (pt_val (pe_call (ok_is_integer T) (hr.mono (by decide)) (by rfl) T.g_is_integer T.F_is_integer.kp T.b_is_integer .nil pass0 (pa_cons (pv 0) pa_nil))))
      (pss_one (ps_ret pe_bl))
      pss_nil)
    (pss_one (ps_ret (pe_and (pe_or (pe_cmpR op_isN (pv 1) pe_non (nomark _)) (pe_one (pe_cmpR op_ge (pv 0) (pv 1) (nomark _)))) (pe_one (pe_or (pe_cmpR op_isN (pv 2) pe_non (nomark _)) (pe_one (pe_cmpR op_le (pv 0) (pv 2) (nomark _))))))))), ?_⟩
    refine ⟨_, rfl, x, n, a, b, rfl, ht, k1, k2, _, rfl, ?_⟩
    rw [e]
    cases x with
    | int i =>
      refine iteF ⟨_, rfl, rfl, _, rfl, ?_⟩
      cases lo with
      | none =>
        refine iteT ⟨_, rfl, iteT ⟨_, rfl, rfl, _, rfl, ?_⟩⟩
        cases hi with
        | none => exact iteT q
        | some h => exact iteF ⟨_, rfl, _, rfl, _, _, rfl, rfl, q⟩
      | some l =>
        have q' : Q (.bl (decide (l ≤ i) && hiB i hi)) H := q
        refine iteF ⟨_, rfl, _, rfl, _, _, rfl, rfl, _, rfl, iteC (fun e => ?_) (fun e => ?_)⟩
        · rw [e] at q'
          refine ⟨_, rfl, rfl, _, rfl, ?_⟩
          cases hi with
          | none => exact iteT q'
          | some h => exact iteF ⟨_, rfl, _, rfl, _, _, rfl, rfl, q'⟩
        · rw [e] at q'
          exact q'
    | _ => exact iteT q
/-! ### words, signs, texts -/
def sp_are_letters (K : PySem.W.Frag) : Sp := fun vs H Q _ => ∃ (l : List Nat), vs = [.str (S l)] ∧ Q (.bl (lowB l)) H
theorem ok_are_letters : FnOk P w K mg base CX0 1 T.f_are_letters T.fd_are_letters ["text"] (sp_are_letters K) := by
  refine T.F_are_letters.ok sc_are_letters (fun vs H Q E h => ?_) (fun cdv A outer s H vs Q E hr h => ?_)
  · obtain ⟨l, rfl, _⟩ := h
    rfl
  · obtain ⟨l, rfl, q⟩ := h
    rw [← letters_S] at q
    refine ⟨_, (pss_one (ps_ret (pe_and (pe_m0 PySem.F.slot_str_isascii PySem.F.type_str_isascii mt_isascii (pv 0)) (pe_and (pe_m0 PySem.F.slot_str_isalpha PySem.F.type_str_isalpha mt_isalpha (pv 0)) (pe_one (pe_m0 PySem.F.slot_str_islower PySem.F.type_str_islower mt_islower (pv 0))))))), ?_⟩
    refine ⟨_, rfl, ⟨_, rfl⟩, S l, rfl, rfl, trivial, _, rfl, iteC (fun e => ?_) (fun e => ?_)⟩
    · rw [e] at q
      refine ⟨_, rfl, ⟨_, rfl⟩, S l, rfl, rfl, trivial, _, rfl, iteC (fun e => ?_) (fun e => ?_)⟩
      · rw [e] at q
        exact ⟨_, rfl, ⟨_, rfl⟩, S l, rfl, rfl, trivial, q⟩
      · rw [e] at q
        exact q
    · rw [e] at q
      exact q
/-- a text, or what is none -/
def StrIs (K : PySem.W.Frag) (H : Hp) (x : V) (o : Option (List Nat)) : Prop := match o with
  | some l => x = .str (S l) ∧ l.length ≤ 1000000
  | none => ∃ n, TyX K H x (.type n) ∧ kitB n "str" = some false
theorem StrIs.same {K : PySem.W.Frag} {H H' : Hp} {x : V} {o : Option (List Nat)} (e : Same H H') (h : StrIs K H x o) : StrIs K H' x o := by
  cases o with
  | some l => exact h
  | none =>
    obtain ⟨n, h1, h2⟩ := h
    exact ⟨n, tyx_same e h1, h2⟩
theorem kit_str : kitB "str" "str" = some true := by decide +kernel
def wordB (l : List Nat) : Bool := decide (l.length ≤ 12) && lowB l
def signB (l : List Nat) : Bool := decide (l.length = 1) && l.all sg
def sp_is_word (K : PySem.W.Frag) : Sp := fun vs H Q _ => ∃ (x : V) (o : Option (List Nat)), vs = [x] ∧ StrIs K H x o ∧ Q (.bl (o.elim false wordB)) H
theorem ok_is_word : FnOk P w K mg base CX0 2 T.f_is_word T.fd_is_word ["value"] (sp_is_word K) := by
  refine T.F_is_word.ok sc_is_word (fun vs H Q E h => ?_) (fun cdv A outer s H vs Q E hr h => ?_)
  · obtain ⟨x, o, rfl, _⟩ := h
    rfl
  · obtain ⟨x, o, rfl, hx, q⟩ := h
    refine ⟨_, (pss_one (ps_ret (pe_and (pe_callB call_isi (by rfl) T.m_isinstance (by decide +kernel) (pa_cons (pv 0) (pa_cons (pe_bltn (v := .ty "str") (by rfl) T.m_str (by decide +kernel) rfl) pa_nil))) (pe_and (pe_cmpR op_le (pe_callB call_len_str (by rfl) T.m_len PySem.boot_len (pa_cons (pv 0) pa_nil)) (pe_glob (v := .int 12) (by rfl) T.c_MOST_LETTERS ⟨_, rfl⟩) (nomark _)) (pe_one (pe_call (ok_are_letters T) (hr.mono (by decide)) (by rfl) T.g_are_letters T.F_are_letters.kp T.b_are_letters .nil pass0 (pa_cons (pv 0) pa_nil))))))), ?_⟩
    cases o with
    | none =>
      obtain ⟨n, h1, h2⟩ := hx
      exact ⟨x, rfl, x, _, _, _, false, rfl, .ty _, h1, kit_ty h2, _, rfl, iteF q⟩
    | some l =>
      obtain ⟨rfl, hl⟩ := hx
      refine ⟨_, rfl, _, _, _, _, true, rfl, .ty _, .base (.str (S l)), kit_ty kit_str, _, rfl, ?_⟩
      refine iteT (B := _) ?_
      have q' : Q (.bl (decide (l.length ≤ 12) && lowB l)) H := q
      have e1 : decide (((S l).length : Int) ≤ 12) = decide (l.length ≤ 12) := by
        rw [S_len]
        by_cases h : l.length ≤ 12
        · rw [decide_eq_true h, decide_eq_true (by omega)]
        · rw [decide_eq_false h, decide_eq_false (by omega)]
      refine ⟨_, rfl, S l, rfl, by rw [S_len]; exact Nat.le_trans hl (by decide), _, _, rfl, rfl, _, rfl, ?_⟩
      rw [e1]
      cases h : decide (l.length ≤ 12) with
      | true =>
        rw [h] at q'
        refine iteT (B := _) ?_
        exact ⟨_, rfl, l, rfl, q'⟩
      | false =>
        rw [h] at q'
        exact iteF q'
theorem StrIs.ext {K : PySem.W.Frag} {H H' : Hp} {x : V} {o : Option (List Nat)} (e : ExtN H H') (h : StrIs K H x o) : StrIs K H' x o := by
  cases o with
  | none =>
    obtain ⟨n, h1, h2⟩ := h
    exact ⟨n, tyx_ext e h1, h2⟩
  | some l => exact h
def sp_is_text (K : PySem.W.Frag) : Sp := fun vs H Q _ => ∃ (x : V) (o : Option (List Nat)), vs = [x] ∧ StrIs K H x o ∧ Q (.bl (o.elim false textB)) H
theorem ok_is_text : FnOk P w K mg base CX0 2 T.f_is_text T.fd_is_text ["value"] (sp_is_text K) := by
  refine okT T.F_is_text sc_is_text (by decide +kernel) (by decide) (fun vs H Q E h => ?_) (fun cdv A outer s H vs Q E hr h => ?_)
  · obtain ⟨x, o, rfl, _⟩ := h
    rfl
  · obtain ⟨x, o, rfl, hx, q⟩ := h
    refine ⟨_, (psst_cons (PST.of (ps_if (PW.pt (pw_or (pt_not (pt_val (pe_callB call_isi (by rfl) T.m_isinstance (by decide +kernel) (pa_cons (pv 0) (pa_cons (pe_bltn (v := .ty "str") (by rfl) T.m_str (by decide +kernel) rfl) pa_nil))))) (pw_or1 (pt_cmpR op_gt (pe_callB call_len_str (by rfl) T.m_len PySem.boot_len (pa_cons (pv 0) pa_nil)) (pe_glob (v := .int 200000) (by rfl) T.c_MOST_SIGNS ⟨_, rfl⟩) (nomark _)))))
      (pss_one (ps_ret pe_bl))
      pss_nil))
    (psst_cons (pst_set (i := 1) sc_is_text.nd rfl (.inl rfl) (CwR.pet_replC (pv 0)))
    (PSsT.of (pss_one (ps_ret (pe_or (pe_cmpR op_eq (pv 1) pe_str (nomark _)) (pe_one (pe_call (ok_are_letters T) (hr.mono (by decide)) (by rfl) T.g_are_letters T.F_are_letters.kp T.b_are_letters .nil pass0 (pa_cons (pv 1) pa_nil))))))))), ?_⟩
    cases o with
    | none =>
      obtain ⟨n, h1, h2⟩ := hx
      refine ⟨x, rfl, x, _, _, _, false, rfl, .ty _, h1, kit_ty h2, _, rfl, ?_⟩
      refine iteT (B := _) ?_
      refine iteT (B := _) ?_
      exact q
    | some l =>
      obtain ⟨rfl, hl⟩ := hx
      refine ⟨_, rfl, _, _, _, _, true, rfl, .ty _, .base (.str (S l)), kit_ty kit_str, _, rfl, ?_⟩
      refine iteF (A := _) ?_
      have q' : Q (.bl (decide (l.length ≤ 200000) && l.all sg)) H := q
      have e1 : decide ((200000 : Int) < ((S l).length : Int)) = !decide (l.length ≤ 200000) := by
        rw [S_len]
        by_cases h : l.length ≤ 200000
        · rw [decide_eq_true h, decide_eq_false (by omega)]
          rfl
        · rw [decide_eq_false h, decide_eq_true (by omega)]
          rfl
      refine ⟨_, rfl, S l, rfl, by rw [S_len]; exact Nat.le_trans hl (by decide), _, _, rfl, rfl, _, rfl, ?_⟩
      rw [e1]
      cases h : decide (l.length ≤ 200000) with
      | false =>
        rw [h] at q'
        refine iteT (B := _) ?_
        exact q'
      | true =>
        rw [h] at q'
        have h' : l.length ≤ 200000 := of_decide_eq_true h
        refine iteF (A := _) ?_
        refine ⟨_, rfl, S l, rfl, by rw [S_len]; show l.length + (l.length + 1) * 0 ≤ 16777216; omega, ?_⟩
        have eR : Txt.replace (S l) " " "" = S (l.filter (· != 32)) := replace_S l
        rw [eR]
        have q2 : Q (.bl ((l.filter (· != 32)).isEmpty || lowB (l.filter (· != 32)))) H := by
          rw [text_filter]
          exact q'
        refine ⟨_, rfl, rfl, _, rfl, ?_⟩
        rw [S_nil]
        cases hE : (l.filter (· != 32)).isEmpty with
        | true =>
          rw [hE] at q2
          refine iteT (B := _) ?_
          exact q2
        | false =>
          rw [hE] at q2
          refine iteF (A := _) ?_
          exact ⟨_, rfl, _, rfl, q2⟩
/-! ### books -/
def tx (l : List Nat) : V := .str (S l)
def txtV : V → Option (List Nat)
  | .str x => some x.cps.toList
  | _ => none
theorem txt_tx (l : List Nat) : txtV (tx l) = some l := by
  unfold txtV tx
  simp [S]
theorem tx_txt {v : V} {l : List Nat} (h : txtV v = some l) : v = tx l := by
  cases v with
  | str x =>
    have e : x.cps.toList = l := Option.some.inj h
    show V.str x = V.str (S l)
    rw [← e, S_of]
  | _ => cases h
theorem nodup_some {α : Type} : ∀ {l : List α}, l.Nodup → (l.map some).Nodup
  | [], _ => List.nodup_nil
  | a :: r, h => by
    rw [List.nodup_cons] at h
    rw [List.map_cons, List.nodup_cons]
    refine ⟨fun m => ?_, nodup_some h.2⟩
    obtain ⟨b, hb, e⟩ := List.mem_map.mp m
    exact h.1 (Option.some.inj e ▸ hb)
def wordV (v : V) : Bool := (txtV v).elim false wordB
theorem words_strs : ∀ (vs : List V), vs.all wordV = true → ∃ ls : List (List Nat), vs = ls.map tx ∧ vs.map txtV = ls.map some
  | [], _ => ⟨[], rfl, rfl⟩
  | v :: r, h => by
    rw [List.all_cons, Bool.and_eq_true] at h
    obtain ⟨ls, e1, e2⟩ := words_strs r h.2
    have h1 := h.1
    unfold wordV at h1
    cases ht : txtV v with
    | none =>
      rw [ht] at h1
      cases h1
    | some l => exact ⟨l :: ls, by rw [List.map_cons, ← e1, tx_txt ht], by rw [List.map_cons, List.map_cons, e2, ht]⟩
theorem nodup_map_S : ∀ (ls : List (List Nat)), (ls.map S).Nodup ↔ (ls.map some).Nodup
  | [] => by simp
  | l :: r => by
    rw [List.map_cons, List.map_cons, List.nodup_cons, List.nodup_cons, nodup_map_S r]
    have e : S l ∈ r.map S ↔ some l ∈ r.map some := by
      constructor
      · intro m
        obtain ⟨k, hk, e⟩ := List.mem_map.mp m
        have : k = l := by
          have := congrArg (fun z : Str => z.cps.toList) e
          simpa [S] using this
        rw [← this]
        exact List.mem_map.mpr ⟨k, hk, rfl⟩
      · intro m
        obtain ⟨k, hk, e⟩ := List.mem_map.mp m
        cases e
        exact List.mem_map.mpr ⟨l, hk, rfl⟩
    rw [e]
def wordsB (m : Nat) (os : List (Option (List Nat))) : Bool := decide (1 ≤ os.length) && decide (os.length ≤ m) && (os.all (fun o => o.elim false wordB) && decide os.Nodup)
/-- what is told as words, and which they are if they are any -/
def WArg (K : PySem.W.Frag) (H : Hp) (x : V) (m : Nat) (o : Option (List (List Nat))) : Prop :=
  (o = none ∧ ∃ n, TyX K H x (.type n) ∧ PySem.W.kitAny K (.type n) [.type "list", .type "tuple"] = some false) ∨
  ∃ (a : Addr) (vs : List V), x = .ref a ∧ SqQ K H a vs ∧ vs.length ≤ 4000 ∧ (∀ v ∈ vs, StrIs K H v (txtV v)) ∧ wordsB m (vs.map txtV) = o.isSome ∧ ∀ ws, o = some ws → vs = ws.map tx
theorem WArg.same {K : PySem.W.Frag} {H H' : Hp} {x : V} {m : Nat} {o : Option (List (List Nat))} (e : Same H H') (h : WArg K H x m o) : WArg K H' x m o := by
  rcases h with ⟨h1, n, h2, h3⟩ | ⟨a, vs, h1, h2, h3, h4, h5, h6⟩
  · exact .inl ⟨h1, n, tyx_same e h2, h3⟩
  · exact .inr ⟨a, vs, h1, Same.q e h2, h3, fun v m => (h4 v m).same e, h5, h6⟩
theorem WArg.ext {K : PySem.W.Frag} {H H' : Hp} {x : V} {m : Nat} {o : Option (List (List Nat))} (e : ExtN H H') (h : WArg K H x m o) : WArg K H' x m o := by
  rcases h with ⟨h1, n, h2, h3⟩ | ⟨a, vs, h1, h2, h3, h4, h5, h6⟩
  · exact .inl ⟨h1, n, tyx_ext e h2, h3⟩
  · exact .inr ⟨a, vs, h1, h2.imp (sqL_ext e) (sqT_ext e), h3, fun v m => (h4 v m).ext e, h5, h6⟩
theorem words_arg {K : PySem.W.Frag} {H : Hp} {a : Addr} {ws : List (List Nat)} {m : Nat} (h : SqQ K H a (ws.map tx)) (l1 : 1 ≤ ws.length) (l2 : ws.length ≤ m) (l3 : m ≤ 4000) (hw : ∀ w ∈ ws, wordB w = true) (nd : ws.Nodup) : WArg K H (.ref a) m (some ws) := by
  refine .inr ⟨a, _, rfl, h, by rw [List.length_map]; omega, fun v hv => ?_, ?_, fun ws' e => by cases e; rfl⟩
  · obtain ⟨w, hwm, rfl⟩ := List.mem_map.mp hv
    rw [txt_tx]
    refine ⟨rfl, ?_⟩
    have := hw w hwm
    unfold wordB at this
    rw [Bool.and_eq_true, decide_eq_true_eq] at this
    omega
  · have e : (ws.map tx).map txtV = ws.map some := by
      rw [List.map_map]
      refine List.map_congr_left fun w _ => ?_
      exact txt_tx w
    rw [e]
    unfold wordsB
    rw [List.length_map, decide_eq_true l1, decide_eq_true l2]
    simp only [Bool.true_and, Option.isSome_some, Bool.and_eq_true, decide_eq_true_eq]
    refine ⟨?_, ?_⟩
    · rw [List.all_map, List.all_eq_true]
      exact fun w hwm => hw w hwm
    · exact nodup_some nd
def sp_are_words (K : PySem.W.Frag) : Sp := fun vs H Q _ => ∃ (x : V) (m : Nat) (o : Option (List (List Nat))), vs = [x, .int m] ∧ WArg K H x m o ∧ ∀ H', Same H H' → Q (.bl o.isSome) H'
theorem ok_are_words : FnOk P w K mg base CX0 3 T.f_are_words T.fd_are_words ["value", "most"] (sp_are_words K) := by
  refine T.F_are_words.ok sc_are_words (fun vs H Q E h => ?_) (fun cdv A outer s H vs Q E hr h => ?_)
  · obtain ⟨x, m, o, rfl, _⟩ := h
    rfl
  · obtain ⟨x, m, o, rfl, h, q⟩ := h
    refine ⟨_, (pss_cons (ps_if (PW.pt (pw_or (pt_not (pt_val (pe_call (ok_is_list T) (hr.mono (by decide)) (by rfl) T.g_is_list T.F_is_list.kp T.b_is_list .nil pass0 (pa_cons (pv 0) pa_nil)))) (pw_or1 (pt_not (pt_chain op_le op_le pe_int (pe_callB call_len_seq (by rfl) T.m_len PySem.boot_len (pa_cons (pv 0) pa_nil)) (pv 1))))))
      (pss_one (ps_ret pe_bl))
      pss_nil)
    (pss_one (ps_ret (pe_and (pe_callB (cr_all rfl) (by rfl) T.m_all (by decide +kernel) (pa_cons (pe_lc (own := [("word", 2)]) rfl sc_are_words.nd (pi_seq (pv 0)) (blkOk_by (own := [("word", 2)]) (N := ["value", "most", "word"]) (sc := defScope s_are_words) (by decide +kernel)) (fun _ _ _ _ _ => (pg_name (i := 2) sc_are_words.nd rfl (.inl rfl))) (fun _ _ _ _ _ => pts_nil) (fun _ _ _ _ _ => (pe_call (ok_is_word T) (hr.mono (by decide)) (by rfl) T.g_is_word T.F_is_word.kp T.b_is_word .nil pass0 (pa_cons (pv 2) pa_nil)))) pa_nil)) (pe_one (pe_cmpR op_eq (pe_lenSetN (by rfl) T.m_len (by rfl) T.m_set (pv 0)) (pe_callB call_len_seq (by rfl) T.m_len PySem.boot_len (pa_cons (pv 0) pa_nil)) (nomark _))))))), ?_⟩
    rcases h with ⟨rfl, n, ht, hk⟩ | ⟨a, ws, rfl, hq, hl, hw, hb, _⟩
    · refine go_seq (go_if (go_or2 (go_not (go_b ⟨x, rfl, x, n, false, rfl, ht, hk, fun H1 e1 => ⟨_, rfl, iteT (B := _) (iteT (B := _) (go_ret (q H1 e1)))⟩⟩))))
    · obtain ⟨n, ht, hk⟩ := isl_q hq
      refine go_seq (go_if (go_or2 (go_not (go_b ⟨_, rfl, _, n, true, rfl, ht, hk, fun H1 e1 => ⟨_, rfl, iteF (A := _) ?_⟩⟩))))
      have hb' : (decide (1 ≤ ws.length) && decide (ws.length ≤ m) && (ws.all wordV && decide (ws.map txtV).Nodup)) = o.isSome := by
        rw [← hb]
        unfold wordsB
        rw [List.length_map, List.all_map]
        rfl
      have f1 : decide ((1 : Int) ≤ (ws.length : Int)) = decide (1 ≤ ws.length) := by
        by_cases h : 1 ≤ ws.length
        · rw [decide_eq_true h, decide_eq_true (by omega)]
        · rw [decide_eq_false h, decide_eq_false (by omega)]
      have f2 : decide ((ws.length : Int) ≤ (m : Int)) = decide (ws.length ≤ m) := by
        by_cases h : ws.length ≤ m
        · rw [decide_eq_true h, decide_eq_true (by omega)]
        · rw [decide_eq_false h, decide_eq_false (by omega)]
      refine go_not (go_test (go_chain (go_c (go_cb (go_cons (go_var rfl (go_nil ⟨a, ws, rfl, Same.q e1 hq, ?_⟩)))))))
      refine ⟨_, _, rfl, rfl, _, rfl, ?_⟩
      rw [f1]
      refine iteC (fun h1 => ?_) (fun h1 => ?_)
      · refine go_var rfl ⟨_, _, rfl, rfl, _, rfl, ?_⟩
        rw [f2]
        rw [h1, Bool.true_and] at hb'
        refine iteC (fun h2 => ?_) (fun h2 => ?_)
        · have h2 : decide (ws.length ≤ m) = false := by simpa using h2
          rw [h2, Bool.false_and] at hb'
          rw [← hb'] at q
          exact go_ret (q H1 e1)
        · have h2 : decide (ws.length ≤ m) = true := by simpa using h2
          rw [h2, Bool.true_and] at hb'
          dsimp only [tNext]
          refine go_ret (go_and (go_cb (go_cons (lc_seqmap (a := a) (xs := ws) (fun v => .bl (wordV v)) (by exact rfl) (Same.q e1 hq) (by omega) (fun i v Hc Q' R' hv e2 q' => ?_) (fun D Hc e2 hD => ?_)))))
          · refine ⟨rfl, ?_⟩
            refine iteT (B := True) ?_
            exact ⟨_, rfl, v, txtV v, rfl, ((hw v (List.mem_of_getElem? hv)).same e1).same e2, q' Hc (Same.refl _)⟩
          · refine ⟨D, ws.map wordV, rfl, .inl (.inl (by rw [hD, List.map_map]; rfl)), ?_⟩
            rw [List.all_map]
            refine ⟨_, rfl, iteC (fun h3 => ?_) (fun h3 => ?_)⟩
            · have h3 : ws.all wordV = true := h3
              rw [h3, Bool.true_and] at hb'
              obtain ⟨ls, e3, e4⟩ := words_strs ws h3
              refine go_op ⟨_, rfl, a, ls.map S, rfl, ?_, ?_, ?_⟩
              · have : (ls.map S).map V.str = ws := by
                  rw [List.map_map, e3]
                  rfl
                rw [this]
                exact Same.q (e1.trans e2) hq
              · rw [List.length_map]
                rw [e3, List.length_map] at hl
                exact hl
              refine go_cb (go_cons (go_var rfl (go_nil ⟨a, ws, rfl, Same.q (e1.trans e2) hq, rfl, ?_⟩)))
              have e5 : decide (V.int ((onceS (ls.map S)).length : Nat) = V.int (ws.length : Nat)) = o.isSome := by
                rw [← hb', e4]
                have hz : ws.length = (ls.map S).length := by rw [e3, List.length_map, List.length_map]
                have h := (onceS_nodup (ls.map S)).trans (nodup_map_S ls)
                by_cases hd : (ls.map some).Nodup
                · rw [decide_eq_true hd, decide_eq_true]
                  rw [h.mpr hd, hz]
                · rw [decide_eq_false hd, decide_eq_false]
                  intro e
                  injection e with e
                  exact hd (h.mp (by omega))
              rw [e5]
              exact q _ (e1.trans e2)
            · have h3 : ws.all wordV = false := h3
              rw [h3, Bool.false_and] at hb'
              rw [← hb'] at q
              exact q _ (e1.trans e2)
      · rw [h1, Bool.false_and, Bool.false_and] at hb'
        rw [← hb'] at q
        exact ⟨_, rfl, iteT (B := _) (go_ret (q H1 e1))⟩
/-! ### Book -/
def BookAt (K : PySem.W.Frag) (C : Addr) (H : Hp) (p : Addr) (ws : List (List Nat)) : Prop := ∃ dx t, H p = some (.ins C dx [("words", .ref t)]) ∧ SqT K H t (ws.map tx) ∧ TupN K H t
theorem BookAt.same {C : Addr} {H H' : Hp} {p : Addr} {ws : List (List Nat)} (e : Same H H') (h : BookAt K C H p ws) : BookAt K C H' p ws := by
  obtain ⟨dx, t, h1, h2, h3⟩ := h
  exact ⟨dx, t, e _ _ h1, Same.t e h2, h3.same e⟩
theorem BookAt.ext {C : Addr} {H H' : Hp} {p : Addr} {ws : List (List Nat)} (e : ExtN H H') (h : BookAt K C H p ws) : BookAt K C H' p ws := by
  obtain ⟨dx, t, h1, h2, h3⟩ := h
  exact ⟨dx, t, ext_at e h1, sqT_ext e h2, h3.ext e⟩
def WSeq (K : PySem.W.Frag) (H : Hp) (x : V) (ws : List (List Nat)) : Prop := ∃ a, x = .ref a ∧ (SqL K H a (ws.map tx) ∨ (SqT K H a (ws.map tx) ∧ TupN K H a))
theorem WSeq.same {H H' : Hp} {x : V} {ws : List (List Nat)} (e : Same H H') (h : WSeq K H x ws) : WSeq K H' x ws := by
  obtain ⟨a, h1, h2 | ⟨h2, h3⟩⟩ := h
  · exact ⟨a, h1, .inl (e.seq h2)⟩
  · exact ⟨a, h1, .inr ⟨Same.t e h2, h3.same e⟩⟩
theorem BookAt.put {C : Addr} {H : Hp} {p q : Addr} {ws : List (List Nat)} {xs : List V} {o : HO} (hq : H q = some (.lst xs)) (h : BookAt K C H p ws) : BookAt K C (upd H q o) p ws := by
  obtain ⟨dx, t, h1, h2, h3⟩ := h
  refine ⟨dx, t, by rw [upd_ne (ne_of_two h1 hq (fun z => by cases z))]; exact h1, ?_, ?_⟩
  · rcases h2 with (h | ⟨ob, h⟩) | h
    · exact .inl (.inl (by rw [upd_ne (ne_of_two h hq (fun z => by cases z))]; exact h))
    · exact .inl (.inr ⟨ob, by rw [upd_ne (ne_of_two h hq (fun z => by cases z))]; exact h⟩)
    · exact .inr h
  · rcases h3 with ⟨ob, ys, h, d⟩ | h
    · exact .inl ⟨ob, ys, by rw [upd_ne (ne_of_two h hq (fun z => by cases z))]; exact h, d⟩
    · exact .inr h
def sp_Book_init (K : PySem.W.Frag) (C CB : Addr) : Sp := fun vs H Q E => ∃ (p dx : Addr) (x : V) (o : Option (List (List Nat))), vs = [.ref p, x] ∧ H p = some (.ins C dx []) ∧ WArg K H x 40 o ∧ (∀ ws, o = some ws → WSeq K H x ws) ∧ (o = none → RaisedPart E CB H "words") ∧
  ∀ ws, o = some ws → ∀ H', (∀ b u, H b = some u → b ≠ p → H' b = some u) → BookAt K C H' p ws → Q .non H'
theorem ok_Book_init : FnOk P w K mg base (L2.CX P w) 7 T.f_Book_init T.fd_Book_init ["self", "words"] (sp_Book_init K T.C_Book T.e_BadBook.C) := by
  refine T.F_Book_init.okX sc_Book_init (fun vs H Q E h => ?_) (fun cdv A outer s H vs Q E hr h => ?_)
  · obtain ⟨p, dx, x, o, rfl, _⟩ := h
    rfl
  · obtain ⟨p, dx, x, o, rfl, hp, hW, hN, he, q⟩ := h
    refine ⟨_, (pss_cons (ps_if (pt_not (pt_val (pe_call (ok_are_words T) (hr.mono (by decide)) (by rfl) T.g_are_words T.F_are_words.kp T.b_are_words .nil pass0 (pa_cons (pv 1) (pa_cons (pe_glob (v := .int 40) (by rfl) T.c_MOST_WORDS ⟨_, rfl⟩) pa_nil)))))
      (pss_one (ps_raise rfl (takes_of rfl rfl rfl rfl) (pmk_oex T.e_BadBook.oex T.e_BadBook.iC T.e_BadBook.tI (ok_init T.e_BadBook in_BadBook) (hr.mono (by decide)) T.e_BadBook.b .nil pass0 (by rfl) T.e_BadBook.gC (pa_cons pe_str pa_nil))))
      pss_nil)
    (pss_one (ps_fld (pv 0) (pe_callTy call_tuple_frz (by rfl) T.m_tuple (by decide +kernel) (pa_cons (pv 1) pa_nil)) rfl))), ?_⟩
    refine go_seq (go_if (go_not (go_b ⟨x, rfl, x, 40, o, rfl, hW, fun H1 e1 => ⟨_, rfl, ?_⟩⟩)))
    cases o with
    | none =>
      refine iteT (B := _) ?_
      exact mk_part T.e_BadBook.oex T.e_BadBook.np fun d H' e2 hd => he rfl d H' (e1.trans e2) hd
    | some ws =>
      refine iteF (A := _) ?_
      dsimp only [tNext]
      obtain ⟨a, rfl, hq⟩ := hN ws rfl
      have hp1 := e1 _ _ hp
      rcases hq with hq | ⟨hq, hn⟩
      · refine ⟨_, rfl, a, _, rfl, .inl ⟨e1.seq hq, fun t ob nt hd => ?_⟩⟩
        have hpt : p ≠ t := ne_of_none hp1 nt
        refine ⟨_, rfl, p, T.C_Book, dx, [], rfl, by rw [upd_ne hpt]; exact hp1, T.cl_Book, T.na_Book_words, by show 0 < 1000; decide, ?_⟩
        refine q ws rfl _ (fun b u hb hne => ?_) ⟨dx, t, upd_same, .inl (.inr ⟨ob, by rw [upd_ne (Ne.symm hpt), upd_same]⟩), .inl ⟨ob, _, by rw [upd_ne (Ne.symm hpt), upd_same], hd⟩⟩
        have hb1 := e1 _ _ hb
        rw [upd_ne hne, upd_ne (ne_of_none hb1 nt)]
        exact hb1
      · have hn := hn.same e1
        have hq1 := Same.t e1 hq
        refine ⟨_, rfl, a, _, rfl, .inr ⟨hq1, ?_⟩⟩
        refine ⟨_, rfl, p, T.C_Book, dx, [], rfl, hp1, T.cl_Book, T.na_Book_words, by show 0 < 1000; decide, ?_⟩
        refine q ws rfl _ (fun b u hb hne => ?_) ⟨dx, a, upd_same, sqT_put hp1 hq1, tupN_put hp1 hn⟩
        rw [upd_ne hne]
        exact e1 _ _ hb
/-- Book(x), x right words -/
theorem book_new {E : XK} {C CB x dx : Addr} {H : Hp} {v : V} {ws : List (List Nat)} {P : VK} (nx : H x = none) (ndx : H dx = none) (hW : WArg K H v 40 (some ws)) (hS : WSeq K H v ws) (q : ∀ H', Same H H' → BookAt K C H' x ws → P .non H') :
    sp_Book_init K C CB [.ref x, v] (upd (upd H dx (.own x)) x (.ins C dx [])) P E := by
  have s1 : Same H (upd (upd H dx (.own x)) x (.ins C dx [])) := fun b u h => by
    rw [upd_ne (ne_of_none h nx), upd_ne (ne_of_none h ndx)]
    exact h
  refine ⟨x, dx, v, some ws, rfl, upd_same, hW.same s1, fun ws' e => ?_, (fun e => by cases e), fun ws' e H' keep hb => q H' (fun b u h => keep b u (s1 _ _ h) (ne_of_none h nx)) ?_⟩
  · cases e
    exact hS.same s1
  · cases e
    exact hb
/-- Book(x), x no words -/
theorem book_none {E : XK} {C CB x dx : Addr} {H : Hp} {v : V} {P : VK} (nx : H x = none) (ndx : H dx = none) (hW : WArg K H v 40 none) (he : ∀ d H', Same H H' → H' d = some (.xd [("part", .str "words")]) → E (.ref CB) (some d) H') :
    sp_Book_init K C CB [.ref x, v] (upd (upd H dx (.own x)) x (.ins C dx [])) P E := by
  have s1 : Same H (upd (upd H dx (.own x)) x (.ins C dx [])) := fun b u h => by
    rw [upd_ne (ne_of_none h nx), upd_ne (ne_of_none h ndx)]
    exact h
  exact ⟨x, dx, v, none, rfl, upd_same, hW.same s1, fun ws' e => (by cases e), fun _ d H' e hd => he d H' (s1.trans e) hd, fun ws' e => by cases e⟩
end
end K10
namespace K10
open PySem PySem.Spec PyProof.Rows L2 Kx SX LamX
section
variable {P : Program} {w : World} {K : PySem.W.Frag} {mg : Str → Option Value} {base : Heap} (T : Tx K mg)
/-! ### read -/
/-- the dict of a book's words -/
def kvN : Nat → List (List Nat) → List (Key × V)
  | _, [] => []
  | i, w :: r => (.inr (S w), .int (i : Nat)) :: kvN (i + 1) r
theorem kvN_snoc : ∀ (i : Nat) (ws : List (List Nat)) (w : List Nat), kvN i (ws ++ [w]) = kvN i ws ++ [(.inr (S w), .int ((i + ws.length : Nat) : Int))]
  | i, [], w => rfl
  | i, x :: r, w => by
    show _ :: kvN (i + 1) (r ++ [w]) = _ :: (kvN (i + 1) r ++ _)
    rw [kvN_snoc (i + 1) r w, show i + 1 + r.length = i + (x :: r).length by rw [List.length_cons]; omega]
theorem S_inj {a b : List Nat} (h : S a = S b) : a = b := by
  have := congrArg (fun z : Str => z.cps.toList) h
  simpa [S] using this
theorem kvN_any : ∀ (i : Nat) (ws : List (List Nat)) (w : List Nat), w ∉ ws → ((kvN i ws).any fun kv => decide (kv.1 = (.inr (S w) : Key))) = false
  | _, [], _, _ => rfl
  | i, x :: r, w, h => by
    show (decide ((Sum.inr (S x) : Key) = .inr (S w)) || (kvN (i + 1) r).any fun kv => decide (kv.1 = (.inr (S w) : Key))) = false
    rw [kvN_any (i + 1) r w (fun m => h (List.mem_cons_of_mem _ m)), decide_eq_false fun e => h (by injection e with e; rw [S_inj e]; exact List.mem_cons_self)]
    rfl
theorem kvN_put {i : Nat} {ws : List (List Nat)} {w : List Nat} (h : w ∉ ws) : putK (kvN i ws) (.inr (S w)) (.int ((i + ws.length : Nat) : Int)) = kvN i (ws ++ [w]) := by
  unfold putK
  rw [kvN_any i ws w h, kvN_snoc]
  rfl
theorem kvN_len : ∀ (i : Nat) (ws : List (List Nat)), (kvN i ws).length = ws.length
  | _, [] => rfl
  | i, x :: r => by
    show (kvN (i + 1) r).length + 1 = _
    rw [kvN_len (i + 1) r, List.length_cons]
/-- the number of a word -/
def numOf : Nat → List (List Nat) → List Nat → Option Nat
  | _, [], _ => none
  | i, w :: r, x => if w = x then some i else numOf (i + 1) r x
theorem kvN_val : ∀ (i : Nat) (ws : List (List Nat)) (x : List Nat), valV (kvN i ws) (.inr (S x)) = (numOf i ws x).map fun k : Nat => V.int k
  | _, [], _ => rfl
  | i, w :: r, x => by
    have ih := kvN_val (i + 1) r x
    rw [show numOf i (w :: r) x = if w = x then some i else numOf (i + 1) r x from rfl]
    unfold valV at *
    show ((((Sum.inr (S w) : Key), V.int (i : Nat)) :: kvN (i + 1) r).find? fun kv => decide (kv.1 = (.inr (S x) : Key))).map (·.2) = _
    rw [List.find?_cons]
    by_cases e : w = x
    · rw [if_pos e, e]
      simp
    · rw [if_neg e, decide_eq_false fun z => e (by injection z with z; exact S_inj z)]
      exact ih
/-- the numbers that are read of a text -/
def readN (ws : List (List Nat)) (l : List Nat) : List Nat := (itemsA [] l).filterMap (numOf 0 ws)
/-- no instance of a class -/
def NotC (K : PySem.W.Frag) (C : Addr) (H : Hp) (x : V) : Prop := ∃ t, TyX K H x t ∧ PySem.W.kitOne K t (.ref C) = some false
def sp_read (K : PySem.W.Frag) (CB EB ET : Addr) : Sp := fun vs H Q E => ∃ (x y : V), vs = [x, y] ∧ ((NotC K CB H x ∧ RaisedPart E EB H "book") ∨ ∃ (bk : Addr) (ws : List (List Nat)) (o : Option (List Nat)), x = .ref bk ∧ BookAt K CB H bk ws ∧ ws.length ≤ 40 ∧ ws.Nodup ∧ StrIs K H y o ∧
  (o.elim false textB = false → RaisedPart E ET H "text") ∧ ∀ l, o = some l → textB l = true → ∀ p H', SqT K H' p ((readN ws l).map fun s : Nat => V.int s) → TupN K H' p → Same H H' → Q (.ref p) H')
theorem ok_read : FnOk P w K mg base (L2.CX P w) 6 T.f_read T.fd_read ["book", "text"] (sp_read K T.C_Book T.e_BadBook.C T.e_BadText.C) := by
  refine T.F_read.okX sc_read (fun vs H Q E h => ?_) (fun cdv A outer s H vs Q E hr h => ?_)
  · obtain ⟨x, y, rfl, _⟩ := h
    rfl
  · obtain ⟨x, y, rfl, h⟩ := h
    refine ⟨_, (pss_cons (ps_if (pt_not (pt_val (pe_callB call_isi (by rfl) T.m_isinstance (by decide +kernel) (pa_cons (pv 0) (pa_cons (pe_glob (v := .ref T.C_Book) (by rfl) T.gC_Book rfl) pa_nil)))))
      (pss_one (ps_raise rfl (takes_of rfl rfl rfl rfl) (pmk_oex T.e_BadBook.oex T.e_BadBook.iC T.e_BadBook.tI (ok_init T.e_BadBook in_BadBook) (hr.mono (by decide)) T.e_BadBook.b .nil pass0 (by rfl) T.e_BadBook.gC (pa_cons pe_str pa_nil))))
      pss_nil)
    (pss_cons (ps_if (pt_not (pt_val (pe_call (ok_is_text T) (hr.mono (by decide)) (by rfl) T.g_is_text T.F_is_text.kp T.b_is_text .nil pass0 (pa_cons (pv 1) pa_nil))))
      (pss_one (ps_raise rfl (takes_of rfl rfl rfl rfl) (pmk_oex T.e_BadText.oex T.e_BadText.iC T.e_BadText.tI (ok_init T.e_BadText in_BadText) (hr.mono (by decide)) T.e_BadText.b .nil pass0 (by rfl) T.e_BadText.gC (pa_cons pe_str pa_nil))))
      pss_nil)
    (pss_cons (ps_set (i := 4) sc_read.nd rfl (.inr rfl) (pe_dc (own := [("number", 2), ("word", 3)]) rfl sc_read.nd (pi_enumT (by rfl) T.m_enumerate (pa_cons (pe_fld (pv 0) rfl) pa_nil)) (blkOk_by (own := [("number", 2), ("word", 3)]) (N := ["book", "text", "number", "word", "numbers", "item"]) (sc := defScope s_read) (by decide +kernel)) (fun _ _ _ _ _ => (inK_pg_tup (K := K) (n := 2) (t := (gCons (gName 2) (gCons (gName 3) gNil))) rfl rfl (pgs_cons (pg_name (i := 2) sc_read.nd rfl (.inl rfl)) (pgs_cons (pg_name (i := 3) sc_read.nd rfl (.inl rfl)) pgs_nil)))) (fun _ _ _ _ _ => pts_nil) (fun _ _ _ _ _ => (pv 3)) (fun _ _ _ _ _ => (pv 2))))
    (pss_one (ps_ret (pe_callTy call_tuple_frz (by rfl) T.m_tuple (by decide +kernel) (pa_cons (pe_lc (own := [("item", 5)]) rfl sc_read.nd (pi_list (pe_split (pv 1) pe_str)) (blkOk_by (own := [("item", 5)]) (N := ["book", "text", "number", "word", "numbers", "item"]) (sc := defScope s_read) (by decide +kernel)) (fun _ _ _ _ _ => (pg_name (i := 5) sc_read.nd rfl (.inl rfl))) (fun _ _ _ _ _ => pts_one (pt_cmp (pc_din (Nat.lt_of_le_of_lt (Nat.add_le_add_left (show 1 ≤ 64 by decide) _) hr.units) (pv 5) (pv 4)) rfl)) (fun _ _ _ _ _ => (pe_dget (Nat.lt_of_le_of_lt (Nat.add_le_add_left (show 1 ≤ 64 by decide) _) hr.units) (pv 4) (pv 5) (fun _ _ => rfl)))) pa_nil))))))), ?_⟩
    rcases h with ⟨⟨t, ht, hk⟩, he⟩ | ⟨bk, ws, o, rfl, ⟨dx, t, hb, ht, htn⟩, l2, nd, hy, hE, q⟩
    · refine go_seq (go_if (go_not (go_b ⟨_, rfl, x, .ref T.C_Book, t, _, false, rfl, .own _, ht, hk, _, rfl, iteT (B := _) ?_⟩)))
      exact mk_part T.e_BadBook.oex T.e_BadBook.np he
    refine go_seq (go_if (go_not (go_b ⟨_, rfl, .ref bk, .ref T.C_Book, _, _, true, rfl, .own _, .base (.ins hb T.cl_Book T.oc_Book T.on_Book T.ot_Book T.ob_Book), kitOne_self, _, rfl, iteF (A := _) ?_⟩)))
    dsimp only [tNext]
    refine go_seq (go_if (go_not (go_b ⟨_, rfl, y, o, rfl, hy, _, rfl, ?_⟩)))
    cases hbt : o.elim false textB with
    | false =>
      refine iteT (B := _) ?_
      exact mk_part T.e_BadText.oex T.e_BadText.np (hE hbt)
    | true =>
      refine iteF (A := _) ?_
      cases o with
      | none => cases hbt
      | some l =>
        obtain ⟨rfl, hl⟩ := hy
        dsimp only [tNext]
        have lt : (ws.map tx).length = ws.length := List.length_map ..
        refine go_seq (go_asg ⟨_, rfl, bk, T.C_Book, dx, _, .ref t, rfl, hb, T.cl_Book, T.na_Book_words, rfl, t, _, rfl, ht, fun D nD => dc_it (walk_enumT (xs := ws.map tx)) (fun i H' => H' D = some (.dK (kvN 0 (ws.take i))) ∧ Same H H') ⟨upd_same, same_new nD⟩ (fun i Hc _ h => Same.t h.2 ht) (fun i x Hc Hx hi h y => ?_) (fun Hc h => ?_)⟩)
        · obtain ⟨t', x', rfl, nt, rfl, hx⟩ := y
          obtain ⟨w, hw, rfl⟩ := map_at hx
          obtain ⟨hD, e⟩ := h
          have hi' : i < ws.length := by omega
          have hDt : D ≠ t' := ne_of_none hD nt
          refine ⟨t', _, rfl, .inl (.inl upd_same), rfl, _, _, rfl, _, _, rfl, rfl, rfl, ?_⟩
          refine iteT (B := True) ?_
          refine ⟨_, rfl, _, rfl, kvN 0 (ws.take i), .inr (S w), rfl, by rw [upd_ne hDt]; exact hD, ?_, ?_, ?_⟩
          · rw [kvN_len, List.length_take]
            exact Nat.lt_of_le_of_lt (Nat.min_le_left _ _) (Nat.lt_of_lt_of_le (show i < 41 by omega) (by decide))
          · have hwi : ws[i] = w := by
              rw [List.getElem?_eq_getElem hi'] at hw
              exact Option.some.inj hw
            have hn : w ∉ ws.take i := fun m => by
              have nd2 := nd
              rw [← List.take_append_drop i ws, List.drop_eq_getElem_cons hi', hwi, List.nodup_append] at nd2
              exact nd2.2.2 w m w List.mem_cons_self rfl
            have ln : (ws.take i).length = i := by rw [List.length_take]; omega
            have := kvN_put (i := 0) hn
            rw [ln, Nat.zero_add] at this
            rw [upd_same, this, List.take_add_one, hw]
            rfl
          · exact same_set (e.trans (same_new nt)) nD
        obtain ⟨hD, e⟩ := h
        rw [lt, List.take_length] at hD
        dsimp only [gName]
        refine go_ret (go_cb (go_cons ⟨_, rfl, ⟨_, rfl⟩, S l, " ", rfl, rfl, rfl, by rw [S_len]; exact Nat.le_trans (Nat.add_le_add_right hl 2) (by decide : 1000000 + 2 ≤ sizeLine), fun p np => ?_⟩))
        rw [split_items]
        have eV : ((itemsA [] l).map S).map V.str = (itemsA [] l).map fun it => V.str (S it) := by
          rw [List.map_map]
          rfl
        rw [eV]
        have il : (itemsA [] l).length ≤ 1000000 := by
          have h1 : textB l = true := hbt
          unfold textB at h1
          rw [Bool.and_eq_true, decide_eq_true_eq] at h1
          have h3 := List.count_le_length (a := 32) (l := l)
          rw [items_length]
          omega
        have hD1 := same_new (o := HO.lst ((itemsA [] l).map fun it => V.str (S it))) np _ _ hD
        have e1 := e.trans (same_new (o := HO.lst ((itemsA [] l).map fun it => V.str (S it))) np)
        have hp1 := upd_same (H := Hc) (a := p) (o := HO.lst ((itemsA [] l).map fun it => V.str (S it)))
        generalize upd Hc p (HO.lst ((itemsA [] l).map fun it => V.str (S it))) = H1 at hD1 e1 hp1 ⊢
        refine ⟨p, rfl, ⟨_, .inl (.inl hp1)⟩, fun D2 nD2 => lc_keep (walk_list (xs := (itemsA [] l).map fun it => V.str (S it))) ((itemsA [] l).map fun it => (numOf 0 ws it).map fun k : Nat => V.int k) (by rw [List.length_map, List.length_map]) nD2 (by rw [List.length_map]; exact il) (fun Hd e2 => .inl (.inl (e2 _ _ hp1))) (fun i x z Hd Hx Q' R' _ hzi e2 y q' r' => ?_) (fun Hd e2 hD2 => ?_)⟩
        · obtain ⟨rfl, hx⟩ := y
          obtain ⟨it, hit, rfl⟩ := map_at hx
          obtain ⟨it2, hit2, rfl⟩ := map_at hzi
          rw [hit] at hit2
          cases hit2
          have hDd := e2 _ _ hD1
          have gd := DGet.k (k := .inr (S it)) hDd
          rw [kvN_val] at gd
          refine ⟨rfl, ?_⟩
          refine ⟨_, rfl, _, rfl, D, _, rfl, gd, _, rfl, ?_⟩
          cases hk : numOf 0 ws it with
          | none =>
            refine iteF (A := _) ?_
            exact r' _ (by rw [hk]; rfl) (Same.refl _)
          | some k =>
            rw [hk] at gd
            refine iteT (B := _) ?_
            exact ⟨_, rfl, _, rfl, D, _, rfl, gd, q' _ _ (by rw [hk]; rfl) (Same.refl _)⟩
        · have eR : (((itemsA [] l).map fun it => (numOf 0 ws it).map fun k : Nat => V.int k).filterMap id) = (readN ws l).map fun s : Nat => V.int s := by
            unfold readN
            rw [List.filterMap_map, List.map_filterMap]
            rfl
          rw [eR] at hD2
          refine go_nil ⟨D2, _, rfl, .inl ⟨.inl (.inl hD2), fun t2 o nt hdn => ?_⟩⟩
          exact q l rfl hbt t2 _ (.inl (.inr ⟨o, upd_same⟩)) (.inl ⟨o, _, upd_same, hdn⟩) ((e1.trans e2).trans (same_new nt))
end
end K10
namespace K10
open PySem PySem.Spec PyProof.Rows L2 Kx SX LamX
section
variable {P : Program} {w : World} {K : PySem.W.Frag} {mg : Str → Option Value} {base : Heap} (T : Tx K mg)
def iv (d : List Nat) : List Int := d.map fun s : Nat => (s : Int)
def nv (d : List Nat) : List V := (iv d).map V.int
theorem nv_len (d : List Nat) : (nv d).length = d.length := by
  unfold nv iv
  rw [List.length_map, List.length_map]
theorem nv_app (d e : List Nat) : nv (d ++ e) = nv d ++ nv e := by
  unfold nv iv
  rw [List.map_append, List.map_append]
theorem nv_flat (d : List Nat) : (nv d).all flatV = true := by
  rw [List.all_eq_true]
  intro v hv
  obtain ⟨_, _, rfl⟩ := List.mem_map.mp hv
  rfl
theorem nv_mem {d : List Nat} {v : V} (h : v ∈ nv d) : ∃ z ∈ d, v = .int (z : Nat) := by
  obtain ⟨i, hi, rfl⟩ := List.mem_map.mp h
  obtain ⟨z, hz, rfl⟩ := List.mem_map.mp hi
  exact ⟨z, hz, rfl⟩
theorem iv_nil {d : List Nat} : iv d = [] ↔ d = [] := by
  unfold iv
  exact List.map_eq_nil_iff
theorem nv_at {d : List Nat} {s : Nat} (h : s < d.length) : atI (nv d) (s : Int) = some (.int (d.getD s 0 : Nat)) := by
  rw [at_nat (by rw [nv_len]; exact h)]
  unfold nv iv
  simp [List.getD_eq_getElem?_getD, h]
theorem nv_get {d : List Nat} {j : Nat} {x : V} (h : (nv d)[j]? = some x) : j < d.length ∧ x = V.int (d.getD j 0 : Nat) := by
  have hj := (List.getElem?_eq_some_iff.mp h).1
  rw [nv_len] at hj
  refine ⟨hj, ?_⟩
  have h2 := nv_at (d := d) hj
  rw [at_nat (by rw [nv_len]; exact hj)] at h2
  rw [List.getElem?_eq_getElem (by rw [nv_len]; exact hj)] at h
  exact (Option.some.inj (h2.symm.trans h)).symm
theorem getD_lt {f : List Nat} {j m : Nat} (hj : j < f.length) (h : ∀ s ∈ f, s < m) : f.getD j 0 < m := by
  rw [List.getD_eq_getElem?_getD, List.getElem?_eq_getElem hj]
  exact h _ (List.getElem_mem ..)
/-- what is told as a row of a book of n words, and whether it is one -/
def RowArg (K : PySem.W.Frag) (H : Hp) (x : V) (n : Nat) (b : Bool) : Prop := (b = false ∧ ∃ t, TyX K H x (.type t) ∧ PySem.W.kitAny K (.type t) [.type "list", .type "tuple"] = some false) ∨
  ∃ (a : Addr) (vs : List V), x = .ref a ∧ SqQ K H a vs ∧ vs.length ≤ 20000 ∧ (∀ v ∈ vs, HasInt K H v) ∧ b = (decide (vs.length ≤ 10000) && vs.all fun v => withinV v (some 0) (some ((n : Int) - 1)))
def sp_is_row (K : PySem.W.Frag) (CB : Addr) : Sp := fun vs H Q _ => ∃ (bk : Addr) (ws : List (List Nat)) (x : V) (b : Bool), vs = [.ref bk, x] ∧ BookAt K CB H bk ws ∧ RowArg K H x ws.length b ∧ ∀ H', Same H H' → Q (.bl b) H'
theorem ok_is_row : FnOk P w K mg base CX0 3 T.f_is_row T.fd_is_row ["book", "value"] (sp_is_row K T.C_Book) := by
  refine T.F_is_row.ok sc_is_row (fun vs H Q E h => ?_) (fun cdv A outer s H vs Q E hr h => ?_)
  · obtain ⟨bk, ws, x, b, rfl, _⟩ := h
    rfl
  · obtain ⟨bk, ws, x, b, rfl, hB, h, q⟩ := h
    refine ⟨_, (pss_cons (ps_if (PW.pt (pw_or (pt_not (pt_val (pe_call (ok_is_list T) (hr.mono (by decide)) (by rfl) T.g_is_list T.F_is_list.kp T.b_is_list .nil pass0 (pa_cons (pv 1) pa_nil)))) (pw_or1 (pt_cmpR op_gt (pe_callB call_len_seq (by rfl) T.m_len PySem.boot_len (pa_cons (pv 1) pa_nil)) (pe_glob (v := .int 10000) (by rfl) T.c_MOST_NUMBERS ⟨_, rfl⟩) (nomark _)))))
      (pss_one (ps_ret pe_bl))
      pss_nil)
    (pss_one (ps_ret (pe_callB (cr_all rfl) (by rfl) T.m_all (by decide +kernel) (pa_cons (pe_lc (own := [("number", 2)]) rfl sc_is_row.nd (pi_seq (pv 1)) (blkOk_by (own := [("number", 2)]) (N := ["book", "value", "number"]) (sc := defScope s_is_row) (by decide +kernel)) (fun _ _ _ _ _ => (pg_name (i := 2) sc_is_row.nd rfl (.inl rfl))) (fun _ _ _ _ _ => pts_nil) (fun _ _ _ _ _ => (pe_call (ok_is_within T) (hr.mono (by decide)) (by rfl) T.g_is_within T.F_is_within.kp T.b_is_within .nil pass0 (pa_cons (pv 2) (pa_cons pe_int (pa_cons (pe_op op_sub (pe_callB (inK_call_len_seq (K := K) rfl) (by rfl) T.m_len PySem.boot_len (pa_cons (inK_pe_fld (K := K) rfl (pv 0) rfl) pa_nil)) pe_int) pa_nil)))))) pa_nil))))), ?_⟩
    rcases h with ⟨rfl, n, ht, hk⟩ | ⟨a, xs, rfl, hq, hl, hw, rfl⟩
    · refine go_seq (go_if (go_or2 (go_not (go_b ⟨x, rfl, x, n, false, rfl, ht, hk, fun H1 e1 => ⟨_, rfl, iteT (B := _) (iteT (B := _) (go_ret (q H1 e1)))⟩⟩))))
    · obtain ⟨n, ht, hk⟩ := isl_q hq
      refine go_seq (go_if (go_or2 (go_not (go_b ⟨_, rfl, _, n, true, rfl, ht, hk, fun H1 e1 => ⟨_, rfl, iteF (A := _) ?_⟩⟩))))
      refine go_test (go_op (go_cb (go_cons (go_var rfl (go_nil ⟨a, _, rfl, Same.q e1 hq, ?_⟩)))))
      refine ⟨_, _, rfl, rfl, _, rfl, ?_⟩
      have e2 : decide ((10000 : Int) < (xs.length : Int)) = !decide (xs.length ≤ 10000) := by
        by_cases h : xs.length ≤ 10000
        · rw [decide_eq_true h, decide_eq_false (by omega)]
          rfl
        · rw [decide_eq_false h, decide_eq_true (by omega)]
          rfl
      show if decide ((10000 : Int) < (xs.length : Int)) = true then _ else _
      rw [e2]
      cases h : decide (xs.length ≤ 10000) with
      | false =>
        rw [h, Bool.false_and] at q
        refine iteT (B := _) ?_
        exact go_ret (q H1 e1)
      | true =>
        rw [h, Bool.true_and] at q
        refine iteF (A := _) ?_
        dsimp only [tNext]
        have lw : ((ws.map tx).length : Int) - 1 = (ws.length : Int) - 1 := by rw [List.length_map]
        refine go_ret (go_cb (go_cons (lc_seqmap (a := a) (xs := xs) (fun v => .bl (withinV v (some 0) (some ((ws.length : Int) - 1)))) (by exact rfl) (Same.q e1 hq) (by omega) (fun i v Hc Q' R' hv e2 q' => ?_) (fun D Hc e2 hD => ?_))))
        · obtain ⟨dx, t, hb, ht, _⟩ := (hB.same e1).same e2
          refine ⟨rfl, ?_⟩
          refine iteT (B := True) ?_
          refine ⟨_, rfl, _, rfl, bk, T.C_Book, dx, _, .ref t, rfl, hb, T.cl_Book, T.na_Book_words, rfl, t, _, rfl, .inr ht, _, _, rfl, rfl, v, some 0, some ((ws.length : Int) - 1), by show [v, V.int 0, V.int (((ws.map tx).length : Int) - 1)] = _; rw [lw]; rfl, ((hw v (List.mem_of_getElem? hv)).same e1).same e2, q' Hc (Same.refl _)⟩
        · refine go_nil ⟨D, xs.map fun v => withinV v (some 0) (some ((ws.length : Int) - 1)), rfl, .inl (.inl (by rw [hD, List.map_map]; rfl)), ?_⟩
          rw [List.all_map]
          exact q Hc (e1.trans e2)
theorem rep_flatV (v : V) (k : Nat) : (List.replicate k [v]).flatten = List.replicate k v := by
  induction k with
  | zero => rfl
  | succ k ih =>
    show [v] ++ (List.replicate k [v]).flatten = _
    rw [ih]
    rfl
def natOf : V → Nat
  | .int i => i.toNat
  | _ => 0
def cntB (vs : List V) : Bool := vs.all fun v => withinV v (some 0) (some 12)
def cntO (n : Nat) (vs : List V) : Option (List Nat) := if (decide (vs.length = n) && cntB vs) = true then some (vs.map natOf) else none
theorem cnt_nv : ∀ {vs : List V}, cntB vs = true → vs = nv (vs.map natOf) ∧ ∀ c ∈ vs.map natOf, c ≤ 12
  | [], _ => ⟨rfl, fun c h => by cases h⟩
  | v :: r, h => by
    unfold cntB at h
    rw [List.all_cons, Bool.and_eq_true] at h
    obtain ⟨h1, h2⟩ := cnt_nv (vs := r) h.2
    cases v with
    | int i =>
      have h3 : (decide ((0 : Int) ≤ i) && decide (i ≤ 12)) = true := h.1
      simp only [Bool.and_eq_true, decide_eq_true_eq] at h3
      refine ⟨?_, fun c hc => ?_⟩
      · rw [List.map_cons]
        show V.int i :: r = V.int ((i.toNat : Nat) : Int) :: nv (r.map natOf)
        rw [← h1, Int.toNat_of_nonneg h3.1]
      · rw [List.map_cons] at hc
        rcases List.mem_cons.mp hc with rfl | hc
        · show i.toNat ≤ 12
          omega
        · exact h2 c hc
    | _ => cases h.1
/-- what is told as copies of n words, and how many each has -/
def CArg (K : PySem.W.Frag) (H : Hp) (z : V) (n : Nat) (o : Option (List Nat)) : Prop := ((∃ t, TyX K H z (.type t) ∧ PySem.W.kitAny K (.type t) [.type "list", .type "tuple"] = some false) ∧ HasInt K H z ∧ o = cntO n (List.replicate n z)) ∨
  ∃ (a : Addr) (vs : List V), z = .ref a ∧ SqQ K H a vs ∧ vs.length ≤ 20000 ∧ (∀ v ∈ vs, HasInt K H v) ∧ o = cntO n vs
def sp_copies_of_words (K : PySem.W.Frag) (CB : Addr) : Sp := fun vs H Q _ => ∃ (bk : Addr) (ws : List (List Nat)) (z : V) (o : Option (List Nat)), vs = [.ref bk, z] ∧ BookAt K CB H bk ws ∧ ws.length ≤ 40 ∧ CArg K H z ws.length o ∧
  (o = none → ∀ H', Same H H' → Q .non H') ∧ ∀ cs, o = some cs → ∀ p H', SqQ K H' p (nv cs) → Same H H' → Q (.ref p) H'
theorem counts_ok {C bk : Addr} {σ : L2.St} {H : Hp} {Q : VK} {ws : List (List Nat)} {z : V} {o : Option (List Nat)} (cl : Cls K C) (na : NoAttr K C "words") (h0 : σ[0]? = some (some (.ref bk))) (h1 : σ[1]? = some (some z)) (hB : BookAt K C H bk ws) (l2 : ws.length ≤ 40) (hz : CArg K H z ws.length o)
    (q : ∀ (a : Addr) (vs : List V) (H' : Hp), SqQ K H' a vs → vs.length ≤ 20000 → (∀ v ∈ vs, HasInt K H' v) → Same H H' → o = cntO ws.length vs → Q (.ref a) H') :
    tIf (tB (tCall (sp_is_list K) [] C8.E0 (tCons (tVar 1) tNil))) (tVar 1) (tOp rRep (tLst (tCons (tVar 1) tNil)) (tCB (fun xs H_1 Q => ∃ p ys, xs = [V.ref p] ∧ (SqL K H_1 p ys ∨ SqT K H_1 p ys) ∧ Q (V.int (ys.length : Nat)) H_1) (tCons (tFld K (tVar 0) "words") tNil))) σ H Q := by
  rcases hz with ⟨⟨t, ht, hk⟩, hi, rfl⟩ | ⟨a, vs, rfl, hq, hl, hw, rfl⟩
  · have lw : (ws.map tx).length = ws.length := List.length_map ..
    obtain ⟨n, ht'⟩ : ∃ n : String, t = n := ⟨t, rfl⟩
    refine ⟨_, h1, z, t, false, rfl, ht, hk, fun H1 e1 => ⟨_, rfl, iteF (A := _) ?_⟩⟩
    refine ⟨_, h1, sz1, fun p1 n1 => ?_⟩
    have e2 := e1.trans (same_new (o := HO.lst [z]) n1)
    obtain ⟨dx, tt, hb, htt, _⟩ := hB.same e2
    refine ⟨_, h0, bk, C, dx, _, .ref tt, rfl, hb, cl, na, rfl, tt, _, rfl, .inr htt, ?_⟩
    rw [lw]
    refine ⟨p1, ws.length, _, rfl, rfl, upd_same, by omega, by omega, ?_, fun p2 n2 => ?_⟩
    · rw [Int.toNat_natCast]
      exact Nat.le_trans (show 1 * ws.length ≤ 40 by omega) (by decide)
    rw [Int.toNat_natCast, rep_flatV]
    have e3 := e2.trans (same_new (o := HO.lst (List.replicate ws.length z)) n2)
    exact q p2 _ _ (.inl (.inl (.inl upd_same))) (by rw [List.length_replicate]; omega) (fun v hv => by rw [(List.mem_replicate.mp hv).2]; exact hi.same e3) e3 rfl
  · obtain ⟨t, ht, hk⟩ := isl_q hq
    exact ⟨_, h1, .ref a, t, true, rfl, ht, hk, fun H1 e1 => ⟨_, rfl, iteT (B := _) ⟨_, h1, q a vs H1 (Same.q e1 hq) hl (fun v hv => (hw v hv).same e1) e1 rfl⟩⟩⟩
theorem ok_copies_of_words : FnOk P w K mg base CX0 3 T.f_copies_of_words T.fd_copies_of_words ["book", "copies"] (sp_copies_of_words K T.C_Book) := by
  refine T.F_copies_of_words.ok sc_copies_of_words (fun vs H Q E h => ?_) (fun cdv A outer s H vs Q E hr h => ?_)
  · obtain ⟨bk, ws, z, o, rfl, _⟩ := h
    rfl
  · obtain ⟨bk, ws, z, o, rfl, hB, l2, hz, q1, q2⟩ := h
    refine ⟨_, (pss_cons (ps_set (i := 2) sc_copies_of_words.nd rfl (.inl rfl) (pe_ifExp (pt_val (pe_call (ok_is_list T) (hr.mono (by decide)) (by rfl) T.g_is_list T.F_is_list.kp T.b_is_list .nil pass0 (pa_cons (pv 1) pa_nil))) (pv 1) (pe_op op_rep (pe_lst (pa_cons (pv 1) pa_nil)) (pe_callB call_len_seq (by rfl) T.m_len PySem.boot_len (pa_cons (pe_fld (pv 0) rfl) pa_nil)))))
    (pss_cons (ps_if (pt_cmpR op_ne (pe_callB call_len_seq (by rfl) T.m_len PySem.boot_len (pa_cons (pv 2) pa_nil)) (pe_callB call_len_seq (by rfl) T.m_len PySem.boot_len (pa_cons (pe_fld (pv 0) rfl) pa_nil)) (nomark _))
      (pss_one (ps_ret pe_non))
      pss_nil)
    (pss_cons (ps_if (pt_not (pt_val (pe_callB (cr_all rfl) (by rfl) T.m_all (by decide +kernel) (pa_cons (pe_lc (own := [("count", 3)]) rfl sc_copies_of_words.nd (pi_seq (pv 2)) (blkOk_by (own := [("count", 3)]) (N := ["book", "copies", "counts", "count"]) (sc := defScope s_copies_of_words) (by decide +kernel)) (fun _ _ _ _ _ => (pg_name (i := 3) sc_copies_of_words.nd rfl (.inl rfl))) (fun _ _ _ _ _ => pts_nil) (fun _ _ _ _ _ => (pe_call (ok_is_within T) (hr.mono (by decide)) (by rfl) T.g_is_within T.F_is_within.kp T.b_is_within .nil pass0 (pa_cons (pv 3) (pa_cons pe_int (pa_cons (pe_glob (v := .int 12) (by rfl) T.c_MOST_COPIES ⟨_, rfl⟩) pa_nil)))))) pa_nil))))
      (pss_one (ps_ret pe_non))
      pss_nil)
    (pss_one (ps_ret (pv 2)))))), ?_⟩
    refine go_seq (go_asg (counts_ok T.cl_Book T.na_Book_words rfl rfl hB l2 hz fun a xs H1 hq hl hw e1 ho => ?_))
    dsimp only [gName]
    have lw : (ws.map tx).length = ws.length := List.length_map ..
    obtain ⟨dx, tt, hb, htt, _⟩ := hB.same e1
    refine go_seq (go_if (go_test (go_op (go_cb (go_cons (go_var rfl (go_nil ⟨a, _, rfl, hq, ⟨_, rfl, bk, T.C_Book, dx, _, .ref tt, rfl, hb, T.cl_Book, T.na_Book_words, rfl, tt, _, rfl, .inr htt, rfl, _, rfl, ?_⟩⟩)))))))
    have en : (!decide (V.int (xs.length : Nat) = V.int ((ws.map tx).length : Nat))) = !decide (xs.length = ws.length) := by
      rw [lw]
      by_cases h : xs.length = ws.length
      · rw [decide_eq_true h, decide_eq_true (by rw [h])]
      · rw [decide_eq_false h, decide_eq_false fun z => h (by injection z with z; omega)]
    rw [en]
    unfold cntO at ho
    cases hn : decide (xs.length = ws.length) with
    | false =>
      rw [hn, Bool.false_and] at ho
      exact iteT (B := _) (go_ret (q1 ho H1 e1))
    | true =>
      rw [hn, Bool.true_and] at ho
      refine iteF (A := _) ?_
      dsimp only [tNext]
      refine go_seq (go_if (go_not (go_b (go_cb (go_cons (lc_seqmap (a := a) (xs := xs) (fun v => .bl (withinV v (some 0) (some 12))) (by exact rfl) hq (by omega) (fun i v Hc Q' R' hv e2 q' => ?_) (fun D Hc e2 hD => ?_)))))))
      · refine ⟨rfl, ?_⟩
        refine iteT (B := True) ?_
        exact ⟨_, rfl, v, some 0, some 12, rfl, (hw v (List.mem_of_getElem? hv)).same e2, q' Hc (Same.refl _)⟩
      · refine go_nil ⟨D, xs.map fun v => withinV v (some 0) (some 12), rfl, .inl (.inl (by rw [hD, List.map_map]; rfl)), _, rfl, ?_⟩
        have ea : ((xs.map fun v => withinV v (some 0) (some 12)).all fun b => b) = cntB xs := by
          rw [List.all_map]
          rfl
        cases hcb : cntB xs with
        | false =>
          rw [hcb] at ho ea
          rw [show ((xs.map fun v => withinV v (some 0) (some 12)).all id) = false from ea]
          exact iteT (B := _) (go_ret (q1 ho Hc (e1.trans e2)))
        | true =>
          rw [hcb] at ho ea
          rw [show ((xs.map fun v => withinV v (some 0) (some 12)).all id) = true from ea]
          refine iteF (A := _) ?_
          dsimp only [tNext]
          have hx := (cnt_nv hcb).1
          rw [hx] at hq
          exact go_ret (go_var rfl (q2 _ ho a Hc (Same.q e2 hq) (e1.trans e2)))
theorem carg_some {H : Hp} {z : V} {n : Nat} {cs : List Nat} (h : CArg K H z n (some cs)) : cs.length = n ∧ ∀ c ∈ cs, c ≤ 12 := by
  have key : ∀ vs : List V, some cs = cntO n vs → cs.length = n ∧ ∀ c ∈ cs, c ≤ 12 := fun vs e => by
    unfold cntO at e
    split at e
    · rename_i hb
      rw [Bool.and_eq_true, decide_eq_true_eq] at hb
      cases e
      exact ⟨by rw [List.length_map]; exact hb.1, (cnt_nv hb.2).2⟩
    · cases e
  rcases h with ⟨_, _, e⟩ | ⟨a, vs, _, _, _, _, e⟩
  · exact key _ e
  · exact key _ e
def spellI (ws : List (List Nat)) (cs : List Nat) (r : List Nat) : List (List Nat) := r.flatMap fun k => List.replicate (cs.getD k 0) (ws.getD k [])
/-- a row spelled -/
def spellS (ws : List (List Nat)) (cs : List Nat) (r : List Nat) : List Nat := TL.joinL [32] (spellI ws cs r)
def signsN (ws : List (List Nat)) (cs : List Nat) (r : List Nat) : Nat := (r.map fun k => cs.getD k 0 * ((ws.getD k []).length + 1)).sum
theorem spellI_sum (ws : List (List Nat)) (cs : List Nat) : ∀ r : List Nat, ((spellI ws cs r).map fun it => it.length + 1).sum = signsN ws cs r
  | [] => rfl
  | k :: r => by
    show ((List.replicate (cs.getD k 0) (ws.getD k []) ++ spellI ws cs r).map fun it => it.length + 1).sum = cs.getD k 0 * ((ws.getD k []).length + 1) + signsN ws cs r
    rw [List.map_append, List.sum_append, spellI_sum ws cs r, List.map_replicate, List.sum_replicate_nat]
theorem len_le_sum : ∀ its : List (List Nat), its.length ≤ (its.map fun it => it.length + 1).sum
  | [] => Nat.le_refl _
  | x :: r => by
    have := len_le_sum r
    rw [List.map_cons, List.sum_cons, List.length_cons]
    omega
theorem spellI_len (ws : List (List Nat)) (cs r : List Nat) : (spellI ws cs r).length ≤ signsN ws cs r := by
  rw [← spellI_sum]
  exact len_le_sum _
theorem spellI_add (ws : List (List Nat)) (cs r t : List Nat) : spellI ws cs (r ++ t) = spellI ws cs r ++ spellI ws cs t := List.flatMap_append
theorem signs_cast (ws : List (List Nat)) (cs : List Nat) : ∀ r : List Nat, (r.map fun k => ((cs.getD k 0 * ((ws.getD k []).length + 1) : Nat) : Int)).sum = (signsN ws cs r : Nat)
  | [] => rfl
  | k :: r => by
    rw [List.map_cons, List.sum_cons, signs_cast ws cs r]
    show _ = (((cs.getD k 0 * ((ws.getD k []).length + 1)) + signsN ws cs r : Nat) : Int)
    omega
theorem row_true {H : Hp} {a : Addr} {r : List Nat} {n : Nat} (h : SqQ K H a (nv r)) (l : r.length ≤ 10000) (hr : ∀ k ∈ r, k < n) : RowArg K H (.ref a) n true := by
  refine .inr ⟨a, nv r, rfl, h, by rw [nv_len]; omega, fun v hv => ?_, ?_⟩
  · obtain ⟨z, _, rfl⟩ := nv_mem hv
    exact hasInt_int _
  · rw [nv_len, decide_eq_true l, Bool.true_and, Eq.comm, List.all_eq_true]
    intro v hv
    obtain ⟨z, hz, rfl⟩ := nv_mem hv
    have := hr z hz
    show (decide ((0 : Int) ≤ (z : Int)) && decide ((z : Int) ≤ (n : Int) - 1)) = true
    rw [decide_eq_true (by omega), decide_eq_true (by omega)]
    rfl
def sp_spelled (K : PySem.W.Frag) (CB EB ER EN EM : Addr) : Sp := fun vs H Q E => ∃ (x y z : V), vs = [x, y, z] ∧ ((NotC K CB H x ∧ RaisedPart E EB H "book") ∨ ∃ (bk : Addr) (ws : List (List Nat)), x = .ref bk ∧ BookAt K CB H bk ws ∧ ws.length ≤ 40 ∧ (∀ w ∈ ws, w.length ≤ 12) ∧
  ((RowArg K H y ws.length false ∧ RaisedPart E ER H "row") ∨ (RowArg K H y ws.length true ∧ CArg K H z ws.length none ∧ RaisedPart E EN H "copies") ∨
    ∃ (a : Addr) (r cs : List Nat), y = .ref a ∧ SqQ K H a (nv r) ∧ r.length ≤ 10000 ∧ (∀ k ∈ r, k < ws.length) ∧ CArg K H z ws.length (some cs) ∧ ((200001 < signsN ws cs r ∧ RaisedPart E EM H "signs") ∨ (signsN ws cs r ≤ 200001 ∧ ∀ H', Same H H' → Q (.str (S (spellS ws cs r))) H'))))
theorem ix_q {p : Addr} {xs : List V} {i : Int} {v : V} {H : Hp} {Q : VK} (h : SqQ K H p xs) (at' : atI xs i = some v) (q : Q v H) : rIx K (.ref p) (.int i) H Q := by
  rcases h with h | h
  · exact .inl ⟨p, xs, i, v, rfl, rfl, h, at', q⟩
  · exact .inr (.inl ⟨p, xs, i, v, rfl, rfl, h, at', q⟩)
theorem tx_at {ws : List (List Nat)} {k : Nat} (h : k < ws.length) : atI (ws.map tx) (k : Int) = some (tx (ws.getD k [])) := by
  rw [at_nat (by rw [List.length_map]; exact h)]
  simp [List.getD_eq_getElem?_getD, h]
theorem CArg.same {H H' : Hp} {z : V} {n : Nat} {o : Option (List Nat)} (e : Same H H') (h : CArg K H z n o) : CArg K H' z n o := by
  rcases h with ⟨⟨t, h1, h2⟩, h3, h4⟩ | ⟨a, vs, h1, h2, h3, h4, h5⟩
  · exact .inl ⟨⟨t, tyx_same e h1, h2⟩, h3.same e, h4⟩
  · exact .inr ⟨a, vs, h1, Same.q e h2, h3, fun v m => (h4 v m).same e, h5⟩
theorem ok_spelled : FnOk P w K mg base (L2.CX P w) 7 T.f_spelled T.fd_spelled ["book", "row", "copies"] (sp_spelled K T.C_Book T.e_BadBook.C T.e_BadRow.C T.e_BadNumber.C T.e_Misfit.C) := by
  refine T.F_spelled.okX sc_spelled (fun vs H Q E h => ?_) (fun cdv A outer s H vs Q E hr h => ?_)
  · obtain ⟨x, y, z, rfl, _⟩ := h
    rfl
  · obtain ⟨x, y, z, rfl, h⟩ := h
    refine ⟨_, (pss_cons (ps_if (pt_not (pt_val (pe_callB call_isi (by rfl) T.m_isinstance (by decide +kernel) (pa_cons (pv 0) (pa_cons (pe_glob (v := .ref T.C_Book) (by rfl) T.gC_Book rfl) pa_nil)))))
      (pss_one (ps_raise rfl (takes_of rfl rfl rfl rfl) (pmk_oex T.e_BadBook.oex T.e_BadBook.iC T.e_BadBook.tI (ok_init T.e_BadBook in_BadBook) (hr.mono (by decide)) T.e_BadBook.b .nil pass0 (by rfl) T.e_BadBook.gC (pa_cons pe_str pa_nil))))
      pss_nil)
    (pss_cons (ps_if (pt_not (pt_val (pe_call (ok_is_row T) (hr.mono (by decide)) (by rfl) T.g_is_row T.F_is_row.kp T.b_is_row .nil pass0 (pa_cons (pv 0) (pa_cons (pv 1) pa_nil)))))
      (pss_one (ps_raise rfl (takes_of rfl rfl rfl rfl) (pmk_oex T.e_BadRow.oex T.e_BadRow.iC T.e_BadRow.tI (ok_init T.e_BadRow in_BadRow) (hr.mono (by decide)) T.e_BadRow.b .nil pass0 (by rfl) T.e_BadRow.gC (pa_cons pe_str pa_nil))))
      pss_nil)
    (pss_cons (ps_set (i := 3) sc_spelled.nd rfl (.inr rfl) (pe_call (ok_copies_of_words T) (hr.mono (by decide)) (by rfl) T.g_copies_of_words T.F_copies_of_words.kp T.b_copies_of_words .nil pass0 (pa_cons (pv 0) (pa_cons (pv 2) pa_nil))))
    (pss_cons (ps_if (pt_cmpR op_isN (pv 3) pe_non (nomark _))
      (pss_one (ps_raise rfl (takes_of rfl rfl rfl rfl) (pmk_oex T.e_BadNumber.oex T.e_BadNumber.iC T.e_BadNumber.tI (ok_init T.e_BadNumber in_BadNumber) (hr.mono (by decide)) T.e_BadNumber.b .nil pass0 (by rfl) T.e_BadNumber.gC (pa_cons pe_str pa_nil))))
      pss_nil)
    (pss_cons (ps_set (i := 5) sc_spelled.nd rfl (.inl rfl) (pe_op op_sub (pe_callB (cr_sum rfl) (by rfl) T.m_sum (by decide +kernel) (pa_cons (pe_lc (own := [("number", 4)]) rfl sc_spelled.nd (pi_seq (pv 1)) (blkOk_by (own := [("number", 4)]) (N := ["book", "row", "copies", "counts", "number", "signs", "items"]) (sc := defScope s_spelled) (by decide +kernel)) (fun _ _ _ _ _ => (pg_name (i := 4) sc_spelled.nd rfl (.inl rfl))) (fun _ _ _ _ _ => pts_nil) (fun _ _ _ _ _ => (pe_op op_mul (pe_ix (inK_ix_seq (K := K) rfl) (pv 3) (pv 4) (fun _ _ => rfl)) (pe_op op_add (pe_callB call_len_str (by rfl) T.m_len PySem.boot_len (pa_cons (pe_ix (inK_ix_tup (K := K) rfl) (inK_pe_fld (K := K) rfl (pv 0) rfl) (pv 4) (fun _ _ => rfl)) pa_nil)) pe_int)))) pa_nil)) pe_int))
    (pss_cons (ps_if (pt_cmpR op_gt (pv 5) (pe_glob (v := .int 200000) (by rfl) T.c_MOST_SIGNS ⟨_, rfl⟩) (nomark _))
      (pss_one (ps_raise rfl (takes_of rfl rfl rfl rfl) (pmk_oex T.e_Misfit.oex T.e_Misfit.iC T.e_Misfit.tI (ok_init T.e_Misfit in_Misfit) (hr.mono (by decide)) T.e_Misfit.b .nil pass0 (by rfl) T.e_Misfit.gC (pa_cons pe_str pa_nil))))
      pss_nil)
    (pss_cons (ps_set (i := 6) sc_spelled.nd rfl (.inl rfl) (pe_lst pa_nil))
    (pss_cons (ps_for (passes_of rfl) rfl (pi_seq (pv 1)) (pg_name (i := 4) sc_spelled.nd rfl (.inl rfl))
      (pss_one (ps_expr (pe_bm PySem.F.plainAttrs_list PySem.F.slot_list_extend PySem.F.type_list_extend mt_extend (pv 6) (pa_cons (pe_op op_rep (pe_lst (pa_cons (pe_ix ix_tup (pe_fld (pv 0) rfl) (pv 4) (fun _ _ => rfl)) pa_nil)) (pe_ix ix_seq (pv 3) (pv 4) (fun _ _ => rfl))) pa_nil)))))
    (pss_one (ps_ret (pe_join pe_str (pv 6)))))))))))), ?_⟩
    rcases h with ⟨⟨t, ht, hk⟩, he⟩ | ⟨bk, ws, rfl, hB, l2, hwl, h⟩
    · refine go_seq (go_if (go_not (go_b ⟨_, rfl, x, .ref T.C_Book, t, _, false, rfl, .own _, ht, hk, _, rfl, iteT (B := _) ?_⟩)))
      exact mk_part T.e_BadBook.oex T.e_BadBook.np he
    obtain ⟨dx, tt, hb, htt, _⟩ := id hB
    refine go_seq (go_if (go_not (go_b ⟨_, rfl, .ref bk, .ref T.C_Book, _, _, true, rfl, .own _, .base (.ins hb T.cl_Book T.oc_Book T.on_Book T.ot_Book T.ob_Book), kitOne_self, _, rfl, iteF (A := _) ?_⟩)))
    dsimp only [tNext]
    rcases h with ⟨hR, he⟩ | ⟨hR, hC, he⟩ | ⟨a, r, cs, rfl, hq, hl, hr2, hC, h⟩
    · refine go_seq (go_if (go_not (go_b ⟨_, rfl, _, rfl, bk, ws, y, false, rfl, hB, hR, fun H1 e1 => ⟨_, rfl, iteT (B := _) ?_⟩⟩)))
      exact mk_part T.e_BadRow.oex T.e_BadRow.np fun d H' e2 hd => he d H' (e1.trans e2) hd
    · refine go_seq (go_if (go_not (go_b ⟨_, rfl, _, rfl, bk, ws, y, true, rfl, hB, hR, fun H1 e1 => ⟨_, rfl, iteF (A := _) ?_⟩⟩)))
      dsimp only [tNext]
      refine go_seq (go_asg ⟨_, rfl, _, rfl, bk, ws, z, none, rfl, hB.same e1, l2, hC.same e1, (fun _ H2 e2 => ?_), fun cs e => by cases e⟩)
      dsimp only [gName]
      refine go_seq (go_if (go_test (go_op (go_var rfl ⟨rfl, _, rfl, ?_⟩))))
      rw [decide_eq_true rfl]
      refine iteT (B := _) ?_
      exact mk_part T.e_BadNumber.oex T.e_BadNumber.np fun d H' e3 hd => he d H' (e1.trans (e2.trans e3)) hd
    · refine go_seq (go_if (go_not (go_b ⟨_, rfl, _, rfl, bk, ws, .ref a, true, rfl, hB, row_true hq hl hr2, fun H1 e1 => ⟨_, rfl, iteF (A := _) ?_⟩⟩)))
      dsimp only [tNext]
      obtain ⟨lcs, cb⟩ := carg_some hC
      refine go_seq (go_asg ⟨_, rfl, _, rfl, bk, ws, z, some cs, rfl, hB.same e1, l2, hC.same e1, (fun e => by cases e), fun cs' e p H2 hp e2 => ?_⟩)
      cases e
      dsimp only [gName]
      refine go_seq (go_if (go_test (go_op (go_var rfl ⟨rfl, _, rfl, ?_⟩))))
      rw [decide_eq_false (fun z => by cases z)]
      refine iteF (A := _) ?_
      dsimp only [tNext]
      have e12 := e1.trans e2
      have hb2 := e12 _ _ hb
      have htt2 := Same.t e12 htt
      have hq2 := Same.q e12 hq
      have lw : (ws.map tx).length = ws.length := List.length_map ..
      have wl : ∀ k, ((ws.getD k []).length) ≤ 12 := fun k => by
        rw [List.getD_eq_getElem?_getD]
        cases hk : ws[k]? with
        | none => exact Nat.zero_le _
        | some x => exact hwl x (List.mem_of_getElem? hk)
      have cl : ∀ k, cs.getD k 0 ≤ 12 := fun k => by
        rw [List.getD_eq_getElem?_getD]
        cases hk : cs[k]? with
        | none => exact Nat.zero_le _
        | some x => exact cb x (List.mem_of_getElem? hk)
      refine go_seq (go_asg (go_op (go_cb (go_cons (lc_seqmap (a := a) (xs := nv r) (fun v => .int ((cs.getD (natOf v) 0 * ((ws.getD (natOf v) []).length + 1) : Nat) : Int)) (by exact rfl) hq2 (by rw [nv_len]; omega) (fun i v Hc Q' R' hv e3 q' => ?_) (fun D Hc e3 hD => ?_))))))
      · obtain ⟨k, hk, rfl⟩ := nv_mem (List.mem_of_getElem? hv)
        have hk2 := hr2 k hk
        refine ⟨rfl, ?_⟩
        refine iteT (B := True) ?_
        refine ⟨_, rfl, _, rfl, ix_q (Same.q e3 hp) (nv_at (by omega)) ?_⟩
        refine ⟨_, rfl, bk, T.C_Book, dx, _, .ref tt, rfl, e3 _ _ hb2, T.cl_Book, T.na_Book_words, rfl, _, rfl, tt, _, _, _, rfl, rfl, Same.t e3 htt2, tx_at hk2, S (ws.getD k []), rfl, ?_, _, _, rfl, rfl, _, _, rfl, rfl, ?_, ?_⟩
        · rw [S_len]
          exact Nat.le_trans (wl k) (by decide)
        · have := cl k
          exact .inl ⟨by omega, by omega⟩
        · have : V.int ((cs.getD k 0 : Nat) * (((S (ws.getD k [])).length : Nat) + 1 : Int)) = V.int ((cs.getD (natOf (.int (k : Nat))) 0 * ((ws.getD (natOf (.int (k : Nat))) []).length + 1) : Nat) : Int) := by
            rw [S_len]
            show V.int _ = V.int ((cs.getD ((k : Int).toNat) 0 * ((ws.getD ((k : Int).toNat) []).length + 1) : Nat) : Int)
            rw [Int.toNat_natCast, Int.natCast_mul, Int.natCast_add]
            rfl
          show Q' (V.int ((cs.getD k 0 : Nat) * (((S (ws.getD k [])).length : Nat) + 1 : Int))) Hc
          rw [this]
          exact q' Hc (Same.refl _)
      refine go_nil ⟨D, r.map fun k => ((cs.getD k 0 * ((ws.getD k []).length + 1) : Nat) : Int), rfl, .inl (.inl ?_), go_c ⟨_, _, rfl, rfl, ?_⟩⟩
      · rw [hD]
        unfold nv iv
        rw [List.map_map, List.map_map, List.map_map]
        rfl
      rw [signs_cast]
      have eH := e12.trans e3
      have hb3 := e3 _ _ hb2
      have htt3 := Same.t e3 htt2
      have hq3 := Same.q e3 hq2
      have hp3 := Same.q e3 hp
      clear hD hb2 htt2 hq2 hp e3 e12
      dsimp only [gName]
      refine go_seq (go_if (go_test (go_op (go_var rfl (go_c ⟨_, _, rfl, rfl, _, rfl, ?_⟩)))))
      rcases h with ⟨hbig, he⟩ | ⟨hsm, q⟩
      · rw [decide_eq_true (show (200000 : Int) < (signsN ws cs r : Int) - 1 by omega)]
        refine iteT (B := _) ?_
        exact mk_part T.e_Misfit.oex T.e_Misfit.np fun d H' e3 hd => he d H' (eH.trans e3) hd
      rw [decide_eq_false (show ¬ (200000 : Int) < (signsN ws cs r : Int) - 1 by omega)]
      refine iteF (A := _) ?_
      dsimp only [tNext]
      refine go_seq (go_asg (go_lst (go_nil ⟨Nat.zero_le _, fun D2 nD2 => ?_⟩)))
      dsimp only [gName]
      have lI : ∀ i, (spellI ws cs (r.take i)).length ≤ 200001 := fun i => by
        have h1 := spellI_len ws cs r
        have h2 := spellI_add ws cs (r.take i) (r.drop i)
        rw [List.take_append_drop] at h2
        rw [h2, List.length_append] at h1
        omega
      refine go_seq (for_seq (a := a) (xs := nv r) (H0 := Hc) (by exact rfl) hq3 (same_new nD2) (fun i σ H' => ∃ o4 : Option V, σ = [some (.ref bk), some (.ref a), some z, some (.ref p), o4, some (.int ((signsN ws cs r : Int) - 1)), some (.ref D2)] ∧ H' D2 = some (.lst ((spellI ws cs (r.take i)).map tx)) ∧ Same Hc H')
        ⟨_, rfl, upd_same, same_new nD2⟩ (fun i σ' H' _ h => ?_) (fun i v σ' Hd hv h => ?_) (fun σ' Hd h => ?_))
      · obtain ⟨_, _, _, e⟩ := h
        exact e
      · obtain ⟨o4, rfl, hD2, e⟩ := h
        obtain ⟨hi, rfl⟩ := nv_get hv
        have hk2 : r.getD i 0 < ws.length := getD_lt hi hr2
        have hri : r.take (i + 1) = r.take i ++ [r.getD i 0] := by
          rw [List.take_add_one, List.getElem?_eq_getElem hi, List.getD_eq_getElem?_getD, List.getElem?_eq_getElem hi]
          rfl
        generalize r.getD i 0 = k at hk2 hri ⊢
        have hp4 := Same.q e hp3
        have htt4 := Same.t e htt3
        have hb4 := e _ _ hb3
        dsimp only [gName]
        refine ⟨_, rfl, .inl ⟨rfl, _, .inl (.inl hD2)⟩, ?_⟩
        refine go_cons (go_op (go_lst (go_cons ?_)))
        refine ⟨_, rfl, bk, T.C_Book, dx, _, .ref tt, rfl, hb4, T.cl_Book, T.na_Book_words, rfl, _, rfl, tt, _, _, _, rfl, rfl, htt4, tx_at hk2, ?_⟩
        refine go_nil ⟨sz1, fun u1 nu1 => ?_⟩
        have x1 := same_new (o := HO.lst [tx (ws.getD k [])]) nu1
        refine ⟨_, rfl, _, rfl, ix_q (Same.q x1 hp4) (nv_at (by omega)) ?_⟩
        refine ⟨u1, (cs.getD k 0 : Nat), _, rfl, rfl, upd_same, by omega, by have := cl k; omega, ?_, fun u2 nu2 => ?_⟩
        · rw [Int.toNat_natCast]
          have := cl k
          exact Nat.le_trans (show 1 * cs.getD k 0 ≤ 12 by omega) (by decide)
        rw [Int.toNat_natCast, rep_flatV]
        have x2 := x1.trans (same_new (o := HO.lst (List.replicate (cs.getD k 0) (tx (ws.getD k [])))) nu2)
        refine go_nil ⟨D2, u2, _, _, rfl, rfl, x2 _ _ hD2, upd_same, ?_, _, rfl, ?_, ?_⟩
        · rw [List.length_map, List.length_replicate]
          have h1 := lI i
          have h2 := cl k
          exact Nat.le_trans (show (spellI ws cs (r.take i)).length + cs.getD k 0 ≤ 200013 by omega) (by decide)
        · rw [upd_same, hri, spellI_add, List.map_append]
          have : spellI ws cs [k] = List.replicate (cs.getD k 0) (ws.getD k []) ++ [] := rfl
          rw [this, List.append_nil, List.map_replicate]
        · exact same_set (e.trans x2) nD2
      · obtain ⟨o4, rfl, hD2, e⟩ := h
        rw [nv_len, List.take_length] at hD2
        have eI : (spellI ws cs r).map tx = ((spellI ws cs r).map S).map V.str := by
          rw [List.map_map]
          rfl
        rw [eI] at hD2
        have hs := spellI_sum ws cs r
        have hl2 := spellI_len ws cs r
        dsimp only
        refine go_ret ?_
        refine ⟨⟨_, rfl⟩, _, rfl, " ", D2, (spellI ws cs r).map S, rfl, rfl, .inl (.inl (.inl hD2)), ?_, ?_⟩
        · have : (((spellI ws cs r).map S).map (·.length)).sum + (spellI ws cs r).length = ((spellI ws cs r).map fun it => it.length + 1).sum := by
            generalize spellI ws cs r = l
            induction l with
            | nil => rfl
            | cons x l ih =>
              rw [List.map_cons, List.map_cons, List.map_cons, List.sum_cons, List.sum_cons, List.length_cons, S_len, ← ih]
              omega
          rw [List.length_map]
          show _ + (spellI ws cs r).length * 1 ≤ 16777216
          omega
        · have ej : Txt.join (Str.ofString " ") ((spellI ws cs r).map S) = S (spellS ws cs r) := join_S [32] (spellI ws cs r)
          rw [ej]
          exact q Hd (eH.trans e)
end
end K10
namespace K10
open PySem PySem.Spec PyProof.Rows L2 Kx SX LamX
section
variable {P : Program} {w : World} {K : PySem.W.Frag} {mg : Str → Option Value} {base : Heap} (T : Tx K mg)
/-! ### draws -/
def sp_law_write (K : PySem.W.Frag) : Sp := fun vs H Q _ => ∃ (a c : Addr) (m : Int) (n : Nat), vs = [.ref a, .int m] ∧ 0 < m ∧ m ≤ 1000000 ∧ Wh H a c n ∧ n < 1000000 ∧ ∀ (r : Int) (H' : Hp), 0 ≤ r → r < m → Mv a H H' → Wh H' a c (n + 1) → Q (.int r) H'
theorem ok_law_write : FnOk P w K mg base CX0 1 T.f_law_write T.fd_law_write ["bench", "many"] (sp_law_write K) := by
  refine T.F_law_write.ok sc_law_write (fun vs H Q E h => ?_) (fun cdv A outer s H vs Q E hr h => ?_)
  · obtain ⟨a, c, m, n, rfl, _⟩ := h
    rfl
  · obtain ⟨a, c, m, n, rfl, hm, hM, ⟨cs, t, l, h1, h2, h3, h4, h5⟩, hn, q⟩ := h
    refine ⟨_, (pss_cons (ps_if (pt_cmpR (op_eqE hr.units) (pe_ix ix_list (pv 0) pe_int (fun _ _ => rfl)) (pe_lst pa_nil) (nomark _))
      (pss_one (ps_ret pe_int))
      pss_nil)
    (pss_cons (ps_if (pt_cmpR op_gt (pe_ix ix_list (pv 0) pe_int (fun _ _ => rfl)) pe_int (nomark _))
      (pss_cons (ps_set (i := 2) sc_law_write.nd rfl (.inl rfl) (pe_callTy call_int1 (by rfl) T.m_int (by decide +kernel) (pa_cons (pe_ix ix_list (pv 0) pe_int (fun _ _ => rfl)) pa_nil)))
      (pss_cons (ps_asg (pe_op op_fdivN (pv 2) (pv 1)) (pg_sub (pv 0) pe_int set_list))
      (pss_one (ps_ret (pe_op op_modN (pe_callTy call_int1 (by rfl) T.m_int (by decide +kernel) (pa_cons (pv 2) pa_nil)) (pv 1))))))
      pss_nil)
    (pss_cons (ps_set (i := 3) sc_law_write.nd rfl (.inl rfl) (pe_ix ix_list (pv 0) pe_int (fun _ _ => rfl)))
    (pss_cons (ps_asg (pe_op op_add (pv 3) pe_int) (pg_sub (pv 0) pe_int set_list))
    (pss_cons (ps_set (i := 4) sc_law_write.nd rfl (.inl rfl) (pe_ix ix_list (pe_ix ix_list (pv 0) pe_int (fun _ _ => rfl)) (pe_op op_modN (pe_callTy call_int1 (by rfl) T.m_int (by decide +kernel) (pa_cons (pv 3) pa_nil)) (pe_callB call_len_seq (by rfl) T.m_len PySem.boot_len (pa_cons (pe_ix ix_list (pv 0) pe_int (fun _ _ => rfl)) pa_nil))) (fun _ _ => rfl)))
    (pss_cons (ps_if (PW.pt (pw_and (pt_cmpR op_lt (pv 3) (pe_callB call_len_seq (by rfl) T.m_len PySem.boot_len (pa_cons (pe_ix ix_list (pv 0) pe_int (fun _ _ => rfl)) pa_nil)) (nomark _)) (pw_and1 (pt_cmpR op_ge (pe_callB call_abs (by rfl) T.m_abs (by decide +kernel) (pa_cons (pv 4) pa_nil)) (pe_op op_pow pe_int pe_int) (nomark _)))))
      (pss_cons (ps_set (i := 2) sc_law_write.nd rfl (.inl rfl) (pe_op op_add (pe_op op_mul pe_int (pe_op op_sub (pe_callB call_abs (by rfl) T.m_abs (by decide +kernel) (pa_cons (pv 4) pa_nil)) (pe_op op_pow pe_int pe_int))) (pe_callTy call_int1 (by rfl) T.m_int (by decide +kernel) (pa_cons (pe_cmpR op_lt (pv 4) pe_int (nomark _)) pa_nil))))
      (pss_cons (ps_asg (pe_op op_fdivN (pe_callTy call_int1 (by rfl) T.m_int (by decide +kernel) (pa_cons (pv 2) pa_nil)) (pv 1)) (pg_sub (pv 0) pe_int set_list))
      (pss_one (ps_ret (pe_op op_modN (pe_callTy call_int1 (by rfl) T.m_int (by decide +kernel) (pa_cons (pv 2) pa_nil)) (pv 1))))))
      pss_nil)
    (pss_cons (ps_set (i := 5) sc_law_write.nd rfl (.inl rfl) (pe_op op_modN (pe_callTy call_int1 (by rfl) T.m_int (by decide +kernel) (pa_cons (pe_op op_pow (pe_op op_add (pe_op op_add (pe_op op_modN (pe_callTy call_int1 (by rfl) T.m_int (by decide +kernel) (pa_cons (pv 4) pa_nil)) pe_int) (pe_op op_mul pe_int (pv 3))) pe_int) pe_int) pa_nil)) pe_int))
    (pss_cons (ps_set (i := 5) sc_law_write.nd rfl (.inl rfl) (pe_op op_modN (pe_callTy call_int1 (by rfl) T.m_int (by decide +kernel) (pa_cons (pe_op op_pow (pe_op op_add (pe_op op_add (pe_op op_mul (pv 5) (pe_op op_add (pe_op op_mul pe_int (pv 3)) pe_int)) (pe_op op_mul (pe_op op_mul pe_int (pv 3)) (pv 3))) pe_int) pe_int) pa_nil)) pe_int))
    (pss_one (ps_ret (pe_op op_modN (pe_callTy call_int1 (by rfl) T.m_int (by decide +kernel) (pa_cons (pe_op op_fdivN (pv 5) pe_int) pa_nil)) (pv 1)))))))))))), ?_⟩
    have hac := wh_ac h1 h2
    have m0 : m ≠ 0 := by omega
    have mS : m.natAbs < 1073741824 := by omega
    have fin : ∀ (x y z : Int) (H' : Hp), Mv a H H' → H' a = some (.lst [.ref c, .int y, .int z]) → 0 ≤ y → y ≤ n + 1 → Q (.int (x.fmod m)) H' := fun x y z H' mv ha y0 y1 =>
      q _ _ (Int.fmod_nonneg_of_pos _ hm) (Int.fmod_lt_of_pos _ hm) mv ⟨cs, y, z, ha, mv c _ (fun e => hac e.symm) h2, h3, y0, by omega⟩
    refine ⟨_, rfl, a, _, 0, .ref c, rfl, rfl, .inl (.inl h1), rfl, Nat.zero_le _, fun p np => ⟨c, p, _, rfl, rfl, same_new np _ _ h2, upd_same, _, rfl, iteC (fun e => ?_) (fun e => ?_)⟩⟩
    · exact q 0 _ (Int.le_refl _) hm (Mv.of (same_new np)) ⟨cs, t, l, same_new np _ _ h1, same_new np _ _ h2, h3, h4, by omega⟩
    have cs0 : cs ≠ [] := fun z => by
      rw [z] at e
      cases e
    have s0 := same_new (o := HO.lst []) np
    have mv0 : Mv a H (upd H p (HO.lst [])) := Mv.of s0
    have h1 := s0 _ _ h1
    have h2' := s0 _ _ h2
    generalize upd H p (HO.lst []) = H0 at mv0 h1 h2' ⊢
    clear e s0 np
    dsimp only [tNext]
    refine ⟨_, rfl, a, _, 2, .int l, rfl, rfl, .inl (.inl h1), rfl, _, _, rfl, rfl, _, rfl, iteC (fun e => ?_) (fun e => ?_)⟩
    · refine ⟨_, rfl, a, _, 2, .int l, rfl, rfl, .inl (.inl h1), rfl, .inl ⟨l, rfl, ?_⟩⟩
      refine ⟨_, rfl, _, rfl, l, m, rfl, rfl, ⟨m0, mS⟩, _, rfl, a, _, 2, 2, rfl, rfl, h1, rfl, ?_⟩
      refine ⟨_, rfl, .inl ⟨l, rfl, _, rfl, l, m, rfl, rfl, m0, ?_⟩⟩
      exact fin _ t (l.fdiv m) _ (mv0.trans (Mv.upd _ _ _)) upd_same h4 (by omega)
    clear e
    refine ⟨_, rfl, a, _, 1, .int t, rfl, rfl, .inl (.inl h1), rfl, ?_⟩
    refine ⟨_, rfl, t, 1, rfl, rfl, _, rfl, a, _, 1, 1, rfl, rfl, h1, rfl, ?_⟩
    generalize hH1 : upd H0 a (HO.lst ([V.ref c, .int t, .int l].set 1 (.int (t + 1)))) = H2
    have a2 : H2 a = some (.lst [.ref c, .int (t + 1), .int l]) := by rw [← hH1]; exact upd_same
    have c2 : H2 c = some (.lst (cs.map V.int)) := by rw [← hH1, upd_ne (fun e => hac e.symm)]; exact h2'
    have mv2 : Mv a H H2 := by rw [← hH1]; exact mv0.trans (Mv.upd _ _ _)
    have z0 : (0 : Int) < (cs.map V.int).length := by
      cases cs with
      | nil => exact absurd rfl cs0
      | cons x xs => simp
    obtain ⟨v, hv, ev⟩ : ∃ v, v ∈ cs.map V.int ∧ atI (cs.map V.int) (t.fmod ((cs.map V.int).length : Int)) = some v := at_lt (Int.fmod_nonneg_of_pos _ z0) (Int.fmod_lt_of_pos _ z0)
    obtain ⟨i, _, rfl⟩ := List.mem_map.mp hv
    have z : ((cs.map V.int).length : Int) ≠ 0 := by omega
    refine ⟨_, rfl, a, _, 0, .ref c, rfl, rfl, .inl (.inl a2), rfl, ?_⟩
    refine ⟨_, rfl, .inl ⟨t, rfl, ?_⟩⟩
    refine ⟨_, rfl, a, _, 0, .ref c, rfl, rfl, .inl (.inl a2), rfl, c, _, rfl, .inl (.inl (.inl c2)), ?_⟩
    refine ⟨t, _, rfl, rfl, z, c, _, _, _, rfl, rfl, .inl (.inl c2), ev, ?_⟩
    refine genI (P := fun v => gName 4 v _ _ _) (fun cell => ?_)
    refine ⟨_, rfl, _, rfl, a, _, 0, .ref c, rfl, rfl, .inl (.inl a2), rfl, c, _, rfl, .inl (.inl (.inl c2)), _, _, rfl, rfl, _, rfl, cutP (fun _ r => iteF r) (fun r e => ?_) ?_⟩
    · refine ⟨_, rfl, cell, rfl, _, _, rfl, rfl, ⟨by decide, by decide, by decide⟩, _, _, rfl, rfl, _, rfl, iteC (fun e2 => ?_) (fun e2 => r)⟩
      refine ⟨_, rfl, cell, rfl, _, _, rfl, rfl, ⟨by decide, by decide, by decide⟩, _, _, rfl, rfl, _, _, rfl, rfl, .inl ⟨by decide, by decide⟩, _, rfl, _, _, rfl, rfl, .inr ⟨_, rfl, _, _, rfl, rfl, ?_⟩⟩
      refine genI (P := fun v => gName 2 v _ _ _) (fun rest => ?_)
      refine ⟨_, rfl, .inl ⟨rest, rfl, _, rfl, _, _, rfl, rfl, ⟨m0, mS⟩, _, rfl, a, _, 2, 2, rfl, rfl, a2, rfl, ?_⟩⟩
      refine ⟨_, rfl, .inl ⟨rest, rfl, _, rfl, _, _, rfl, rfl, m0, ?_⟩⟩
      exact fin _ (t + 1) _ _ (mv2.trans (Mv.upd _ _ _)) upd_same (by omega) (by omega)
    · refine ⟨_, rfl, .inl ⟨cell, rfl, _, _, rfl, rfl, (by show (_ : Int) ≠ 0; decide), _, rfl, _, _, rfl, rfl, .inl ⟨by decide, by decide⟩, _, _, rfl, rfl, _, _, rfl, rfl, _, _, rfl, rfl, ⟨by decide, by decide, bnd5 (by decide) (by decide) h4 (by omega) (by decide) (by decide) (by decide) (by decide)⟩, .inl ⟨_, rfl, _, _, rfl, rfl, (by show (_ : Int) ≠ 0; decide), ?_⟩⟩⟩
      refine genIB (P := fun v => gName 5 v _ _ _) (by decide) (fun m1 m1a m1b => ?_)
      have m1c : m1 ≤ 4294967296 := Int.le_trans (Int.le_of_lt m1b) (by decide)
      refine ⟨_, rfl, _, rfl, _, _, rfl, rfl, .inl ⟨by decide, by decide⟩, _, _, rfl, rfl, _, _, rfl, rfl, .inl ⟨by omega, by omega⟩, _, rfl, _, _, rfl, rfl, .inl ⟨by decide, by decide⟩, _, rfl, _, _, rfl, rfl, .inr ⟨by omega, by omega⟩, _, _, rfl, rfl, _, _, rfl, rfl, _, _, rfl, rfl, ⟨by decide, by decide, bnd3 m1a m1c h4 (by omega) (by decide) (by decide) (by decide) (by decide) (by decide) (by decide)⟩, .inl ⟨_, rfl, _, _, rfl, rfl, (by show (_ : Int) ≠ 0; decide), ?_⟩⟩
      refine genI (P := fun v => gName 5 v _ _ _) (fun m2 => ?_)
      refine ⟨_, rfl, _, _, rfl, rfl, ⟨by decide, by decide⟩, .inl ⟨_, rfl, _, rfl, _, _, rfl, rfl, m0, ?_⟩⟩
      exact fin _ (t + 1) _ _ mv2 a2 (by omega) (by omega)
/-- one of some things -/
def sp_law_one_of (K : PySem.W.Frag) : Sp := fun vs H Q _ => ∃ (a b c : Addr) (xs : List V) (n : Nat), vs = [.ref a, .ref b] ∧ SqL K H b xs ∧ xs ≠ [] ∧ xs.length ≤ 1000000 ∧ Wh H a c n ∧ n < 1000000 ∧ (∀ H', Mv a H H' → SqL K H' b xs) ∧ ∀ (v : V) (H' : Hp), v ∈ xs → Mv a H H' → Wh H' a c (n + 1) → Q v H'
theorem ok_law_one_of : FnOk P w K mg base CX0 2 T.f_law_one_of T.fd_law_one_of ["bench", "some"] (sp_law_one_of K) := by
  refine T.F_law_one_of.ok sc_law_one_of (fun vs H Q E h => ?_) (fun cdv A outer s H vs Q E hr h => ?_)
  · obtain ⟨a, b, c, xs, n, rfl, _⟩ := h
    rfl
  · obtain ⟨a, b, c, xs, n, rfl, hs, hx, hl, hw, hn, hm, q⟩ := h
    refine ⟨_, (pss_one (ps_ret (pe_ix ix_list (pv 1) (pe_call (ok_law_write T) (hr.mono (by decide)) (by rfl) T.g_law_write T.F_law_write.kp T.b_law_write .nil pass0 (pa_cons (pv 0) (pa_cons (pe_callB call_len_seq (by rfl) T.m_len PySem.boot_len (pa_cons (pv 1) pa_nil)) pa_nil))) (fun _ _ => rfl)))), ?_⟩
    have z : 0 < xs.length := by
      cases xs with
      | nil => exact absurd rfl hx
      | cons x t => simp
    refine ⟨_, rfl, _, rfl, _, rfl, b, xs, rfl, .inl hs, a, c, _, n, rfl, by omega, by omega, hw, hn, fun r H' r0 r1 mv w' => ?_⟩
    obtain ⟨v, hv, ev⟩ := at_lt r0 r1
    exact ⟨b, xs, r, v, rfl, rfl, hm _ mv, ev, q v H' hv mv w'⟩
def sp_law_bench (K : PySem.W.Frag) : Sp := fun vs H Q _ => ∃ (b : Addr) (xs : List Int), vs = [.ref b] ∧ SqL K H b (xs.map V.int) ∧ ∀ (a c : Addr) (H' : Hp), H a = none → Same H H' → Wh H' a c 0 → Q (.ref a) H'
theorem ok_law_bench : FnOk P w K mg base CX0 1 T.f_law_bench T.fd_law_bench ["script"] (sp_law_bench K) := by
  refine T.F_law_bench.ok sc_law_bench (fun vs H Q E h => ?_) (fun cdv A outer s H vs Q E hr h => ?_)
  · obtain ⟨b, xs, rfl, _⟩ := h
    rfl
  · obtain ⟨b, xs, rfl, hs, q⟩ := h
    refine ⟨_, (pss_one (ps_ret (pe_lst (pa_cons (pe_lc (own := [("cell", 1)]) rfl sc_law_bench.nd (pi_list (pe_slice sl_list (pv 0) po_none (po_some pe_int))) (blkOk_by (own := [("cell", 1)]) (N := ["script", "cell"]) (sc := defScope s_law_bench) (by decide +kernel)) (fun _ _ _ _ _ => (pg_name (i := 1) sc_law_bench.nd rfl (.inl rfl))) (fun _ _ _ _ _ => pts_nil) (fun _ _ _ _ _ => (pe_callTy call_int1 (by rfl) T.m_int (by decide +kernel) (pa_cons (pv 1) pa_nil)))) (pa_cons pe_int (pa_cons pe_int pa_nil)))))), ?_⟩
    refine ⟨_, rfl, _, rfl, b, _, rfl, hs, fun p np => ?_⟩
    have hc : cutV (xs.map V.int) none (some 60) = (xs.take 60).map V.int := by
      rw [List.map_take]
      exact cut_to _ 60
    rw [hc]
    refine ⟨p, rfl, ⟨_, .inl (.inl upd_same)⟩, fun D nD => lc_mapL id (.inl (.inl upd_same)) nD (by rw [List.length_map, List.length_take]; omega) (fun i x Hc Q' R' hx e1 q' => ?_) (fun Hc e1 hD => ?_)⟩
    · obtain ⟨j, _, rfl⟩ := List.mem_map.mp (List.mem_of_getElem? hx)
      refine ⟨rfl, ?_⟩
      refine iteT (B := True) ?_
      exact ⟨_, rfl, .inl ⟨j, rfl, q' Hc (Same.refl _)⟩⟩
    · rw [List.map_id] at hD
      have s0 := (same_new np).trans e1
      refine ⟨by show 3 ≤ sizeLine; decide, fun a na => q a D _ (s0.free na) (s0.trans (same_new na)) ⟨xs.take 60, 0, 0, upd_same, (same_new na) _ _ hD, ?_, by omega, by omega⟩⟩
      rw [List.length_take]
      omega
def abc : List Nat := (List.range 26).map (· + 97)
def sp_law_word (K : PySem.W.Frag) : Sp := fun vs H Q _ => ∃ (a c : Addr) (most letters : Int) (n : Nat), vs = [.ref a, .int most, .int letters] ∧ 1 ≤ most ∧ most ≤ 12 ∧ 1 ≤ letters ∧ letters ≤ 26 ∧ Wh H a c n ∧ n < 900000 ∧
  ∀ (l : List Nat) (H' : Hp), wordB l = true → Mv a H H' → Wh H' a c (n + 14) → Q (.str (S l)) H'
theorem ok_law_word : FnOk P w K mg base CX0 2 T.f_law_word T.fd_law_word ["bench", "most", "letters"] (sp_law_word K) := by
  refine T.F_law_word.ok sc_law_word (fun vs H Q E h => ?_) (fun cdv A outer s H vs Q E hr h => ?_)
  · obtain ⟨a, c, m, l, n, rfl, _⟩ := h
    rfl
  · obtain ⟨a, c, most, letters, n, rfl, hm0, hm1, hl0, hl1, wh, hn, q⟩ := h
    refine ⟨_, (pss_one (ps_ret (pe_join pe_str (pe_lc (own := [("turn", 3)]) rfl sc_law_word.nd (pi_range1 (by rfl) T.m_range (pa_cons (pe_op op_add pe_int (pe_call (ok_law_write T) (hr.mono (by decide)) (by rfl) T.g_law_write T.F_law_write.kp T.b_law_write .nil pass0 (pa_cons (pv 0) (pa_cons (pv 1) pa_nil)))) pa_nil)) (blkOk_by (own := [("turn", 3)]) (N := ["bench", "most", "letters", "turn"]) (sc := defScope s_law_word) (by decide +kernel)) (fun _ _ _ _ _ => (pg_name (i := 3) sc_law_word.nd rfl (.inl rfl))) (fun _ _ _ _ _ => pts_nil) (fun _ _ _ _ _ => (pe_ix ix_str pe_str (pe_call (ok_law_write T) (hr.mono (by decide)) (by rfl) T.g_law_write T.F_law_write.kp T.b_law_write .nil pass0 (pa_cons (pv 0) (pa_cons (pv 2) pa_nil))) (fun _ _ => rfl))))))), ?_⟩
    refine ⟨⟨_, rfl⟩, _, rfl, _, rfl, a, c, most, n, rfl, by omega, by omega, wh, by omega, fun k0 H1 k00 k01 m1 w1 => ⟨_, _, rfl, rfl, ?_⟩⟩
    obtain ⟨k, rfl⟩ : ∃ k : Nat, k0 = k := ⟨k0.toNat, by omega⟩
    refine ⟨1 + (k : Int), rfl, by omega, by omega, fun D nD => lc_range (lo := 0) (n := (1 + (k : Int)).toNat) (fun j H' => ∃ xs : List Nat, H' D = some (.lst (signsV xs)) ∧ Mv a H1 H' ∧ Wh H' a c (n + 1 + j) ∧ xs.length = j ∧ xs.all low = true)
      ⟨[], upd_same, Mv.of (same_new nD), w1.new nD, rfl, rfl⟩ (fun j Hd hj h => ?_) (fun Hd h => ?_)⟩
    · obtain ⟨xs, hD, m4, w4, lx, vx⟩ := h
      refine ⟨rfl, ?_⟩
      refine iteT (B := True) ?_
      refine ⟨_, rfl, _, rfl, a, c, letters, _, rfl, by omega, by omega, w4, by omega, fun r H5 r0 r1 m5 w5 => ?_⟩
      obtain ⟨r, rfl⟩ : ∃ z : Nat, r = z := ⟨r.toNat, by omega⟩
      have hr26 : r < 26 := by omega
      have hDa := w1.ne nD
      have ea : atI (Str.ofString "abcdefghijklmnopqrstuvwxyz").cps.toList (r : Int) = some (r + 97) := by
        have e : (Str.ofString "abcdefghijklmnopqrstuvwxyz").cps.toList = abc := by decide +kernel
        rw [e, at_nat (by unfold abc; simp; omega)]
        unfold abc
        simp
      refine ⟨_, (r : Int), r + 97, rfl, rfl, (show 26 ≤ sizeLine by decide), ea, ?_⟩
      refine ⟨_, m5 _ _ hDa hD, ?_, xs ++ [r + 97], ?_, ?_, ?_, ?_, ?_⟩
      · have e : (signsV xs).length = j := (List.length_map ..).trans lx
        rw [e]
        exact Nat.lt_of_lt_of_le (show j < 31 by omega) (by decide)
      · rw [upd_same]
        unfold signsV
        rw [List.map_append]
        rfl
      · intro b o' nb h
        rw [upd_ne (ne_of_none h nD)]
        exact (m4.trans m5) b o' nb h
      · exact (w5.lt (show n + 1 + j + 1 ≤ n + 1 + (j + 1) by omega)).set hDa (w1.nc nD)
      · rw [List.length_append, lx]
        rfl
      · rw [List.all_append, vx]
        have : low (r + 97) = true := by
          unfold low
          rw [decide_eq_true (by omega), decide_eq_true (by omega)]
          rfl
        simp [this]
    · obtain ⟨xs, hD, m4, w4, lx, vx⟩ := h
      rw [signs_map] at hD
      refine ⟨"", D, xs.map fun c => S [c], rfl, rfl, .inl (.inl (.inl hD)), ?_, ?_⟩
      · rw [sum_signs, List.length_map]
        show xs.length + xs.length * 0 ≤ 16777216
        omega
      rw [join_signs]
      refine q xs Hd ?_ (m1.trans m4) (w4.lt (by omega))
      unfold wordB lowB
      have l1 : xs.length = 1 + k := by omega
      rw [decide_eq_true (show xs.length ≤ 12 by omega), vx]
      cases xs with
      | nil =>
        rw [List.length_nil] at l1
        omega
      | cons x t => rfl
def WordsAt (K : PySem.W.Frag) (H : Hp) (p : Addr) (ws : List (List Nat)) : Prop := H p = some (.lst (ws.map tx)) ∧ 1 ≤ ws.length ∧ ws.length ≤ 40 ∧ (∀ w ∈ ws, wordB w = true) ∧ ws.Nodup
def sp_law_words (K : PySem.W.Frag) : Sp := fun vs H Q _ => ∃ (a c : Addr) (many most letters : Int) (n : Nat), vs = [.ref a, .int many, .int most, .int letters] ∧ 1 ≤ many ∧ many ≤ 40 ∧ 1 ≤ most ∧ most ≤ 12 ∧ 1 ≤ letters ∧ letters ≤ 26 ∧ Wh H a c n ∧ n < 800000 ∧
  ∀ (p : Addr) (ws : List (List Nat)) (H' : Hp), WordsAt K H' p ws → p ≠ a → Mv a H H' → Wh H' a c (n + 600) → Q (.ref p) H'
theorem ok_law_words : FnOk P w K mg base CX0 3 T.f_law_words T.fd_law_words ["bench", "many", "most", "letters"] (sp_law_words K) := by
  refine T.F_law_words.ok sc_law_words (fun vs H Q E h => ?_) (fun cdv A outer s H vs Q E hr h => ?_)
  · obtain ⟨a, c, m, m2, l, n, rfl, _⟩ := h
    rfl
  · obtain ⟨a, c, many, most, letters, n, rfl, hy0, hy1, hm0, hm1, hl0, hl1, wh, hn, q⟩ := h
    refine ⟨_, (pss_cons (ps_set (i := 4) sc_law_words.nd rfl (.inl rfl) (pe_lst pa_nil))
    (pss_cons (ps_for PassesOwn.never rfl (pi_range1 (by rfl) T.m_range (pa_cons (pv 1) pa_nil)) (pg_name (i := 5) sc_law_words.nd rfl (.inl rfl))
      (pss_cons (ps_set (i := 6) sc_law_words.nd rfl (.inl rfl) (pe_call (ok_law_word T) (hr.mono (by decide)) (by rfl) T.g_law_word T.F_law_word.kp T.b_law_word .nil pass0 (pa_cons (pv 0) (pa_cons (pv 2) (pa_cons (pv 3) pa_nil)))))
      (pss_one (ps_if (pt_cmpR op_notIn_seq (pv 6) (pv 4) rfl)
        (pss_one (ps_expr (pe_bm PySem.F.plainAttrs_list PySem.F.slot_list_append PySem.F.type_list_append mt_append (pv 4) (pa_cons (pv 6) pa_nil))))
        pss_nil))))
    (pss_one (ps_ret (pv 4))))), ?_⟩
    obtain ⟨k, rfl⟩ : ∃ k : Nat, many = k := ⟨many.toNat, by omega⟩
    refine ⟨Nat.zero_le _, fun D nD => ?_⟩
    have hDa := wh.ne nD
    refine ⟨_, rfl, k, rfl, by omega, by omega, for_range (lo := 0) (n := (k : Int).toNat) (fun i σ H' => ∃ (o5 o6 : Option V) (ws : List (List Nat)), σ = [some (.ref a), some (.int k), some (.int most), some (.int letters), some (.ref D), o5, o6] ∧ H' D = some (.lst (ws.map tx)) ∧ (i = 0 ∨ 1 ≤ ws.length) ∧ ws.length ≤ i ∧ (∀ w ∈ ws, wordB w = true) ∧ ws.Nodup ∧ Mv a H H' ∧ Wh H' a c (n + 14 * i))
      ⟨none, none, [], rfl, upd_same, .inl rfl, Nat.le_refl _, (fun _ m => by cases m), List.nodup_nil, Mv.of (same_new nD), wh.new nD⟩ (fun i σ' Hc hi h => ?_) (fun σ' Hc h => ?_)⟩
    · obtain ⟨o5, o6, ws, rfl, hD, h0, h1, h2, h3, mv, w⟩ := h
      refine ⟨_, rfl, _, rfl, _, rfl, a, c, most, letters, _, rfl, hm0, hm1, hl0, hl1, w, by omega, fun l H2 hl mv2 w2 => ?_⟩
      have hD2 := mv2 _ _ hDa hD
      have fl : (ws.map tx).all flatV = true := by
        rw [List.all_map, List.all_eq_true]
        exact fun w _ => rfl
      refine ⟨_, rfl, _, rfl, D, _, rfl, .inl (.inl (.inl hD2)), rfl, fl, _, rfl, ?_⟩
      show if (!inV (.str (S l)) (ws.map tx)) = true then _ else _
      by_cases hm : inV (.str (S l)) (ws.map tx) = true
      · rw [hm]
        refine iteF (A := _) ?_
        refine ⟨_, _, ws, rfl, hD2, .inr ?_, by omega, h2, h3, mv.trans mv2, w2.lt (by omega)⟩
        obtain ⟨w, hw, _⟩ := (inV_texts ws).mp hm
        cases ws with
        | nil => cases hw
        | cons _ _ => simp
      · have hm' : inV (.str (S l)) (ws.map tx) = false := by simpa using hm
        rw [hm']
        refine iteT (B := _) ?_
        refine ⟨_, rfl, .inl ⟨rfl, _, .inl (.inl hD2)⟩, _, rfl, D, _, _, rfl, rfl, hD2, ?_, ?_⟩
        · rw [List.length_map]
          exact Nat.lt_of_lt_of_le (show ws.length < 41 by omega) (by decide)
        · refine ⟨_, _, ws ++ [l], rfl, ?_, .inr (by rw [List.length_append]; simp), by rw [List.length_append]; simp; omega, fun w hw => ?_, ?_, ?_, ?_⟩
          · rw [upd_same, List.map_append]
            rfl
          · rcases List.mem_append.mp hw with z | z
            · exact h2 w z
            · rw [List.mem_singleton.mp z]
              exact hl
          · refine List.nodup_append.mpr ⟨h3, by simp, fun x hx y hy e => ?_⟩
            rw [List.mem_singleton.mp hy] at e
            exact hm ((inV_texts ws).mpr ⟨x, hx, by rw [e]⟩)
          · intro b o' nb h
            rw [upd_ne (ne_of_none h nD)]
            exact (mv.trans mv2) b o' nb h
          · exact (w2.lt (show n + 14 * i + 14 ≤ n + 14 * (i + 1) by omega)).set hDa (wh.nc nD)
    · obtain ⟨o5, o6, ws, rfl, hD, h0, h1, h2, h3, mv, w⟩ := h
      exact ⟨_, rfl, q D ws Hc ⟨hD, by omega, by omega, h2, h3⟩ hDa mv (w.lt (by omega))⟩
end
end K10
namespace K10
open PySem PySem.Spec PyProof.Rows L2 Kx SX LamX
def names : List Str := ["book", "number", "row", "text", "misfit"]
def Told {K : PySem.W.Frag} {mg : Str → Option Value} (T : Tx K mg) (cls : Value) (wd : Str) : Prop := (cls = .ref T.e_BadBook.C ∧ wd = "book") ∨ (cls = .ref T.e_BadNumber.C ∧ wd = "number") ∨ (cls = .ref T.e_BadRow.C ∧ wd = "row") ∨ (cls = .ref T.e_BadText.C ∧ wd = "text") ∨ (cls = .ref T.e_Misfit.C ∧ wd = "misfit")
def TTh {K : PySem.W.Frag} {mg : Str → Option Value} (T : Tx K mg) : (XK → Hp → VK → Prop) → Hp → VK → Prop := fun tl H Q => ∀ N : VK,
  tl (fun cls d H' => ∃ (dd : Addr) (p : V) (wd : Str), Told T cls wd ∧ d = some dd ∧ H' dd = some (.xd [("part", p)]) ∧ ∀ t H'', Same H' H'' → H'' t = some (.tup [.str wd, p]) → Q (.ref t) H'') H N
/-- how isinstance answers for the classes -/
structure KitH {K : PySem.W.Frag} {mg : Str → Option Value} (T : Tx K mg) (D : Addr) (j : Nat) : Prop where
  t : PySem.W.kitOne K (.ref D) (.ref T.k_TooMany) = some false
  f0 : PySem.W.kitOne K (.ref D) (.ref T.e_BadBook.C) = some (decide (0 = j))
  f1 : PySem.W.kitOne K (.ref D) (.ref T.e_BadNumber.C) = some (decide (1 = j))
  f2 : PySem.W.kitOne K (.ref D) (.ref T.e_BadRow.C) = some (decide (2 = j))
  f3 : PySem.W.kitOne K (.ref D) (.ref T.e_BadText.C) = some (decide (3 = j))
  f4 : PySem.W.kitOne K (.ref D) (.ref T.e_Misfit.C) = some (decide (4 = j))
theorem kitH_BadBook {K : PySem.W.Frag} {mg : Str → Option Value} (T : Tx K mg) : KitH T T.e_BadBook.C 0 := by
  have q_BadBook : T.e_BadBook.C = T.k_BadBook := same_ref T.e_BadBook.gC T.gk_BadBook
  have q_BadNumber : T.e_BadNumber.C = T.k_BadNumber := same_ref T.e_BadNumber.gC T.gk_BadNumber
  have q_BadRow : T.e_BadRow.C = T.k_BadRow := same_ref T.e_BadRow.gC T.gk_BadRow
  have q_BadText : T.e_BadText.C = T.k_BadText := same_ref T.e_BadText.gC T.gk_BadText
  have q_Misfit : T.e_Misfit.C = T.k_Misfit := same_ref T.e_Misfit.gC T.gk_Misfit
  refine ⟨?_, kitOne_self, ?_, ?_, ?_, ?_⟩
  · rw [q_BadBook]; exact kitOne_other T.kc_TooMany T.kt_TooMany T.su_BadBook_TooMany T.su_BadBook_BadBook
  · rw [q_BadBook, q_BadNumber]; exact kitOne_other T.kc_BadNumber T.kt_BadNumber T.su_BadBook_BadNumber T.su_BadBook_BadBook
  · rw [q_BadBook, q_BadRow]; exact kitOne_other T.kc_BadRow T.kt_BadRow T.su_BadBook_BadRow T.su_BadBook_BadBook
  · rw [q_BadBook, q_BadText]; exact kitOne_other T.kc_BadText T.kt_BadText T.su_BadBook_BadText T.su_BadBook_BadBook
  · rw [q_BadBook, q_Misfit]; exact kitOne_other T.kc_Misfit T.kt_Misfit T.su_BadBook_Misfit T.su_BadBook_BadBook
theorem kitH_BadNumber {K : PySem.W.Frag} {mg : Str → Option Value} (T : Tx K mg) : KitH T T.e_BadNumber.C 1 := by
  have q_BadBook : T.e_BadBook.C = T.k_BadBook := same_ref T.e_BadBook.gC T.gk_BadBook
  have q_BadNumber : T.e_BadNumber.C = T.k_BadNumber := same_ref T.e_BadNumber.gC T.gk_BadNumber
  have q_BadRow : T.e_BadRow.C = T.k_BadRow := same_ref T.e_BadRow.gC T.gk_BadRow
  have q_BadText : T.e_BadText.C = T.k_BadText := same_ref T.e_BadText.gC T.gk_BadText
  have q_Misfit : T.e_Misfit.C = T.k_Misfit := same_ref T.e_Misfit.gC T.gk_Misfit
  refine ⟨?_, ?_, kitOne_self, ?_, ?_, ?_⟩
  · rw [q_BadNumber]; exact kitOne_other T.kc_TooMany T.kt_TooMany T.su_BadNumber_TooMany T.su_BadNumber_BadNumber
  · rw [q_BadNumber, q_BadBook]; exact kitOne_other T.kc_BadBook T.kt_BadBook T.su_BadNumber_BadBook T.su_BadNumber_BadNumber
  · rw [q_BadNumber, q_BadRow]; exact kitOne_other T.kc_BadRow T.kt_BadRow T.su_BadNumber_BadRow T.su_BadNumber_BadNumber
  · rw [q_BadNumber, q_BadText]; exact kitOne_other T.kc_BadText T.kt_BadText T.su_BadNumber_BadText T.su_BadNumber_BadNumber
  · rw [q_BadNumber, q_Misfit]; exact kitOne_other T.kc_Misfit T.kt_Misfit T.su_BadNumber_Misfit T.su_BadNumber_BadNumber
theorem kitH_BadRow {K : PySem.W.Frag} {mg : Str → Option Value} (T : Tx K mg) : KitH T T.e_BadRow.C 2 := by
  have q_BadBook : T.e_BadBook.C = T.k_BadBook := same_ref T.e_BadBook.gC T.gk_BadBook
  have q_BadNumber : T.e_BadNumber.C = T.k_BadNumber := same_ref T.e_BadNumber.gC T.gk_BadNumber
  have q_BadRow : T.e_BadRow.C = T.k_BadRow := same_ref T.e_BadRow.gC T.gk_BadRow
  have q_BadText : T.e_BadText.C = T.k_BadText := same_ref T.e_BadText.gC T.gk_BadText
  have q_Misfit : T.e_Misfit.C = T.k_Misfit := same_ref T.e_Misfit.gC T.gk_Misfit
  refine ⟨?_, ?_, ?_, kitOne_self, ?_, ?_⟩
  · rw [q_BadRow]; exact kitOne_other T.kc_TooMany T.kt_TooMany T.su_BadRow_TooMany T.su_BadRow_BadRow
  · rw [q_BadRow, q_BadBook]; exact kitOne_other T.kc_BadBook T.kt_BadBook T.su_BadRow_BadBook T.su_BadRow_BadRow
  · rw [q_BadRow, q_BadNumber]; exact kitOne_other T.kc_BadNumber T.kt_BadNumber T.su_BadRow_BadNumber T.su_BadRow_BadRow
  · rw [q_BadRow, q_BadText]; exact kitOne_other T.kc_BadText T.kt_BadText T.su_BadRow_BadText T.su_BadRow_BadRow
  · rw [q_BadRow, q_Misfit]; exact kitOne_other T.kc_Misfit T.kt_Misfit T.su_BadRow_Misfit T.su_BadRow_BadRow
theorem kitH_BadText {K : PySem.W.Frag} {mg : Str → Option Value} (T : Tx K mg) : KitH T T.e_BadText.C 3 := by
  have q_BadBook : T.e_BadBook.C = T.k_BadBook := same_ref T.e_BadBook.gC T.gk_BadBook
  have q_BadNumber : T.e_BadNumber.C = T.k_BadNumber := same_ref T.e_BadNumber.gC T.gk_BadNumber
  have q_BadRow : T.e_BadRow.C = T.k_BadRow := same_ref T.e_BadRow.gC T.gk_BadRow
  have q_BadText : T.e_BadText.C = T.k_BadText := same_ref T.e_BadText.gC T.gk_BadText
  have q_Misfit : T.e_Misfit.C = T.k_Misfit := same_ref T.e_Misfit.gC T.gk_Misfit
  refine ⟨?_, ?_, ?_, ?_, kitOne_self, ?_⟩
  · rw [q_BadText]; exact kitOne_other T.kc_TooMany T.kt_TooMany T.su_BadText_TooMany T.su_BadText_BadText
  · rw [q_BadText, q_BadBook]; exact kitOne_other T.kc_BadBook T.kt_BadBook T.su_BadText_BadBook T.su_BadText_BadText
  · rw [q_BadText, q_BadNumber]; exact kitOne_other T.kc_BadNumber T.kt_BadNumber T.su_BadText_BadNumber T.su_BadText_BadText
  · rw [q_BadText, q_BadRow]; exact kitOne_other T.kc_BadRow T.kt_BadRow T.su_BadText_BadRow T.su_BadText_BadText
  · rw [q_BadText, q_Misfit]; exact kitOne_other T.kc_Misfit T.kt_Misfit T.su_BadText_Misfit T.su_BadText_BadText
theorem kitH_Misfit {K : PySem.W.Frag} {mg : Str → Option Value} (T : Tx K mg) : KitH T T.e_Misfit.C 4 := by
  have q_BadBook : T.e_BadBook.C = T.k_BadBook := same_ref T.e_BadBook.gC T.gk_BadBook
  have q_BadNumber : T.e_BadNumber.C = T.k_BadNumber := same_ref T.e_BadNumber.gC T.gk_BadNumber
  have q_BadRow : T.e_BadRow.C = T.k_BadRow := same_ref T.e_BadRow.gC T.gk_BadRow
  have q_BadText : T.e_BadText.C = T.k_BadText := same_ref T.e_BadText.gC T.gk_BadText
  have q_Misfit : T.e_Misfit.C = T.k_Misfit := same_ref T.e_Misfit.gC T.gk_Misfit
  refine ⟨?_, ?_, ?_, ?_, ?_, kitOne_self⟩
  · rw [q_Misfit]; exact kitOne_other T.kc_TooMany T.kt_TooMany T.su_Misfit_TooMany T.su_Misfit_Misfit
  · rw [q_Misfit, q_BadBook]; exact kitOne_other T.kc_BadBook T.kt_BadBook T.su_Misfit_BadBook T.su_Misfit_Misfit
  · rw [q_Misfit, q_BadNumber]; exact kitOne_other T.kc_BadNumber T.kt_BadNumber T.su_Misfit_BadNumber T.su_Misfit_Misfit
  · rw [q_Misfit, q_BadRow]; exact kitOne_other T.kc_BadRow T.kt_BadRow T.su_Misfit_BadRow T.su_Misfit_Misfit
  · rw [q_Misfit, q_BadText]; exact kitOne_other T.kc_BadText T.kt_BadText T.su_Misfit_BadText T.su_Misfit_Misfit
theorem heard_gives {X : Cx} (T : Tx X.K X.mg) {q : Str} {g : Addr} {cdg : Value} : GivesTo X ["ask", "caught", "error", "told", "word", "is_so"] "_law_heard" (defScope s_law_heard) g cdg (defBody s_law_heard) "ask" q (TTh T) := by
  intro f c' s H Q tl act hc h
  have hr := (0 : Nat)
  refine ⟨_, pss_cons (ps_set (i := 1) sc_law_heard.nd rfl (.inl rfl) pe_non) (pss_cons (ps_keep (X := (cxOf C8.CX0 X.prog X.w X.K X.mg X.base ["ask", "caught", "error", "told", "word", "is_so"] "_law_heard" (defScope s_law_heard) g cdg X.A X.stack s H C8.E0).nox) (c := .ref T.e_BadBook.L) (i := 2) (j := 1) (n := "error") (y := "caught")
      (tb := fun W D σ H => ∃ Ech : XK, (∀ cls d σ' H', Ech cls d H' → W cls d σ' H') ∧ σ[0]? = some (some (.ref f)) ∧ H c' = some (CodeO c' q) ∧ tl Ech H fun _ H' => D.nx σ H')
      rfl rfl rfl sc_law_heard.nd rfl rfl rfl rfl rfl ⟨rfl, by decide, .inl T.e_BadBook.gL⟩ (by decide) (by decide) (fun W pn xe tk _ => ?_))
      (pss_cons (ps_if (pt_val (pe_callB call_isiX (by rfl) T.m_isinstance (by decide +kernel) (pa_cons (pv 1) (pa_cons (pe_glob (v := .ref T.k_TooMany) (by rfl) T.gk_TooMany rfl) pa_nil))))
      (pss_one (ps_ret (pe_tup (pa_cons (pe_xp (pv 1)) (pa_cons (pe_xp (pv 1)) pa_nil)))))
      pss_nil)
    (pss_cons (ps_set (i := 3) sc_law_heard.nd rfl (.inl rfl) (pe_lst (pa_cons (pe_tup (pa_cons pe_str (pa_cons (pe_callB call_isiX (by rfl) T.m_isinstance (by decide +kernel) (pa_cons (pv 1) (pa_cons (pe_glob (v := .ref T.e_BadBook.C) (by rfl) T.e_BadBook.gC rfl) pa_nil))) pa_nil))) (pa_cons (pe_tup (pa_cons pe_str (pa_cons (pe_callB call_isiX (by rfl) T.m_isinstance (by decide +kernel) (pa_cons (pv 1) (pa_cons (pe_glob (v := .ref T.e_BadNumber.C) (by rfl) T.e_BadNumber.gC rfl) pa_nil))) pa_nil))) pa_nil))))
    (pss_cons (ps_set (i := 3) sc_law_heard.nd rfl (.inl rfl) (pe_op op_cat (pv 3) (pe_lst (pa_cons (pe_tup (pa_cons pe_str (pa_cons (pe_callB call_isiX (by rfl) T.m_isinstance (by decide +kernel) (pa_cons (pv 1) (pa_cons (pe_glob (v := .ref T.e_BadRow.C) (by rfl) T.e_BadRow.gC rfl) pa_nil))) pa_nil))) (pa_cons (pe_tup (pa_cons pe_str (pa_cons (pe_callB call_isiX (by rfl) T.m_isinstance (by decide +kernel) (pa_cons (pv 1) (pa_cons (pe_glob (v := .ref T.e_BadText.C) (by rfl) T.e_BadText.gC rfl) pa_nil))) pa_nil))) (pa_cons (pe_tup (pa_cons pe_str (pa_cons (pe_callB call_isiX (by rfl) T.m_isinstance (by decide +kernel) (pa_cons (pv 1) (pa_cons (pe_glob (v := .ref T.e_Misfit.C) (by rfl) T.e_Misfit.gC rfl) pa_nil))) pa_nil))) pa_nil))))))
    (pss_cons (ps_for PassesOwn.never rfl (pi_list (pv 3)) (pg_tup rfl (pgs_cons (pg_name (i := 4) sc_law_heard.nd rfl (.inl rfl)) (pgs_cons (pg_name (i := 5) sc_law_heard.nd rfl (.inl rfl)) pgs_nil)))
      (pss_one (ps_if (pt_val (pv 5))
        (pss_one (ps_ret (pe_tup (pa_cons (pv 4) (pa_cons (pe_xp (pv 1)) pa_nil)))))
        pss_nil)))
    (pss_one (ps_ret (pe_ifExp (pt_cmpR op_isN (pv 1) pe_non (nomark _)) pe_non (pe_tup (pa_cons pe_str (pa_cons pe_non pa_nil))))))))))), ?_⟩
  · refine ⟨fun pins s' σ H' D I h' => ?_⟩
    obtain ⟨Ech, hW, h1, h2, h3⟩ := h'
    exact (pss_one (ps_expr (act W pn xe Ech _ _ tk hW))).run pins s' σ H' D I ⟨h1, h2, h3⟩
  · refine go_seq (go_asg (go_c ?_))
    dsimp only [gName]
    refine go_seq ⟨_, fun cls d σ' H' h' => ?_, rfl, hc, h _⟩
    obtain ⟨dd, p, wd, hcls, rfl, hd, hq⟩ := h'
    obtain ⟨D, j, rfl, kt, ex, xf, np, em, ew⟩ : ∃ (D : Addr) (j : Nat), cls = .ref D ∧ KitH T D j ∧ ExcC X.K D ∧ XfC X.K D ∧ PySem.W.findIn X.K (.ref D) "part" = some none ∧ PySem.W.exmOne X.K (.ref D) (.ref T.e_BadBook.L) = some true ∧ names[j]? = some wd := by
      rcases hcls with ⟨rfl, rfl⟩ | ⟨rfl, rfl⟩ | ⟨rfl, rfl⟩ | ⟨rfl, rfl⟩ | ⟨rfl, rfl⟩
      · exact ⟨_, 0, rfl, kitH_BadBook T, T.e_BadBook.exc, T.e_BadBook.xf, T.e_BadBook.np, T.e_BadBook.em, rfl⟩
      · exact ⟨_, 1, rfl, kitH_BadNumber T, T.e_BadNumber.exc, T.e_BadNumber.xf, T.e_BadNumber.np, (show T.e_BadNumber.L = T.e_BadBook.L from same_ref T.e_BadNumber.gL T.e_BadBook.gL) ▸ T.e_BadNumber.em, rfl⟩
      · exact ⟨_, 2, rfl, kitH_BadRow T, T.e_BadRow.exc, T.e_BadRow.xf, T.e_BadRow.np, (show T.e_BadRow.L = T.e_BadBook.L from same_ref T.e_BadRow.gL T.e_BadBook.gL) ▸ T.e_BadRow.em, rfl⟩
      · exact ⟨_, 3, rfl, kitH_BadText T, T.e_BadText.exc, T.e_BadText.xf, T.e_BadText.np, (show T.e_BadText.L = T.e_BadBook.L from same_ref T.e_BadText.gL T.e_BadBook.gL) ▸ T.e_BadText.em, rfl⟩
      · exact ⟨_, 4, rfl, kitH_Misfit T, T.e_Misfit.exc, T.e_Misfit.xf, T.e_Misfit.np, (show T.e_Misfit.L = T.e_BadBook.L from same_ref T.e_Misfit.gL T.e_BadBook.gL) ▸ T.e_Misfit.em, rfl⟩
    refine ⟨em, fun a na hl => ?_⟩
    have hd1 := same_new (o := exT a (.ref D) (some dd)) na _ _ hd
    have s0 := same_new (o := exT a (.ref D) (some dd)) na
    have ha1 := upd_same (H := H') (a := a) (o := exT a (.ref D) (some dd))
    generalize upd H' a (exT a (.ref D) (some dd)) = H1 at hd1 s0 ha1 ⊢
    match σ', hl with
    | [x0, x1, x2, x3, x4, x5], _ =>
      dsimp only
      refine go_seq (go_if (go_b ?_))
      refine ⟨_, rfl, .inr ⟨a, D, dd, _, .ref T.k_TooMany, .ref T.k_TooMany, false, rfl, ha1, hd1, ex, fun u r => r, kt.t, _, rfl, iteF (A := _) ?_⟩⟩
      dsimp only [tNext]
      refine go_seq (go_asg ?_)
      refine ⟨_, rfl, .inr ⟨a, D, dd, _, .ref T.e_BadBook.C, .ref T.e_BadBook.C, decide (0 = j), rfl, ha1, hd1, ex, fun u r => r, kt.f0, sz2, fun t0 n0 => ?_⟩⟩
      have z := same_new (o := HO.tup [.str "book", .bl (decide (0 = j))]) n0
      have ha1 := z _ _ ha1
      have hd1 := z _ _ hd1
      have s0 := s0.trans z
      have ht0 := upd_same (H := H1) (a := t0) (o := HO.tup [.str "book", .bl (decide (0 = j))])
      generalize upd H1 t0 (HO.tup [.str "book", .bl (decide (0 = j))]) = H2 at ha1 hd1 ht0 s0 ⊢
      clear z n0
      refine ⟨_, rfl, .inr ⟨a, D, dd, _, .ref T.e_BadNumber.C, .ref T.e_BadNumber.C, decide (1 = j), rfl, ha1, hd1, ex, fun u r => r, kt.f1, sz2, fun t1 n1 => ?_⟩⟩
      have z := same_new (o := HO.tup [.str "number", .bl (decide (1 = j))]) n1
      have ha1 := z _ _ ha1
      have hd1 := z _ _ hd1
      have ht0 := z _ _ ht0
      have s0 := s0.trans z
      have ht1 := upd_same (H := H2) (a := t1) (o := HO.tup [.str "number", .bl (decide (1 = j))])
      generalize upd H2 t1 (HO.tup [.str "number", .bl (decide (1 = j))]) = H3 at ha1 hd1 ht0 ht1 s0 ⊢
      clear z n1
      refine ⟨sz2, fun pl npl => ?_⟩
      have z := same_new (o := HO.lst [.ref t0, .ref t1]) npl
      have ha1 := z _ _ ha1
      have hd1 := z _ _ hd1
      have ht0 := z _ _ ht0
      have ht1 := z _ _ ht1
      have s0 := s0.trans z
      have hpl := upd_same (H := H3) (a := pl) (o := HO.lst [.ref t0, .ref t1])
      generalize upd H3 pl (HO.lst [.ref t0, .ref t1]) = H4 at ha1 hd1 ht0 ht1 hpl s0 ⊢
      clear z npl
      dsimp only [gName]
      refine go_seq (go_asg ⟨_, rfl, ?_⟩)
      refine ⟨_, rfl, .inr ⟨a, D, dd, _, .ref T.e_BadRow.C, .ref T.e_BadRow.C, decide (2 = j), rfl, ha1, hd1, ex, fun u r => r, kt.f2, sz2, fun t2 n2 => ?_⟩⟩
      have z := same_new (o := HO.tup [.str "row", .bl (decide (2 = j))]) n2
      have ha1 := z _ _ ha1
      have hd1 := z _ _ hd1
      have ht0 := z _ _ ht0
      have ht1 := z _ _ ht1
      have hpl := z _ _ hpl
      have s0 := s0.trans z
      have ht2 := upd_same (H := H4) (a := t2) (o := HO.tup [.str "row", .bl (decide (2 = j))])
      generalize upd H4 t2 (HO.tup [.str "row", .bl (decide (2 = j))]) = H5 at ha1 hd1 ht0 ht1 hpl ht2 s0 ⊢
      clear z n2
      refine ⟨_, rfl, .inr ⟨a, D, dd, _, .ref T.e_BadText.C, .ref T.e_BadText.C, decide (3 = j), rfl, ha1, hd1, ex, fun u r => r, kt.f3, sz2, fun t3 n3 => ?_⟩⟩
      have z := same_new (o := HO.tup [.str "text", .bl (decide (3 = j))]) n3
      have ha1 := z _ _ ha1
      have hd1 := z _ _ hd1
      have ht0 := z _ _ ht0
      have ht1 := z _ _ ht1
      have hpl := z _ _ hpl
      have ht2 := z _ _ ht2
      have s0 := s0.trans z
      have ht3 := upd_same (H := H5) (a := t3) (o := HO.tup [.str "text", .bl (decide (3 = j))])
      generalize upd H5 t3 (HO.tup [.str "text", .bl (decide (3 = j))]) = H6 at ha1 hd1 ht0 ht1 hpl ht2 ht3 s0 ⊢
      clear z n3
      refine ⟨_, rfl, .inr ⟨a, D, dd, _, .ref T.e_Misfit.C, .ref T.e_Misfit.C, decide (4 = j), rfl, ha1, hd1, ex, fun u r => r, kt.f4, sz2, fun t4 n4 => ?_⟩⟩
      have z := same_new (o := HO.tup [.str "misfit", .bl (decide (4 = j))]) n4
      have ha1 := z _ _ ha1
      have hd1 := z _ _ hd1
      have ht0 := z _ _ ht0
      have ht1 := z _ _ ht1
      have hpl := z _ _ hpl
      have ht2 := z _ _ ht2
      have ht3 := z _ _ ht3
      have s0 := s0.trans z
      have ht4 := upd_same (H := H6) (a := t4) (o := HO.tup [.str "misfit", .bl (decide (4 = j))])
      generalize upd H6 t4 (HO.tup [.str "misfit", .bl (decide (4 = j))]) = H7 at ha1 hd1 ht0 ht1 hpl ht2 ht3 ht4 s0 ⊢
      clear z n4
      refine ⟨sz3, fun pm npm => ?_⟩
      have z := same_new (o := HO.lst [.ref t2, .ref t3, .ref t4]) npm
      have ha1 := z _ _ ha1
      have hd1 := z _ _ hd1
      have ht0 := z _ _ ht0
      have ht1 := z _ _ ht1
      have hpl := z _ _ hpl
      have ht2 := z _ _ ht2
      have ht3 := z _ _ ht3
      have ht4 := z _ _ ht4
      have s0 := s0.trans z
      have hpm := upd_same (H := H7) (a := pm) (o := HO.lst [.ref t2, .ref t3, .ref t4])
      generalize upd H7 pm (HO.lst [.ref t2, .ref t3, .ref t4]) = H8 at ha1 hd1 ht0 ht1 hpl ht2 ht3 ht4 hpm s0 ⊢
      clear z npm
      refine ⟨pl, pm, _, _, rfl, rfl, hpl, hpm, (show 2 + 3 ≤ sizeLine by decide), fun pn npn => ?_⟩
      have z := same_new (o := HO.lst ([.ref t0, .ref t1] ++ [.ref t2, .ref t3, .ref t4])) npn
      have ha1 := z _ _ ha1
      have hd1 := z _ _ hd1
      have ht0 := z _ _ ht0
      have ht1 := z _ _ ht1
      have hpl := z _ _ hpl
      have ht2 := z _ _ ht2
      have ht3 := z _ _ ht3
      have ht4 := z _ _ ht4
      have hpm := z _ _ hpm
      have s0 := s0.trans z
      have hpn := upd_same (H := H8) (a := pn) (o := HO.lst ([.ref t0, .ref t1] ++ [.ref t2, .ref t3, .ref t4]))
      generalize upd H8 pn (HO.lst ([.ref t0, .ref t1] ++ [.ref t2, .ref t3, .ref t4])) = H9 at ha1 hd1 ht0 ht1 hpl ht2 ht3 ht4 hpm hpn s0 ⊢
      clear z npn
      dsimp only [gName]
      refine go_seq ⟨_, rfl, pn, rfl, ⟨_, .inl (.inl hpn)⟩, for_list (xs := [V.ref t0, V.ref t1, V.ref t2, V.ref t3, V.ref t4]) (fun i σ H5 => ∃ o4 o5, σ = [x0, some (.ref a), none, some (.ref pn), o4, o5] ∧ Same H9 H5 ∧ i ≤ j)
        ⟨x4, x5, rfl, Same.refl _, Nat.zero_le _⟩ (fun i σ2 H5 _ h => ?_) (fun i v σ2 H5 hv h => ?_) (fun σ2 H5 h => ?_)⟩
      · obtain ⟨_, _, _, e, _⟩ := h
        exact .inl (.inl (e _ _ hpn))
      · obtain ⟨o4, o5, rfl, e5, hj⟩ := h
        obtain ⟨t, rfl, ht, hi⟩ : ∃ t, v = V.ref t ∧ (∃ wi, names[i]? = some wi ∧ H5 t = some (.tup [.str wi, .bl (decide (i = j))])) ∧ i < 5 := by
          have hi : i < 5 := (List.getElem?_eq_some_iff.mp hv).1
          match i, hi with
          | 0, _ => cases hv; exact ⟨t0, rfl, ⟨_, rfl, e5 _ _ ht0⟩, by decide⟩
          | 1, _ => cases hv; exact ⟨t1, rfl, ⟨_, rfl, e5 _ _ ht1⟩, by decide⟩
          | 2, _ => cases hv; exact ⟨t2, rfl, ⟨_, rfl, e5 _ _ ht2⟩, by decide⟩
          | 3, _ => cases hv; exact ⟨t3, rfl, ⟨_, rfl, e5 _ _ ht3⟩, by decide⟩
          | 4, _ => cases hv; exact ⟨t4, rfl, ⟨_, rfl, e5 _ _ ht4⟩, by decide⟩
        obtain ⟨wi, hwi, ht⟩ := ht
        refine ⟨t, _, rfl, .inl (.inl ht), rfl, _, _, rfl, _, _, rfl, rfl, ?_⟩
        refine ⟨_, rfl, _, rfl, iteC (fun hb => ?_) (fun hb => ?_)⟩
        · have hij := of_decide_eq_true hb
          subst hij
          rw [hwi] at ew
          cases ew
          exact ⟨_, rfl, _, rfl, a, D, dd, _, p, rfl, e5 _ _ ha1, e5 _ _ hd1, xf, np, rfl, sz2, fun u nu => hq u _ ((s0.trans e5).trans (same_new nu)) upd_same⟩
        · have hij := of_decide_eq_false hb
          exact ⟨_, _, rfl, e5, by omega⟩
      · obtain ⟨o4, o5, rfl, e5, hj⟩ := h
        have := (List.getElem?_eq_some_iff.mp ew).1
        have h5 : names.length = 5 := rfl
        have h6 : [V.ref t0, V.ref t1, V.ref t2, V.ref t3, V.ref t4].length = 5 := rfl
        omega
end K10
namespace K10
open PySem PySem.Spec PyProof.Rows L2 Kx SX LamX
section
variable {P : Program} {w : World} {K : PySem.W.Frag} {mg : Str → Option Value} {base : Heap} (T : Tx K mg)
theorem joinL_snoc : ∀ (its : List (List Nat)) (x : List Nat), TL.joinL [32] (its ++ [x]) = if its.isEmpty = true then x else TL.joinL [32] its ++ 32 :: x
  | [], x => rfl
  | [y], x => by
    show y ++ ([32] ++ x) = _
    rfl
  | y :: z :: r, x => by
    have ih := joinL_snoc (z :: r) x
    show y ++ ([32] ++ TL.joinL [32] (z :: r ++ [x])) = _
    rw [show z :: r ++ [x] = (z :: r) ++ [x] from rfl, ih]
    show y ++ ([32] ++ (TL.joinL [32] (z :: r) ++ 32 :: x)) = (y ++ ([32] ++ TL.joinL [32] (z :: r))) ++ 32 :: x
    simp
theorem spellI_le {ws : List (List Nat)} {cs : List Nat} (h : ∀ k, cs.getD k 0 ≤ 12) : ∀ r : List Nat, (spellI ws cs r).length ≤ 12 * r.length
  | [] => Nat.le_refl _
  | k :: r => by
    show (List.replicate (cs.getD k 0) (ws.getD k []) ++ spellI ws cs r).length ≤ 12 * (r.length + 1)
    rw [List.length_append, List.length_replicate]
    have := spellI_le (ws := ws) h r
    have := h k
    omega
theorem spellI_mem {ws : List (List Nat)} {cs r : List Nat} {it : List Nat} (h : it ∈ spellI ws cs r) : ∃ k ∈ r, it = ws.getD k [] := by
  obtain ⟨k, hk, hm⟩ := List.mem_flatMap.mp h
  exact ⟨k, hk, (List.mem_replicate.mp hm).2⟩
theorem getD_le {ws : List (List Nat)} {n : Nat} (h : ∀ w ∈ ws, w.length ≤ n) (k : Nat) : (ws.getD k []).length ≤ n := by
  rw [List.getD_eq_getElem?_getD]
  cases hk : ws[k]? with
  | none => exact Nat.zero_le _
  | some x => exact h x (List.mem_of_getElem? hk)
theorem getN_le {cs : List Nat} {n : Nat} (h : ∀ c ∈ cs, c ≤ n) (k : Nat) : cs.getD k 0 ≤ n := by
  rw [List.getD_eq_getElem?_getD]
  cases hk : cs[k]? with
  | none => exact Nat.zero_le _
  | some x => exact h x (List.mem_of_getElem? hk)
def sp_law_text (K : PySem.W.Frag) : Sp := fun vs H Q _ => ∃ (wp rp cp : Addr) (ws : List (List Nat)) (r cs : List Nat), vs = [.ref wp, .ref rp, .ref cp] ∧ H wp = some (.lst (ws.map tx)) ∧ H rp = some (.lst (nv r)) ∧ H cp = some (.lst (nv cs)) ∧ (∀ w ∈ ws, w.length ≤ 12) ∧ (∀ k ∈ r, k < ws.length) ∧ cs.length = ws.length ∧ (∀ c ∈ cs, c ≤ 12) ∧ r.length ≤ 1000 ∧ ∀ H', Same H H' → Q (.str (S (spellS ws cs r))) H'
theorem ok_law_text : FnOk P w K mg base CX0 1 T.f_law_text T.fd_law_text ["words", "row", "copies"] (sp_law_text K) := by
  refine T.F_law_text.ok sc_law_text (fun vs H Q E h => ?_) (fun cdv A outer s H vs Q E hr h => ?_)
  · obtain ⟨wp, rp, cp, ws, r, cs, rfl, _⟩ := h
    rfl
  · obtain ⟨wp, rp, cp, ws, r, cs, rfl, h1, h2, h3, hw, hk, lc, hc, lr, q⟩ := h
    refine ⟨_, (pss_cons (ps_asg (pe_tup (pa_cons pe_str (pa_cons pe_bl pa_nil))) (pg_tup rfl (pgs_cons (pg_name (i := 3) sc_law_text.nd rfl (.inl rfl)) (pgs_cons (pg_name (i := 4) sc_law_text.nd rfl (.inl rfl)) pgs_nil))))
    (pss_cons (ps_for PassesOwn.never rfl (pi_list (pv 1)) (pg_name (i := 5) sc_law_text.nd rfl (.inl rfl))
      (pss_one (ps_for PassesOwn.never rfl (pi_range1 (by rfl) T.m_range (pa_cons (pe_ix ix_list (pv 2) (pv 5) (fun _ _ => rfl)) pa_nil)) (pg_name (i := 6) sc_law_text.nd rfl (.inl rfl))
        (pss_one (ps_par (i := 3) (j := 4) rfl sc_law_text.nd rfl rfl (by decide) rfl rfl (pa_cons (pe_op op_add_str (pe_op op_add_str (pv 3) (pe_ifExp (pt_val (pv 4)) pe_str pe_str)) (pe_ix ix_list (pv 0) (pv 5) (fun _ _ => rfl))) (pa_cons pe_bl pa_nil)) (by rfl))))))
    (pss_one (ps_ret (pv 3))))), ?_⟩
    refine go_seq (go_asg ⟨sz2, fun p0 n0 => ⟨p0, _, rfl, .inl (.inl upd_same), rfl, _, _, rfl, _, _, rfl, rfl, ?_⟩⟩)
    have e0 := same_new (o := HO.tup [V.str "", V.bl true]) n0
    have q := q _ e0
    have h1 := e0 _ _ h1
    have h2 := e0 _ _ h2
    have h3 := e0 _ _ h3
    generalize upd H p0 (HO.tup [V.str "", V.bl true]) = H0 at q h1 h2 h3 ⊢
    refine go_seq ⟨_, rfl, rp, rfl, ⟨_, .inl (.inl h2)⟩, for_list (xs := nv r) (fun i σ H' => ∃ o5 o6 : Option V, σ = [some (.ref wp), some (.ref rp), some (.ref cp), some (.str (S (TL.joinL [32] (spellI ws cs (r.take i))))), some (.bl (spellI ws cs (r.take i)).isEmpty), o5, o6] ∧ H' = H0)
      ⟨none, none, rfl, rfl⟩ (fun i σ' H' _ h => ?_) (fun i v σ' Hd hv h => ?_) (fun σ' Hd h => ?_)⟩
    · obtain ⟨_, _, _, rfl⟩ := h
      exact .inl (.inl h2)
    · obtain ⟨o5, o6, rfl, rfl⟩ := h
      obtain ⟨hi, rfl⟩ := nv_get hv
      have hk2 : r.getD i 0 < ws.length := getD_lt hi hk
      have hri : r.take (i + 1) = r.take i ++ [r.getD i 0] := by
        rw [List.take_add_one, List.getElem?_eq_getElem hi, List.getD_eq_getElem?_getD, List.getElem?_eq_getElem hi]
        rfl
      have lI : (spellI ws cs (r.take i)).length ≤ 12000 := by
        have h1 := spellI_le (ws := ws) (getN_le hc) (r.take i)
        have h2 := List.length_take_le i r
        omega
      have mI : ∀ it ∈ spellI ws cs (r.take i), it.length ≤ 12 := fun it hm => by
        obtain ⟨k, _, rfl⟩ := spellI_mem hm
        exact getD_le hw k
      generalize r.getD i 0 = k at hk2 hri ⊢
      have ck := getN_le hc k
      have wk := getD_le hw k
      dsimp only [gName]
      refine ⟨_, rfl, _, rfl, cp, _, _, _, rfl, rfl, .inl (.inl h3), nv_at (by omega), (cs.getD k 0 : Nat), rfl, by omega, by omega, for_range (lo := 0) (n := ((cs.getD k 0 : Nat) : Int).toNat) (fun t σ H' => ∃ o6 : Option V, σ = [some (.ref wp), some (.ref rp), some (.ref cp), some (.str (S (TL.joinL [32] (spellI ws cs (r.take i) ++ List.replicate t (ws.getD k []))))), some (.bl (spellI ws cs (r.take i) ++ List.replicate t (ws.getD k [])).isEmpty), some (.int (k : Nat)), o6] ∧ H' = Hd)
        ⟨o6, by simp, rfl⟩ (fun t σ2 H2 ht h => ?_) (fun σ2 H2 h => ?_)⟩
      · obtain ⟨o6', rfl, rfl⟩ := h
        have lX : (spellI ws cs (r.take i) ++ List.replicate t (ws.getD k [])).length ≤ 12012 := by
          rw [List.length_append, List.length_replicate]
          omega
        have mX : ∀ it ∈ spellI ws cs (r.take i) ++ List.replicate t (ws.getD k []), it.length ≤ 12 := fun it hm => by
          rcases List.mem_append.mp hm with hm | hm
          · exact mI it hm
          · rw [(List.mem_replicate.mp hm).2]
            exact wk
        have eX : spellI ws cs (r.take i) ++ List.replicate (t + 1) (ws.getD k []) = (spellI ws cs (r.take i) ++ List.replicate t (ws.getD k [])) ++ [ws.getD k []] := by
          rw [List.replicate_succ', List.append_assoc]
        rw [eX]
        generalize spellI ws cs (r.take i) ++ List.replicate t (ws.getD k []) = X at lX mX ⊢
        have lJ := joinL_len X mX
        have key : ∀ y : List Nat, y.length ≤ 1 → y ++ ws.getD k [] = (if X.isEmpty = true then ws.getD k [] else 32 :: ws.getD k []) → True := fun _ _ _ => trivial
        dsimp only [gName]
        have wS : (S (ws.getD k [])).length ≤ 12 := by rw [S_len]; exact wk
        refine ⟨_, rfl, ⟨_, rfl, _, rfl, iteC (fun hh => ?_) (fun hh => ?_)⟩⟩
        · have hX : X = [] := List.isEmpty_iff.mp hh
          subst hX
          refine ⟨_, _, rfl, rfl, (by decide), _, rfl, _, rfl, wp, _, _, _, rfl, rfl, .inl (.inl h1), tx_at hk2, _, _, rfl, rfl, ?_, _, _, rfl, some (V.int (0 + (t : Int))), ?_, rfl⟩
          · exact Nat.le_trans (Nat.add_le_add_left wS _) (by decide)
          · have eS : S (TL.joinL [32] []) ++ Str.ofString "" ++ S (ws.getD k []) = S (ws.getD k []) := by
              show S [] ++ S [] ++ S (ws.getD k []) = _
              rw [S_cat, S_cat]
              rfl
            have eT : S (TL.joinL [32] ([] ++ [ws.getD k []])) = S (TL.joinL [32] []) ++ Str.ofString "" ++ S (ws.getD k []) := eS.symm
            rw [eT]
            rfl
        · have lS : (S (TL.joinL [32] X)).length ≤ 156156 := by
            rw [S_len]
            omega
          refine ⟨_, _, rfl, rfl, ?_, _, rfl, _, rfl, wp, _, _, _, rfl, rfl, .inl (.inl h1), tx_at hk2, _, _, rfl, rfl, ?_, _, _, rfl, some (V.int (0 + (t : Int))), ?_, rfl⟩
          · exact Nat.le_trans (show (S (TL.joinL [32] X)).length + 1 ≤ 156157 by omega) (by decide)
          · have e1 : S (TL.joinL [32] X) ++ Str.ofString " " = S (TL.joinL [32] X ++ [32]) := S_cat _ [32]
            rw [e1, S_len, List.length_append]
            rw [S_len] at lS
            exact Nat.le_trans (show (TL.joinL [32] X).length + 1 + (S (ws.getD k [])).length ≤ 156169 by omega) (by decide)
          · have eS : S (TL.joinL [32] X) ++ Str.ofString " " ++ S (ws.getD k []) = S (TL.joinL [32] (X ++ [ws.getD k []])) := by
              rw [joinL_snoc, if_neg (by rw [hh]; decide)]
              show S (TL.joinL [32] X) ++ S [32] ++ S (ws.getD k []) = _
              rw [S_cat, S_cat, List.append_assoc]
              rfl
            have eE : (X ++ [ws.getD k []]).isEmpty = false := by simp
            rw [← eS, eE]
            rfl
      · obtain ⟨o6', rfl, rfl⟩ := h
        refine ⟨some (.int (k : Nat)), o6', ?_, rfl⟩
        have eX : spellI ws cs (r.take (i + 1)) = spellI ws cs (r.take i) ++ List.replicate (((cs.getD k 0 : Nat) : Int).toNat) (ws.getD k []) := by
          rw [hri, spellI_add, Int.toNat_natCast]
          congr 1
          show List.replicate (cs.getD k 0) (ws.getD k []) ++ [] = _
          rw [List.append_nil]
        rw [eX]
    · obtain ⟨o5, o6, rfl, rfl⟩ := h
      rw [nv_len, List.take_length]
      exact go_ret (go_var rfl q)
/-- the law's own reading, sign by sign -/
def stepR (st : List (List Nat) × List Nat) (c : Nat) : List (List Nat) × List Nat := if c = 32 then (st.1 ++ [st.2], []) else (st.1, st.2 ++ [c])
theorem foldR : ∀ (l : List Nat) (d : List (List Nat)) (acc : List Nat), (l.foldl stepR (d, acc)).1 ++ [(l.foldl stepR (d, acc)).2] = d ++ itemsA acc l
  | [], d, acc => rfl
  | c :: r, d, acc => by
    rw [List.foldl_cons]
    by_cases h : c = 32
    · have e : stepR (d, acc) c = (d ++ [acc], []) := by unfold stepR; rw [if_pos h]
      rw [e, foldR r (d ++ [acc]) []]
      show _ = d ++ (if c = 32 then acc :: itemsA [] r else itemsA (acc ++ [c]) r)
      rw [if_pos h, List.append_assoc]
      rfl
    · have e : stepR (d, acc) c = (d, acc ++ [c]) := by unfold stepR; rw [if_neg h]
      rw [e, foldR r d (acc ++ [c])]
      show _ = d ++ (if c = 32 then acc :: itemsA [] r else itemsA (acc ++ [c]) r)
      rw [if_neg h]
theorem foldR_end (l : List Nat) : ((l ++ [32]).foldl stepR ([], [])).1 = itemsA [] l := by
  rw [List.foldl_append]
  have h := foldR l [] []
  generalize l.foldl stepR ([], []) = st at h ⊢
  show (stepR st 32).1 = _
  unfold stepR
  rw [if_pos rfl]
  simpa using h
theorem foldR_len : ∀ (l : List Nat) (d : List (List Nat)) (acc : List Nat), (l.foldl stepR (d, acc)).1.length + (l.foldl stepR (d, acc)).2.length ≤ d.length + acc.length + l.length
  | [], d, acc => by simp
  | c :: r, d, acc => by
    rw [List.foldl_cons]
    by_cases h : c = 32
    · have e : stepR (d, acc) c = (d ++ [acc], []) := by unfold stepR; rw [if_pos h]
      rw [e]
      have := foldR_len r (d ++ [acc]) []
      simp only [List.length_append, List.length_cons, List.length_nil] at this ⊢
      omega
    · have e : stepR (d, acc) c = (d, acc ++ [c]) := by unfold stepR; rw [if_neg h]
      rw [e]
      have := foldR_len r d (acc ++ [c])
      simp only [List.length_append, List.length_cons, List.length_nil] at this ⊢
      omega
theorem numOf_at : ∀ (i : Nat) (ws : List (List Nat)) (x : List Nat) (k : Nat), numOf i ws x = some k → ∃ j, k = i + j ∧ ws[j]? = some x ∧ ∀ m, m < j → ws[m]? ≠ some x
  | _, [], _, _, h => by cases h
  | i, w :: r, x, k, h => by
    rw [show numOf i (w :: r) x = if w = x then some i else numOf (i + 1) r x from rfl] at h
    split at h
    · rename_i e
      cases h
      exact ⟨0, rfl, by rw [e]; rfl, fun m hm => absurd hm (Nat.not_lt_zero m)⟩
    · rename_i e
      obtain ⟨j, h1, h2, h3⟩ := numOf_at (i + 1) r x k h
      refine ⟨j + 1, by omega, h2, fun m hm => ?_⟩
      cases m with
      | zero => exact fun z => e (Option.some.inj z)
      | succ m => exact h3 m (by omega)
theorem numOf_no : ∀ (i : Nat) (ws : List (List Nat)) (x : List Nat), numOf i ws x = none → x ∉ ws
  | _, [], _, _ => by simp
  | i, w :: r, x, h => by
    rw [show numOf i (w :: r) x = if w = x then some i else numOf (i + 1) r x from rfl] at h
    split at h
    · cases h
    · rename_i e
      intro m
      rcases List.mem_cons.mp m with m | m
      · exact e m.symm
      · exact numOf_no (i + 1) r x h m
def sp_law_read (K : PySem.W.Frag) : Sp := fun vs H Q _ => ∃ (wp : Addr) (ws : List (List Nat)) (l : List Nat), vs = [.ref wp, .str (S l)] ∧ H wp = some (.lst (ws.map tx)) ∧ l.length ≤ 200000 ∧
  ∀ (p : Addr) (H' : Hp), H' p = some (.lst (nv (readN ws l))) → Same H H' → Q (.ref p) H'
theorem ok_law_read : FnOk P w K mg base CX0 1 T.f_law_read T.fd_law_read ["words", "text"] (sp_law_read K) := by
  refine T.F_law_read.ok sc_law_read (fun vs H Q E h => ?_) (fun cdv A outer s H vs Q E hr h => ?_)
  · obtain ⟨wp, ws, l, rfl, _⟩ := h
    rfl
  · obtain ⟨wp, ws, l, rfl, hw, hl, q⟩ := h
    refine ⟨_, (pss_cons (ps_par (i := 2) (j := 3) rfl sc_law_read.nd rfl rfl (by decide) rfl rfl (pa_cons (pe_lst pa_nil) (pa_cons pe_str pa_nil)) (by rfl))
    (pss_cons (ps_for PassesOwn.never rfl (pi_str (pe_op op_add_str (pv 1) pe_str)) (pg_name (i := 4) sc_law_read.nd rfl (.inl rfl))
      (pss_one (ps_if (pt_cmpR op_eq (pv 4) pe_str (nomark _))
        (pss_cons (ps_set (i := 2) sc_law_read.nd rfl (.inl rfl) (pe_op op_cat (pv 2) (pe_ifExp (pt_cmpR op_in_seq (pv 3) (pv 0) rfl) (pe_lst (pa_cons (pe_bm PySem.F.plainAttrs_list PySem.F.slot_list_index PySem.F.type_list_index mt_index (pv 0) (pa_cons (pv 3) pa_nil)) pa_nil)) (pe_lst pa_nil))))
        (pss_one (ps_set (i := 3) sc_law_read.nd rfl (.inl rfl) pe_str)))
        (pss_one (ps_set (i := 3) sc_law_read.nd rfl (.inl rfl) (pe_op op_add_str (pv 3) (pv 4)))))))
    (pss_one (ps_ret (pv 2))))), ?_⟩
    have fl : (ws.map tx).all flatV = true := by
      rw [List.all_map, List.all_eq_true]
      exact fun w _ => rfl
    refine go_seq ⟨Nat.zero_le _, fun p0 n0 => ⟨_, _, rfl, ?_⟩⟩
    have e0 := same_new (o := HO.lst []) n0
    have hp0 : upd H p0 (HO.lst []) p0 = some (.lst (nv [])) := upd_same
    generalize upd H p0 (HO.lst []) = H0 at e0 hp0 ⊢
    dsimp only
    have eT : S l ++ Str.ofString " " = S (l ++ [32]) := S_cat l [32]
    refine go_seq ⟨_, rfl, _, _, rfl, rfl, ?_, _, rfl, ?_⟩
    · rw [S_len]
      exact Nat.le_trans (show l.length + 1 ≤ 200001 by omega) (by decide)
    rw [eT]
    refine for_it walk_str (fun i σ H' => ∃ (o4 : Option V) (fa : Addr), σ = [some (.ref wp), some (.str (S l)), some (.ref fa), some (.str (S (((l ++ [32]).take i).foldl stepR ([], [])).2)), o4] ∧ H' fa = some (.lst (nv ((((l ++ [32]).take i).foldl stepR ([], [])).1.filterMap (numOf 0 ws)))) ∧ Same H0 H')
      ⟨none, p0, rfl, hp0, Same.refl _⟩ (fun _ _ _ _ _ => trivial) (fun i x σ Hc Hx hi h y => ?_) (fun σ Hc h => ?_)
    · obtain ⟨rfl, c, hc, rfl⟩ := y
      obtain ⟨o4, fa, rfl, hfa, e⟩ := h
      have hc' : (l ++ [32])[i]? = some c := by simpa [S] using hc
      have hs : (l ++ [32]).take (i + 1) = (l ++ [32]).take i ++ [c] := take_succ hc'
      have lF := foldR_len ((l ++ [32]).take i) [] []
      have lt : ((l ++ [32]).take i).length ≤ (l ++ [32]).length := List.length_take_le' ..
      rw [hs, List.foldl_append]
      have llen : (l ++ [32]).length = l.length + 1 := by rw [List.length_append]; rfl
      generalize ((l ++ [32]).take i).foldl stepR ([], []) = st at hfa lF ⊢
      have l1 : st.1.length + st.2.length ≤ 200001 := by
        simp only [List.length_nil, Nat.zero_add] at lF
        omega
      have lN : (st.1.filterMap (numOf 0 ws)).length ≤ st.1.length := List.length_filterMap_le ..
      dsimp only [gName]
      show tIfS _ _ _ _ _ _
      refine go_if (go_test (go_op (go_var rfl (go_c ⟨rfl, _, rfl, ?_⟩))))
      have ec : decide (V.str ⟨#[c]⟩ = V.str (Str.ofString " ")) = decide (c = 32) := is_blank c
      rw [ec]
      by_cases h32 : c = 32
      · rw [decide_eq_true h32]
        refine iteT (B := _) ?_
        have est : [c].foldl stepR st = (st.1 ++ [st.2], []) := by
          show stepR st c = _
          unfold stepR
          rw [if_pos h32]
        rw [est]
        have hw1 := (e0.trans e) _ _ hw
        have fin : ∀ (p1 : Addr) (xs : List Nat) (H1 : Hp), Same Hx H1 → H1 p1 = some (.lst (nv xs)) → (st.1.filterMap (numOf 0 ws)) ++ xs = (st.1 ++ [st.2]).filterMap (numOf 0 ws) → xs.length ≤ 1 → ∀ Q' : VK, (∀ p2 H2, Same Hx H2 → H2 p2 = some (.lst (nv ((st.1 ++ [st.2]).filterMap (numOf 0 ws)))) → Q' (.ref p2) H2) → rCat (.ref fa) (.ref p1) H1 Q' := fun p1 xs H1 e1 h1 ex lx Q' q' => by
          refine ⟨fa, p1, _, _, rfl, rfl, e1 _ _ hfa, h1, ?_, fun p2 n2 => q' p2 _ (e1.trans (same_new n2)) ?_⟩
          · rw [nv_len, nv_len]
            exact Nat.le_trans (show (st.1.filterMap (numOf 0 ws)).length + xs.length ≤ 200002 by omega) (by decide)
          · rw [upd_same, ← nv_app, ex]
        have after : ∀ p2 H2, Same Hx H2 → H2 p2 = some (.lst (nv ((st.1 ++ [st.2]).filterMap (numOf 0 ws)))) → True := fun _ _ _ _ => trivial
        refine go_seq (go_asg (go_op (go_var rfl ?_)))
        refine ⟨_, rfl, _, rfl, wp, _, rfl, .inl (.inl (.inl hw1)), rfl, fl, _, rfl, ?_⟩
        cases hk : numOf 0 ws st.2 with
        | none =>
          have hin : inV (V.str (S st.2)) (ws.map tx) = false := by
            cases hz : inV (V.str (S st.2)) (ws.map tx) with
            | false => rfl
            | true =>
              obtain ⟨w, hwm, e⟩ := (inV_texts ws).mp hz
              injection e with e
              exact absurd (S_inj e ▸ hwm) (numOf_no 0 ws st.2 hk)
          show if inV (V.str (S st.2)) (ws.map tx) = true then _ else _
          rw [hin]
          refine iteF (A := _) ⟨Nat.zero_le _, fun p1 n1 => fin p1 [] _ (same_new n1) upd_same ?_ (by decide) _ fun p2 H2 e2 h2 => ?_⟩
          · rw [List.filterMap_append, List.filterMap_cons, hk]
            rfl
          · dsimp only [gName]
            refine go_asg (go_c ?_)
            dsimp only [gName]
            exact ⟨_, p2, rfl, h2, e.trans e2⟩
        | some k =>
          obtain ⟨j, hj, hj1, hj2⟩ := numOf_at 0 ws st.2 k hk
          have hkj : k = j := by omega
          subst hkj
          have hin : inV (V.str (S st.2)) (ws.map tx) = true := (inV_texts ws).mpr ⟨st.2, List.mem_of_getElem? hj1, rfl⟩
          show if inV (V.str (S st.2)) (ws.map tx) = true then _ else _
          rw [hin]
          refine iteT (B := _) ?_
          refine ⟨_, rfl, .inl ⟨rfl, _, .inl (.inl hw1)⟩, _, rfl, wp, ws.map tx, V.str (S st.2), k, tx st.2, rfl, rfl, .inl (.inl hw1), rfl, fl, by rw [List.getElem?_map, hj1]; rfl, (by show (S st.2 == S st.2) = true; simp), fun m' z' hm hz => ?_, sz1, fun p1 n1 => fin p1 [k] _ (same_new n1) upd_same ?_ (Nat.le_refl 1) _ fun p2 H2 e2 h2 => ?_⟩
          · obtain ⟨w', hw', rfl⟩ := map_at hz
            show (S w' == S st.2) = false
            exact beq_eq_false_iff_ne.mpr fun e => hj2 m' hm (by rw [hw', S_inj e])
          · rw [List.filterMap_append, List.filterMap_cons, hk]
            rfl
          · dsimp only [gName]
            refine go_asg (go_c ?_)
            dsimp only [gName]
            exact ⟨_, p2, rfl, h2, e.trans e2⟩
      · rw [decide_eq_false h32]
        refine iteF (A := _) ?_
        have est : [c].foldl stepR st = (st.1, st.2 ++ [c]) := by
          show stepR st c = _
          unfold stepR
          rw [if_neg h32]
        rw [est]
        refine go_asg ⟨_, rfl, _, rfl, _, _, rfl, rfl, ?_, ?_⟩
        · rw [S_len]
          exact Nat.le_trans (show st.2.length + 1 ≤ 200002 by omega) (by decide)
        · have eS : S st.2 ++ (⟨#[c]⟩ : Str) = S (st.2 ++ [c]) := S_cat _ [c]
          rw [eS]
          exact ⟨_, fa, rfl, hfa, e⟩
    · obtain ⟨o4, fa, rfl, hfa, e⟩ := h
      have sz : (S (l ++ [32])).cps.size = (l ++ [32]).length := by simp [S]
      rw [sz, List.take_length, foldR_end] at hfa
      exact go_ret (go_var rfl (q fa Hc hfa (e0.trans e)))
end
end K10
namespace K10
open PySem PySem.Spec PyProof.Rows L2 Kx SX LamX
section
variable {P : Program} {w : World} {K : PySem.W.Frag} {mg : Str → Option Value} {base : Heap} (T : Tx K mg)
def sp_law_bent (K : PySem.W.Frag) : Sp := fun vs H Q _ => ∃ (a c wp : Addr) (ws : List (List Nat)) (l : List Nat) (n : Nat), vs = [.ref a, .ref wp, .str (S l)] ∧ H wp = some (.lst (ws.map tx)) ∧ 1 ≤ ws.length ∧ ws.length ≤ 40 ∧ (∀ w ∈ ws, w.all sg = true ∧ w.length ≤ 12) ∧ wp ≠ a ∧ l.all sg = true ∧ l.length ≤ 90000 ∧ Wh H a c n ∧ n < 900000 ∧
  ∀ (m : List Nat) (H' : Hp), m.all sg = true → m.length ≤ 2 * l.length + 20 → Mv a H H' → Wh H' a c (n + 4) → Q (.str (S m)) H'
theorem ok_law_bent : FnOk P w K mg base CX0 3 T.f_law_bent T.fd_law_bent ["bench", "words", "text"] (sp_law_bent K) := by
  refine okT T.F_law_bent sc_law_bent (by decide +kernel) (by decide) (fun vs H Q E h => ?_) (fun cdv A outer s H vs Q E hr h => ?_)
  · obtain ⟨a, c, wp, ws, l, n, rfl, _⟩ := h
    rfl
  · obtain ⟨a, c, wp, ws, l, n, rfl, hw, l1, l2, hws, hwa, hl, ll, wh, hn, q⟩ := h
    refine ⟨_, (psst_cons (PST.of (ps_par (i := 3) (j := 4) rfl sc_law_bent.nd rfl rfl (by decide) rfl rfl (pa_cons (pe_call (ok_law_write T) (hr.mono (by decide)) (by rfl) T.g_law_write T.F_law_write.kp T.b_law_write .nil pass0 (pa_cons (pv 0) (pa_cons (pe_op op_add (pe_callB call_len_str (by rfl) T.m_len PySem.boot_len (pa_cons (pv 2) pa_nil)) pe_int) pa_nil))) (pa_cons (pe_call (ok_law_write T) (hr.mono (by decide)) (by rfl) T.g_law_write T.F_law_write.kp T.b_law_write .nil pass0 (pa_cons (pv 0) (pa_cons pe_int pa_nil))) pa_nil)) (by rfl)))
    (psst_cons (PST.of (ps_if (pt_cmpR op_eq (pv 4) pe_int (nomark _))
      (pss_one (ps_ret (pe_op op_add_str (pe_op op_add_str (pe_slice C8.sl_txt (pv 2) po_none (po_some (pv 3))) (pe_call (ok_law_one_of T) (hr.mono (by decide)) (by rfl) T.g_law_one_of T.F_law_one_of.kp T.b_law_one_of .nil pass0 (pa_cons (pv 0) (pa_cons (pe_lst (pa_cons pe_str (pa_cons pe_str (pa_cons pe_str (pa_cons pe_str pa_nil))))) pa_nil)))) (pe_slice C8.sl_txt (pv 2) (po_some (pv 3)) po_none))))
      pss_nil))
    (psst_cons (PST.of (ps_if (pt_cmpR op_eq (pv 4) pe_int (nomark _))
      (pss_one (ps_ret (pe_op op_add_str (pe_slice C8.sl_txt (pv 2) po_none (po_some (pv 3))) (pe_slice C8.sl_txt (pv 2) (po_some (pe_op op_add (pv 3) pe_int)) po_none))))
      pss_nil))
    (psst_cons (PST.of (ps_if (pt_cmpR op_eq (pv 4) pe_int (nomark _))
      (pss_one (ps_ret (pe_op op_add_str (pe_op op_add_str (pe_slice C8.sl_txt (pv 2) po_none (po_some (pv 3))) (pe_call (ok_law_one_of T) (hr.mono (by decide)) (by rfl) T.g_law_one_of T.F_law_one_of.kp T.b_law_one_of .nil pass0 (pa_cons (pv 0) (pa_cons (pe_lst (pa_cons pe_str (pa_cons pe_str (pa_cons pe_str pa_nil)))) pa_nil)))) (pe_slice C8.sl_txt (pv 2) (po_some (pe_op op_add (pv 3) pe_int)) po_none))))
      pss_nil))
    (psst_cons (CwR.pst_if (pt_cmpR op_eq (pv 4) pe_int (nomark _)) (CwR.psst_one (CwR.pst_ret (pet_repl1 (pv 2) rfl (by decide) (by decide) (by rfl) (by rfl) (by rfl)))) CwR.psst_nil)
    (PSsT.of (pss_one (ps_ret (pe_ifExp (pt_cmpR op_eq (pv 4) pe_int (nomark _)) (pe_op op_add_str (pe_op op_add_str (pv 2) pe_str) (pe_call (ok_law_one_of T) (hr.mono (by decide)) (by rfl) T.g_law_one_of T.F_law_one_of.kp T.b_law_one_of .nil pass0 (pa_cons (pv 0) (pa_cons (pv 1) pa_nil)))) (pe_op op_add_str pe_str (pv 2))))))))))), ?_⟩
    have lS : (S l).length ≤ sizeLine := by rw [S_len]; exact Nat.le_trans ll (by decide)
    have szs : ∀ x y : List Nat, x.length ≤ 200100 → y.length ≤ 200100 → (S x).length + (S y).length ≤ sizeLine := fun x y h1 h2 => by
      rw [S_len, S_len]
      exact Nat.le_trans (show x.length + y.length ≤ 400200 by omega) (by decide)
    have sl : ∀ lo hi, ∃ m : List Nat, Txt.slice (S l) lo hi = S m ∧ m.length ≤ l.length ∧ m.all sg = true := fun lo hi => by
      obtain ⟨m, e, h1, h2⟩ := slice_part (l := l) (lo := lo) (hi := hi)
      exact ⟨m, e, h1, by rw [List.all_eq_true]; exact fun x hx => List.all_eq_true.mp hl x (h2 x hx)⟩
    refine go_seq ⟨_, rfl, _, rfl, S l, rfl, lS, _, _, rfl, rfl, a, c, ((S l).length : Int) + 1, _, rfl, by omega, by rw [S_len]; omega, wh, by omega, fun ai H1 a0 a1 mv1 w1 => ?_⟩
    refine ⟨_, rfl, a, c, 6, _, rfl, by decide, by decide, w1, by omega, fun wy H2 b0 b1 mv2 w2 => ?_⟩
    refine ⟨_, _, rfl, ?_⟩
    have mvA := mv1.trans mv2
    have hw2 := mvA _ _ hwa hw
    clear mv1 mv2 w1 wh hw
    dsimp only
    obtain ⟨m1, e1, k1, g1⟩ := sl none (some ai)
    obtain ⟨m2, e2, k2, g2⟩ := sl (some ai) none
    obtain ⟨m3, e3, k3, g3⟩ := sl (some (ai + 1)) none
    have three : ∀ (x y z : List Nat), x.all sg = true → y.all sg = true → z.all sg = true → (x ++ y ++ z).all sg = true := fun x y z h1 h2 h3 => by
      rw [List.all_append, List.all_append, h1, h2, h3]
      rfl
    have l3 : ∀ x y z : List Nat, (x ++ y ++ z).length = x.length + y.length + z.length := fun x y z => by
      rw [List.length_append, List.length_append]
    refine go_seq (go_if (go_test (go_op (go_var rfl (go_c ⟨rfl, _, rfl, iteC (fun hh => ?_) (fun hh => ?_)⟩)))))
    · refine go_ret ⟨_, rfl, _, rfl, _, rfl, _, rfl, lS, _, rfl, sz4, fun p np => ?_⟩
      refine ⟨a, p, c, _, _, rfl, .inl (.inl upd_same), by simp, (show 4 ≤ 1000000 by decide), w2.new np, by omega, fun H' mm => .inl (.inl (mm _ _ (w2.ne np) upd_same)), fun v H3 hv m3' w3 => ?_⟩
      obtain ⟨mv, rfl, hm1, hm2⟩ : ∃ mv : List Nat, v = .str (S mv) ∧ mv.all sg = true ∧ mv.length ≤ 2 := by
        simp only [List.mem_cons, List.not_mem_nil, or_false] at hv
        rcases hv with rfl | rfl | rfl | rfl
        · exact ⟨[32], rfl, by decide, by decide⟩
        · exact ⟨[97], rfl, by decide, by decide⟩
        · exact ⟨[98], rfl, by decide, by decide⟩
        · exact ⟨[32, 32], rfl, by decide, by decide⟩
      rw [e1]
      refine ⟨_, _, rfl, rfl, szs _ _ (by omega) (by omega), _, rfl, _, rfl, _, rfl, _, rfl, lS, ?_⟩
      rw [e2, S_cat]
      refine ⟨_, _, rfl, rfl, szs _ _ (by rw [List.length_append]; omega) (by omega), ?_⟩
      rw [S_cat]
      exact q _ _ (three _ _ _ g1 hm1 g2) (by rw [l3]; omega) ((mvA.trans (Mv.of (same_new np))).trans m3') (w3.lt (by omega))
    dsimp only [tNext]
    refine go_seq (go_if (go_test (go_op (go_var rfl (go_c ⟨rfl, _, rfl, iteC (fun hh => ?_) (fun hh => ?_)⟩)))))
    · refine go_ret ⟨_, rfl, _, rfl, _, rfl, _, rfl, lS, _, rfl, _, rfl, _, _, rfl, rfl, _, rfl, _, rfl, lS, ?_⟩
      rw [e1, e3]
      refine ⟨_, _, rfl, rfl, szs _ _ (by omega) (by omega), ?_⟩
      rw [S_cat]
      exact q _ _ (by rw [List.all_append, g1, g3]; rfl) (by rw [List.length_append]; omega) mvA (w2.lt (by omega))
    dsimp only [tNext]
    refine go_seq (go_if (go_test (go_op (go_var rfl (go_c ⟨rfl, _, rfl, iteC (fun hh => ?_) (fun hh => ?_)⟩)))))
    · refine go_ret ⟨_, rfl, _, rfl, _, rfl, _, rfl, lS, _, rfl, sz3, fun p np => ?_⟩
      refine ⟨a, p, c, _, _, rfl, .inl (.inl upd_same), by simp, (show 3 ≤ 1000000 by decide), w2.new np, by omega, fun H' mm => .inl (.inl (mm _ _ (w2.ne np) upd_same)), fun v H3 hv m3' w3 => ?_⟩
      obtain ⟨mv, rfl, hm1, hm2⟩ : ∃ mv : List Nat, v = .str (S mv) ∧ mv.all sg = true ∧ mv.length ≤ 2 := by
        simp only [List.mem_cons, List.not_mem_nil, or_false] at hv
        rcases hv with rfl | rfl | rfl
        · exact ⟨[97], rfl, by decide, by decide⟩
        · exact ⟨[32], rfl, by decide, by decide⟩
        · exact ⟨[122], rfl, by decide, by decide⟩
      rw [e1]
      refine ⟨_, _, rfl, rfl, szs _ _ (by omega) (by omega), _, rfl, _, rfl, _, _, rfl, rfl, _, rfl, _, rfl, lS, ?_⟩
      rw [e3, S_cat]
      refine ⟨_, _, rfl, rfl, szs _ _ (by rw [List.length_append]; omega) (by omega), ?_⟩
      rw [S_cat]
      exact q _ _ (three _ _ _ g1 hm1 g3) (by rw [l3]; omega) ((mvA.trans (Mv.of (same_new np))).trans m3') (w3.lt (by omega))
    dsimp only [tNext]
    refine go_seq (go_if (go_test (go_op (go_var rfl (go_c ⟨rfl, _, rfl, iteC (fun hh => ?_) (fun hh => ?_)⟩)))))
    · refine go_ret ⟨_, rfl, _, rfl, by rw [S_len]; omega, ?_⟩
      obtain ⟨m, em, lm, cm⟩ := repOne_S l (Str.ofString " ")
      rw [em]
      exact q _ _ (by rw [List.all_eq_true]; exact fun x hx => List.all_eq_true.mp hl x (cm x hx)) (by omega) mvA (w2.lt (by omega))
    dsimp only [tNext]
    refine go_ret ?_
    refine ⟨_, rfl, rfl, _, rfl, iteC (fun hh => ?_) (fun hh => ?_)⟩
    · have eb : S l ++ Str.ofString " " = S (l ++ [32]) := S_cat l [32]
      refine ⟨_, rfl, _, _, rfl, rfl, szs l [32] (by omega) (by decide), _, rfl, _, rfl, ?_⟩
      refine ⟨a, wp, c, _, _, rfl, .inl (.inl hw2), ?_, ?_, w2, by omega, fun H' mm => .inl (.inl (mm _ _ hwa hw2)), fun v H3 hv m3' w3 => ?_⟩
      · intro z
        have := congrArg List.length z
        rw [List.length_map] at this
        cases ws with
        | nil => cases l1
        | cons _ _ => cases this
      · rw [List.length_map]
        omega
      obtain ⟨w, hwm, rfl⟩ := List.mem_map.mp hv
      have hww := hws w hwm
      rw [eb]
      refine ⟨_, _, rfl, rfl, szs (l ++ [32]) w (by rw [List.length_append]; show l.length + 1 ≤ _; omega) (by omega), ?_⟩
      rw [S_cat]
      exact q _ _ (three _ _ _ hl (by decide) hww.1) (by rw [l3]; show l.length + 1 + w.length ≤ _; omega) (mvA.trans m3') (w3.lt (by omega))
    · have eb : Str.ofString " " ++ S l = S ([32] ++ l) := S_cat [32] l
      refine ⟨_, rfl, _, _, rfl, rfl, szs [32] l (by decide) (by omega), ?_⟩
      rw [eb]
      exact q _ _ (by rw [List.all_append, hl]; decide) (by rw [List.length_append]; show 1 + l.length ≤ _; omega) mvA (w2.lt (by omega))
end
end K10
namespace K10
open PySem PySem.Spec PyProof.Rows L2 Kx SX LamX
section
variable {P : Program} {w : World} {K : PySem.W.Frag} {mg : Str → Option Value} {base : Heap} (T : Tx K mg)
theorem sqT_but {H H' : Hp} {p a : Addr} {o : HO} {xs : List V} (hp : H p = some o) (n1 : ∀ xs, o ≠ .tup xs) (n2 : ∀ ob u, o ≠ .frz ob u) (m : Mv p H H') (h : SqT K H a xs) : SqT K H' a xs := by
  rcases h with (h | ⟨ob, h⟩) | h
  · exact .inl (.inl (m _ _ (ne_of_two h hp (fun z => n1 _ z.symm)) h))
  · exact .inl (.inr ⟨ob, m _ _ (ne_of_two h hp (fun z => n2 _ _ z.symm)) h⟩)
  · exact .inr h
theorem tupN_but {H H' : Hp} {p a : Addr} {o : HO} (hp : H p = some o) (n2 : ∀ ob u, o ≠ .frz ob u) (m : Mv p H H') (h : TupN K H a) : TupN K H' a := by
  rcases h with ⟨ob, xs, h, d⟩ | h
  · exact .inl ⟨ob, xs, m _ _ (ne_of_two h hp (fun z => n2 _ _ z.symm)) h, d⟩
  · exact .inr h
theorem BookAt.mvL {C a bk : Addr} {xs : List V} {H H' : Hp} {ws : List (List Nat)} (ha : H a = some (.lst xs)) (m : Mv a H H') (h : BookAt K C H bk ws) : BookAt K C H' bk ws := by
  obtain ⟨dx, t, h1, h2, h3⟩ := h
  exact ⟨dx, t, m _ _ (ne_of_two h1 ha (fun z => by cases z)) h1, sqT_but ha (fun _ z => by cases z) (fun _ _ z => by cases z) m h2, tupN_but ha (fun _ _ z => by cases z) m h3⟩
theorem wh_ne_words {H : Hp} {a c p : Addr} {n : Nat} {ws : List (List Nat)} (w : Wh H a c n) (h : H p = some (.lst (ws.map tx))) : p ≠ a := fun e => by
  obtain ⟨cs, t, l', h1, _⟩ := w
  rw [e, h1] at h
  injection h with h
  injection h with h
  match ws with
  | [] => cases h
  | x :: r =>
    injection h with h
    cases h
theorem wh_ne_nums {H : Hp} {a c p : Addr} {n : Nat} {d : List Nat} (w : Wh H a c n) (h : H p = some (.lst (nv d))) : p ≠ a := fun e => by
  obtain ⟨cs, t, l', h1, _⟩ := w
  rw [e, h1] at h
  injection h with h
  injection h with h
  match d with
  | [] => cases h
  | x :: r =>
    injection h with h
    cases h
theorem wh_lst {H : Hp} {a c : Addr} {n : Nat} (w : Wh H a c n) : ∃ xs, H a = some (.lst xs) := by
  obtain ⟨cs, t, l', h1, _⟩ := w
  exact ⟨_, h1⟩
theorem sub_str {C : Addr} : PySem.W.subIn K (.type "str") (.ref C) = some false := by
  have e : fastBuiltinMro "str" = some [.type "str", .type "object"] := by decide +kernel
  show (fastBuiltinMro "str").map (·.contains (.ref C)) = some false
  rw [e]
  first
    | rfl
    | simp
/-- no instance of a class -/
def NotN (K : PySem.W.Frag) (C : Addr) (H : Hp) (x : V) : Prop := ∃ n : String, TyX K H x (.type n) ∧ PySem.W.kitOne K (.type n) (.ref C) = some false
theorem NotN.same {C : Addr} {H H' : Hp} {x : V} (e : Same H H') (h : NotN K C H x) : NotN K C H' x := by
  obtain ⟨n, h1, h2⟩ := h
  exact ⟨n, tyx_same e h1, h2⟩
theorem NotN.ext {C : Addr} {H H' : Hp} {x : V} (e : ExtN H H') (h : NotN K C H x) : NotN K C H' x := by
  obtain ⟨n, h1, h2⟩ := h
  exact ⟨n, tyx_ext e h1, h2⟩
theorem NotN.c {C : Addr} {H : Hp} {x : V} (h : NotN K C H x) : NotC K C H x := by
  obtain ⟨n, h1, h2⟩ := h
  exact ⟨_, h1, h2⟩
theorem hasInt_ext {H H' : Hp} {x : V} (e : ExtN H H') (h : HasInt K H x) : HasInt K H' x := by
  obtain ⟨n, a, b, t, r⟩ := h
  exact ⟨n, a, b, tyx_ext e t, r⟩
theorem sqQ_ext {H H' : Hp} {a : Addr} {xs : List V} (e : ExtN H H') (h : SqQ K H a xs) : SqQ K H' a xs := h.imp (sqL_ext e) (sqT_ext e)
theorem RowArg.same {H H' : Hp} {x : V} {n : Nat} {b : Bool} (e : Same H H') (h : RowArg K H x n b) : RowArg K H' x n b := by
  rcases h with ⟨h1, t, h2, h3⟩ | ⟨p, vs, h1, h2, h3, h4, h5⟩
  · exact .inl ⟨h1, t, tyx_same e h2, h3⟩
  · exact .inr ⟨p, vs, h1, Same.q e h2, h3, fun v m => (h4 v m).same e, h5⟩
theorem RowArg.ext {H H' : Hp} {x : V} {n : Nat} {b : Bool} (e : ExtN H H') (h : RowArg K H x n b) : RowArg K H' x n b := by
  rcases h with ⟨h1, t, h2, h3⟩ | ⟨p, vs, h1, h2, h3, h4, h5⟩
  · exact .inl ⟨h1, t, tyx_ext e h2, h3⟩
  · exact .inr ⟨p, vs, h1, sqQ_ext e h2, h3, fun v m => hasInt_ext e (h4 v m), h5⟩
theorem str_none {H : Hp} {v : V} {n : String} (t : TyX K H v (.type n)) (k : kitB n "str" = some false) : StrIs K H v none := ⟨n, t, k⟩
theorem core_step {a : Addr} {H H' : Hp} (m : Mv a H H') : Same (core a H) (core a H') := core_same (core_mv m) fun b o h => (of_core h).1
theorem lst_core {a p : Addr} {H : Hp} {xs : List V} (h : H p = some (.lst xs)) (n : p ≠ a) : SqQ K (core a H) p xs := .inl (.inl (.inl (core_at h n (fun ps z => by cases z))))
theorem CArg.ext {H H' : Hp} {z : V} {n : Nat} {o : Option (List Nat)} (e : ExtN H H') (h : CArg K H z n o) : CArg K H' z n o := by
  rcases h with ⟨⟨t, h1, h2⟩, h3, h4⟩ | ⟨a, vs, h1, h2, h3, h4, h5⟩
  · exact .inl ⟨⟨t, tyx_ext e h1, h2⟩, hasInt_ext e h3, h4⟩
  · exact .inr ⟨a, vs, h1, sqQ_ext e h2, h3, fun v m => hasInt_ext e (h4 v m), h5⟩
theorem row_bad {H : Hp} {p : Addr} {xs : List V} {x : V} {n : Nat} (h : SqQ K H p xs) (l : xs.length ≤ 20000) (hx : x ∈ xs) (hw : withinV x (some 0) (some ((n : Int) - 1)) = false) (hi : ∀ v ∈ xs, HasInt K H v) : RowArg K H (.ref p) n false := by
  refine .inr ⟨p, xs, rfl, h, l, hi, ?_⟩
  have : (xs.all fun v => withinV v (some 0) (some ((n : Int) - 1))) = false := by
    cases e : (xs.all fun v => withinV v (some 0) (some ((n : Int) - 1))) with
    | false => rfl
    | true =>
      have := List.all_eq_true.mp e x hx
      rw [hw] at this
      cases this
  rw [this, Bool.and_false]
theorem row_one {H : Hp} {p : Addr} {v : V} {n : Nat} (h : SqQ K H p [v]) (hv : HasInt K H v) (w : withinV v (some 0) (some ((n : Int) - 1)) = false) : RowArg K H (.ref p) n false :=
  row_bad h (show 1 ≤ 20000 by decide) (List.mem_singleton.mpr rfl) w (fun x m => by rw [List.mem_singleton.mp m]; exact hv)
theorem row_wide {H : Hp} {p : Addr} {n : Nat} (h : SqQ K H p (List.replicate 10001 (V.int 0))) : RowArg K H (.ref p) n false := by
  refine .inr ⟨p, _, rfl, h, by rw [List.length_replicate]; omega, fun x m => by rw [(List.mem_replicate.mp m).2]; exact hasInt_int _, ?_⟩
  rw [List.length_replicate]
  rfl
theorem cnt_no {n : Nat} {xs : List V} (h : xs.length ≠ n ∨ ∃ x ∈ xs, withinV x (some 0) (some 12) = false) : cntO n xs = none := by
  unfold cntO
  rw [if_neg]
  intro e
  rw [Bool.and_eq_true, decide_eq_true_eq] at e
  rcases h with h | ⟨x, hx, hw⟩
  · exact h e.1
  · have := List.all_eq_true.mp e.2 x hx
    rw [hw] at this
    cases this
theorem carg_no {H : Hp} {p : Addr} {xs : List V} {n : Nat} (h : SqQ K H p xs) (l : xs.length ≤ 20000) (hi : ∀ v ∈ xs, HasInt K H v) (hx : xs.length ≠ n ∨ ∃ x ∈ xs, withinV x (some 0) (some 12) = false) : CArg K H (.ref p) n none :=
  .inr ⟨p, xs, rfl, h, l, hi, (cnt_no hx).symm⟩
theorem carg_sc {H : Hp} {z : V} {n : Nat} (h : ∃ t, TyX K H z (.type t) ∧ PySem.W.kitAny K (.type t) [.type "list", .type "tuple"] = some false) (hi : HasInt K H z) (n1 : 1 ≤ n) (hw : withinV z (some 0) (some 12) = false) : CArg K H z n none :=
  .inl ⟨h, hi, (cnt_no (.inr ⟨z, by rw [List.mem_replicate]; exact ⟨by omega, rfl⟩, hw⟩)).symm⟩
theorem ints_rep {H : Hp} (k : Nat) (i : Int) : ∀ v ∈ List.replicate k (V.int i), HasInt K H v := fun v m => by
  rw [(List.mem_replicate.mp m).2]
  exact hasInt_int _
theorem ints_nv {H : Hp} (r : List Nat) : ∀ v ∈ nv r, HasInt K H v := fun v m => by
  obtain ⟨z, _, rfl⟩ := nv_mem m
  exact hasInt_int _
theorem ints_app {H : Hp} {xs : List V} {x : V} (h : ∀ v ∈ xs, HasInt K H v) (hx : HasInt K H x) : ∀ v ∈ xs ++ [x], HasInt K H v := fun v m => by
  rcases List.mem_append.mp m with m | m
  · exact h v m
  · rw [List.mem_singleton.mp m]
    exact hx
/-- where the law's values are drawn -/
structure Rf (K : PySem.W.Frag) (CB a wc wp rp bk : Addr) (TT : List (Addr × Str)) (ws : List (List Nat)) (r : List Nat) (n : Nat) (H : Hp) (nos bads odds : List V) : Prop where
  w : H wp = some (.lst (ws.map tx))
  r : H rp = some (.lst (nv r))
  b : BookAt K CB H bk ws
  wh : Wh H a wc n
  t : Tabs TT H
  no : ∀ v ∈ nos, NotN K CB (core a H) v
  ba : ∀ v ∈ bads, RowArg K (core a H) v ws.length false
  od : ∀ v ∈ odds, CArg K (core a H) v ws.length none
theorem Rf.mv {CB a wc wp rp bk : Addr} {TT : List (Addr × Str)} {ws : List (List Nat)} {r : List Nat} {n n' : Nat} {H H' : Hp} {nos bads odds : List V} (mv : Mv a H H') (w : Wh H' a wc n') (h : Rf K CB a wc wp rp bk TT ws r n H nos bads odds) : Rf K CB a wc wp rp bk TT ws r n' H' nos bads odds := by
  obtain ⟨xs, hx⟩ := wh_lst h.wh
  have e := core_step mv
  exact ⟨mv _ _ (wh_ne_words h.wh h.w) h.w, mv _ _ (wh_ne_nums h.wh h.r) h.r, h.b.mvL hx mv, w, Tabs.mv h.t h.wh mv, fun v hv => (h.no v hv).same e, fun v hv => (h.ba v hv).same e, fun v hv => (h.od v hv).same e⟩
theorem Rf.same {CB a wc wp rp bk : Addr} {TT : List (Addr × Str)} {ws : List (List Nat)} {r : List Nat} {n : Nat} {H H' : Hp} {nos bads odds : List V} (e : Same H H') (h : Rf K CB a wc wp rp bk TT ws r n H nos bads odds) : Rf K CB a wc wp rp bk TT ws r n H' nos bads odds := h.mv (Mv.of e) (h.wh.same e)
theorem all_cons {p : V → Prop} {v : V} {vs : List V} (b : p v) (h : ∀ x ∈ vs, p x) : ∀ x ∈ v :: vs, p x := fun x hx => by
  rcases List.mem_cons.mp hx with rfl | hx
  · exact b
  · exact h x hx
theorem Rf.addN {CB a wc wp rp bk : Addr} {TT : List (Addr × Str)} {ws : List (List Nat)} {r : List Nat} {n : Nat} {H : Hp} {v : V} {nos bads odds : List V} (b : NotN K CB (core a H) v) (h : Rf K CB a wc wp rp bk TT ws r n H nos bads odds) : Rf K CB a wc wp rp bk TT ws r n H (v :: nos) bads odds := ⟨h.w, h.r, h.b, h.wh, h.t, all_cons b h.no, h.ba, h.od⟩
theorem Rf.addB {CB a wc wp rp bk : Addr} {TT : List (Addr × Str)} {ws : List (List Nat)} {r : List Nat} {n : Nat} {H : Hp} {v : V} {nos bads odds : List V} (b : RowArg K (core a H) v ws.length false) (h : Rf K CB a wc wp rp bk TT ws r n H nos bads odds) : Rf K CB a wc wp rp bk TT ws r n H nos (v :: bads) odds := ⟨h.w, h.r, h.b, h.wh, h.t, h.no, all_cons b h.ba, h.od⟩
theorem Rf.addO {CB a wc wp rp bk : Addr} {TT : List (Addr × Str)} {ws : List (List Nat)} {r : List Nat} {n : Nat} {H : Hp} {v : V} {nos bads odds : List V} (b : CArg K (core a H) v ws.length none) (h : Rf K CB a wc wp rp bk TT ws r n H nos bads odds) : Rf K CB a wc wp rp bk TT ws r n H nos bads (v :: odds) := ⟨h.w, h.r, h.b, h.wh, h.t, h.no, h.ba, all_cons b h.od⟩
end
end K10
namespace K10
open PySem PySem.Spec PyProof.Rows L2 Kx SX LamX
section
variable {P : Program} {w : World} {K : PySem.W.Frag} {mg : Str → Option Value} {base : Heap} (T : Tx K mg)
def sp_law_refused_right (K : PySem.W.Frag) (TT : List (Addr × Str)) : Sp := fun vs H Q _ => ∃ (a c wp rp : Addr) (ws : List (List Nat)) (r : List Nat) (n : Nat), vs = [.ref a, .ref wp, .ref rp] ∧ WordsAt K H wp ws ∧ H rp = some (.lst (nv r)) ∧ r.length ≤ 1000 ∧ (∀ k ∈ r, k < ws.length) ∧ Wh H a c n ∧ n < 800000 ∧ Tabs TT H ∧ ∀ H', ExtN (core a H) H' → Wh H' a c (n + 10) → Tabs TT H' → Q (.bl true) H'
theorem ok_law_refused_right {c Pt : Addr} (FC : FunC K "_law_refused_right" "_law_refused_right" s_law_refused_right T.f_law_refused_right T.fd_law_refused_right c) (TB : TabB base mg c Pt) {TT : List (Addr × Str)} (hm : (Pt, ("_law_refused_right.<locals>.<lambda>" : Str)) ∈ TT) (hu : ∀ p ∈ TT, p.1 = Pt → p.2 = "_law_refused_right.<locals>.<lambda>") : FnG P w K mg base CX0 13 T.f_law_refused_right T.fd_law_refused_right ["bench", "words", "row"] (sp_law_refused_right K TT) := by
  obtain ⟨oc, od, kV, doc, pm, an, cdv, ct, osl, efd, lk, hcd⟩ := T.F_law_heard.ex
  rw [efd] at lk
  have hbd : Binds K _ ["ask"] [] := efd ▸ T.b_law_heard
  refine okC FC sc_law_refused_right (fun vs H Q E h => ?_) (fun A outer s H vs Q E hg hr h => ?_)
  · obtain ⟨a, c, wp, rp, ws, r, n, rfl, _⟩ := h
    rfl
  · obtain ⟨a, wc, wp, rp, ws, r, n, rfl, ⟨hw, l1, l2, hwb, nd⟩, hrp, lr, hrk, wh, hn, hT, q⟩ := h
    refine ⟨_, (pss_cons (ps_asg (pe_tup (pa_cons (pe_make T.mk_Book (ok_Book_init T) (hr.mono (by decide)) (by rfl) T.gC_Book T.b_Book_init .nil passF (pa_cons (pv 1) pa_nil)) (pa_cons (pe_callB call_len_seq (by rfl) T.m_len PySem.boot_len (pa_cons (pv 1) pa_nil)) pa_nil))) (pg_tup rfl (pgs_cons (pg_name (i := 3) sc_law_refused_right.nd rfl (.inr rfl)) (pgs_cons (pg_name (i := 4) sc_law_refused_right.nd rfl (.inl rfl)) pgs_nil))))
    (pss_cons (ps_set (i := 5) sc_law_refused_right.nd rfl (.inr rfl) (pe_call (ok_law_one_of T) (hr.mono (by decide)) (by rfl) T.g_law_one_of T.F_law_one_of.kp T.b_law_one_of .nil pass0 (pa_cons (pv 0) (pa_cons (pe_lst (pa_cons pe_non (pa_cons (pv 1) (pa_cons (pe_callTy call_tuple_frz (by rfl) T.m_tuple (by decide +kernel) (pa_cons (pv 1) pa_nil)) (pa_cons pe_str (pa_cons pe_int (pa_cons (pe_lst (pa_cons (pv 3) pa_nil)) pa_nil))))))) pa_nil))))
    (pss_cons (ps_set (i := 6) sc_law_refused_right.nd rfl (.inr rfl) (pe_call (ok_law_one_of T) (hr.mono (by decide)) (by rfl) T.g_law_one_of T.F_law_one_of.kp T.b_law_one_of .nil pass0 (pa_cons (pv 0) (pa_cons (pe_lst (pa_cons pe_non (pa_cons pe_int (pa_cons pe_str (pa_cons (pe_lst (pa_cons (pv 4) pa_nil)) (pa_cons (pe_lst (pa_cons (pe_un un_neg pe_int) pa_nil)) (pa_cons (pe_lst (pa_cons pe_bl pa_nil)) (pa_cons (pe_lst (pa_cons (pe_lst (pa_cons pe_int pa_nil)) pa_nil)) (pa_cons (pe_op op_cat (pv 2) (pe_lst (pa_cons pe_non pa_nil))) (pa_cons (pe_op op_rep (pe_lst (pa_cons pe_int pa_nil)) pe_int) (pa_cons (pe_disp (pps_cons pe_int pe_int pps_nil) (by rfl) (by rfl) (fun z => by cases z) (by decide)) (pa_cons (pe_op op_cat (pv 2) (pe_lst (pa_cons (pv 4) pa_nil))) pa_nil)))))))))))) pa_nil))))
    (pss_cons (ps_set (i := 7) sc_law_refused_right.nd rfl (.inr rfl) (pe_call (ok_law_one_of T) (hr.mono (by decide)) (by rfl) T.g_law_one_of T.F_law_one_of.kp T.b_law_one_of .nil pass0 (pa_cons (pv 0) (pa_cons (pe_lst (pa_cons pe_non (pa_cons (pe_un un_neg pe_int) (pa_cons pe_int (pa_cons pe_bl (pa_cons pe_str (pa_cons (pe_op op_rep (pe_lst (pa_cons pe_int pa_nil)) (pe_op op_add (pv 4) pe_int)) (pa_cons (pe_lst pa_nil) (pa_cons (pe_op op_cat (pe_op op_rep (pe_lst (pa_cons pe_int pa_nil)) (pe_op op_sub (pv 4) pe_int)) (pe_lst (pa_cons pe_int pa_nil))) (pa_cons (pe_op op_rep (pe_lst (pa_cons pe_non pa_nil)) (pv 4)) (pa_cons (pe_disp (pps_cons pe_int pe_int pps_nil) (by rfl) (by rfl) (fun z => by cases z) (by decide)) (pa_cons (pe_op op_cat (pe_op op_rep (pe_lst (pa_cons pe_int pa_nil)) (pe_op op_sub (pv 4) pe_int)) (pe_lst (pa_cons pe_bl pa_nil))) pa_nil)))))))))))) pa_nil))))
    (pss_cons (ps_set (i := 8) sc_law_refused_right.nd rfl (.inr rfl) (pe_call (ok_law_one_of T) (hr.mono (by decide)) (by rfl) T.g_law_one_of T.F_law_one_of.kp T.b_law_one_of .nil pass0 (pa_cons (pv 0) (pa_cons (pe_lst (pa_cons pe_non (pa_cons pe_int (pa_cons pe_str (pa_cons pe_str (pa_cons pe_str (pa_cons (pe_lst (pa_cons pe_str pa_nil)) (pa_cons (pe_op op_repS pe_str pe_int) (pa_cons pe_bl (pa_cons pe_str pa_nil)))))))))) pa_nil))))
    (pss_cons (ps_set (i := 9) sc_law_refused_right.nd rfl (.inl rfl) (pe_lst (pa_cons (pe_lamcall (T := TT) (c := c) (P := Pt) (k := 7) (by rfl) T.g_law_heard T.F_law_heard.kp lk hcd hbd sc_law_heard rfl (.inl rfl) (heard_gives T) TB rfl hm hu (hr.mono (by decide)) (lamS_by (sc := defScope s_law_refused_right) (by decide +kernel)) rfl (fun _ _ _ _ _ => rfl) (fun A outer s H E f c' hr2 => (pe_call (ok_spelled T) (hr2.mono (by decide)) (by rfl) T.g_spelled T.F_spelled.kp T.b_spelled .nil (passes_call (takes_of rfl rfl rfl rfl) (fun _ _ _ _ h => h)) (pa_cons (pv 5) (pa_cons (pv 6) (pa_cons (pv 7) pa_nil)))))) (pa_cons (pe_lamcallD (T := TT) (z := "a1") (c := c) (P := Pt) (k := 7) (by rfl) T.g_law_heard T.F_law_heard.kp lk hcd hbd sc_law_heard rfl (.inl rfl) (heard_gives T) TB rfl hm hu (hr.mono (by decide)) (lamP_by (sc := defScope s_law_refused_right) (by decide +kernel)) rfl rfl rfl (fun _ _ _ _ _ _ _ _ => ⟨_, rfl, rfl⟩) (fun A outer s H E f c' hr2 => (pe_call (ok_spelled T) (hr2.mono (by decide)) (by rfl) T.g_spelled T.F_spelled.kp T.b_spelled .nil (passes_call (takes_of rfl rfl rfl rfl) (fun _ _ _ _ h => h)) (pa_cons (pv 3) (pa_cons (pv 6) (pa_cons (pv 7) pa_nil)))))) (pa_cons (pe_lamcallD (T := TT) (z := "a2") (c := c) (P := Pt) (k := 7) (by rfl) T.g_law_heard T.F_law_heard.kp lk hcd hbd sc_law_heard rfl (.inl rfl) (heard_gives T) TB rfl hm hu (hr.mono (by decide)) (lamP_by (sc := defScope s_law_refused_right) (by decide +kernel)) rfl rfl rfl (fun _ _ _ _ _ _ _ _ => ⟨_, rfl, rfl⟩) (fun A outer s H E f c' hr2 => (pe_call (ok_spelled T) (hr2.mono (by decide)) (by rfl) T.g_spelled T.F_spelled.kp T.b_spelled .nil (passes_call (takes_of rfl rfl rfl rfl) (fun _ _ _ _ h => h)) (pa_cons (pv 3) (pa_cons (pv 2) (pa_cons (pv 7) pa_nil)))))) pa_nil)))))
    (pss_cons (ps_set (i := 9) sc_law_refused_right.nd rfl (.inl rfl) (pe_op op_cat (pv 9) (pe_lst (pa_cons (pe_lamcall (T := TT) (c := c) (P := Pt) (k := 6) (by rfl) T.g_law_heard T.F_law_heard.kp lk hcd hbd sc_law_heard rfl (.inl rfl) (heard_gives T) TB rfl hm hu (hr.mono (by decide)) (lamS_by (sc := defScope s_law_refused_right) (by decide +kernel)) rfl (fun _ _ _ _ _ => rfl) (fun A outer s H E f c' hr2 => (pe_call (ok_read T) (hr2.mono (by decide)) (by rfl) T.g_read T.F_read.kp T.b_read .nil (passes_call (takes_of rfl rfl rfl rfl) (fun _ _ _ _ h => h)) (pa_cons (pv 5) (pa_cons (pv 8) pa_nil))))) (pa_cons (pe_lamcallD (T := TT) (z := "a1") (c := c) (P := Pt) (k := 6) (by rfl) T.g_law_heard T.F_law_heard.kp lk hcd hbd sc_law_heard rfl (.inl rfl) (heard_gives T) TB rfl hm hu (hr.mono (by decide)) (lamP_by (sc := defScope s_law_refused_right) (by decide +kernel)) rfl rfl rfl (fun _ _ _ _ _ _ _ _ => ⟨_, rfl, rfl⟩) (fun A outer s H E f c' hr2 => (pe_call (ok_read T) (hr2.mono (by decide)) (by rfl) T.g_read T.F_read.kp T.b_read .nil (passes_call (takes_of rfl rfl rfl rfl) (fun _ _ _ _ h => h)) (pa_cons (pv 3) (pa_cons (pv 8) pa_nil))))) pa_nil)))))
    (pss_one (ps_ret (pe_cmpR (op_eqD hr.units) (pv 9) (pe_lst (pa_cons (pe_tup (pa_cons pe_str (pa_cons pe_str pa_nil))) (pa_cons (pe_tup (pa_cons pe_str (pa_cons pe_str pa_nil))) (pa_cons (pe_tup (pa_cons pe_str (pa_cons pe_str pa_nil))) (pa_cons (pe_tup (pa_cons pe_str (pa_cons pe_str pa_nil))) (pa_cons (pe_tup (pa_cons pe_str (pa_cons pe_str pa_nil))) pa_nil)))))) (nomark _))))))))))), ?_⟩
    have mk : ∀ {xs : List V} {H0 : Hp} {p : Addr} {n : Nat} {Q : VK}, H0 p = none → Wh H0 a wc n → n < 1000000 → xs ≠ [] → xs.length ≤ 1000000 → (∀ v H', v ∈ xs → Mv a H0 H' → Wh H' a wc (n + 1) → Q v H') → sp_law_one_of K [.ref a, .ref p] (upd H0 p (.lst xs)) Q E0 := fun {xs H0 p n Q} np w hn h0 hl q => by
      have hpw := w.ne np
      refine ⟨a, p, wc, xs, n, rfl, .inl (.inl upd_same), h0, hl, w.new np, hn, fun H' m => .inl (.inl (m _ _ hpw upd_same)), fun v H' hv m w' => q v H' hv ((Mv.of (same_new np)).trans m) w'⟩
    have lw : (ws.map tx).length = ws.length := List.length_map ..
    have wl12 : ∀ w ∈ ws, w.length ≤ 12 := fun w m => by
      have := hwb w m
      unfold wordB at this
      rw [Bool.and_eq_true, decide_eq_true_eq] at this
      exact this.1
    refine go_seq (go_asg (go_cons (go_cons (go_var rfl (go_nil fun bk dx0 nbk ndx _ => book_new nbk ndx (words_arg (.inl (.inl (.inl hw))) l1 l2 (by decide) hwb nd) ⟨wp, rfl, .inl (.inl (.inl hw))⟩ fun H1 e1 hB => ⟨rfl, ?_⟩)))))
    refine go_cons ⟨_, rfl, wp, _, rfl, .inl (.inl (.inl (e1 _ _ hw))), ?_⟩
    rw [lw]
    refine go_nil ⟨sz2, fun p0 n0 => ⟨p0, _, rfl, .inl (.inl upd_same), rfl, _, _, rfl, _, _, rfl, rfl, ?_⟩⟩
    have e2 := same_new (o := HO.tup [V.ref bk, V.int (ws.length : Nat)]) n0
    have e12 := e1.trans e2
    have R : Rf K T.C_Book a wc wp rp bk TT ws r n (upd H1 p0 (HO.tup [V.ref bk, V.int (ws.length : Nat)])) [.non, .str "ab", .int 5] [.non, .int 5, .str "0"] [.non, .int (-1), .int 13, .bl true, .str "1"] := ⟨e12 _ _ hw, e12 _ _ hrp, hB.same e2, wh.same e12, Tabs.same hT e12, by
        refine all_cons ⟨_, .base .non, kitOne_no T.kc_Book T.kt_Book sub_non⟩ (all_cons ⟨_, .base (.str _), kitOne_no T.kc_Book T.kt_Book sub_str⟩ (all_cons ⟨_, .base (.int 5), kitOne_no T.kc_Book T.kt_Book sub_int⟩ (fun _ h => by cases h))), by
        refine all_cons (.inl ⟨rfl, _, .base .non, no_list (by decide +kernel) (by decide +kernel)⟩) (all_cons (.inl ⟨rfl, _, .base (.int 5), no_list (by decide +kernel) (by decide +kernel)⟩) (all_cons (.inl ⟨rfl, _, .base (.str _), no_list (by decide +kernel) (by decide +kernel)⟩) (fun _ h => by cases h))), by
        refine all_cons (carg_sc ⟨_, .base .non, no_list (by decide +kernel) (by decide +kernel)⟩ hasInt_non l1 rfl) (all_cons (carg_sc ⟨_, .base (.int _), no_list (by decide +kernel) (by decide +kernel)⟩ (hasInt_int _) l1 rfl) (all_cons (carg_sc ⟨_, .base (.int _), no_list (by decide +kernel) (by decide +kernel)⟩ (hasInt_int _) l1 rfl) (all_cons (carg_sc ⟨_, .base (.bl _), no_list (by decide +kernel) (by decide +kernel)⟩ (hasInt_bl _) l1 rfl) (all_cons (carg_sc ⟨_, .base (.str _), no_list (by decide +kernel) (by decide +kernel)⟩ (hasInt_str _) l1 rfl) (fun _ h => by cases h)))))⟩
    have mvA : Mv a H (upd H1 p0 (HO.tup [V.ref bk, V.int (ws.length : Nat)])) := Mv.of e12
    generalize upd H1 p0 (HO.tup [V.ref bk, V.int (ws.length : Nat)]) = H2 at R mvA ⊢
    clear e1 e2 e12 hB nbk ndx n0 hw hrp hT
    have wh0 := wh
    dsimp only
    refine go_seq (go_asg ⟨_, rfl, ?_⟩)
    refine go_lst (go_cons (go_c (go_cons (go_var rfl (go_cons ?_)))))
    refine ⟨_, rfl, wp, _, rfl, .inl ⟨.inl (.inl R.w), fun t0 o0 nt0 hdn => ?_⟩⟩
    have x := same_new (o := HO.frz o0 (.tup (ws.map tx))) nt0
    have R := (R.same x).addN (v := .ref t0) (⟨_, tyT (.inl (.inr ⟨o0, core_at upd_same (R.wh.ne nt0) (fun ps z => by cases z)⟩)), kitOne_no T.kc_Book T.kt_Book sub_tuple⟩)
    have mvA := mvA.trans (Mv.of x)
    generalize upd H2 t0 (HO.frz o0 (.tup (ws.map tx))) = H3 at R mvA x ⊢
    clear x nt0
    have R := R.addN (v := .ref wp) ⟨_, tyL (.inl (.inl (core_at R.w (wh_ne_words R.wh R.w) (fun ps z => by cases z)))), kitOne_no T.kc_Book T.kt_Book sub_list⟩
    refine go_cons (go_c (go_cons (go_c (go_cons (go_lst (go_cons (go_var rfl (go_nil ⟨sz1, fun p1 np1 => ?_⟩))))))))
    have x := same_new (o := HO.lst [V.ref bk]) np1
    have R := (R.same x).addN (v := .ref p1) (⟨_, tyL (.inl (.inl (core_at upd_same (R.wh.ne np1) (fun ps z => by cases z)))), kitOne_no T.kc_Book T.kt_Book sub_list⟩)
    have mvA := mvA.trans (Mv.of x)
    generalize upd H3 p1 (HO.lst [V.ref bk]) = H4 at R mvA x ⊢
    clear x np1
    refine go_nil ⟨(show 6 ≤ sizeLine by decide), fun u1 nu1 => mk nu1 R.wh (by omega) (by simp) (show 6 ≤ 1000000 by decide) fun no H5 hv mvx wx => ?_⟩
    have R := R.mv mvx wx
    have mvA := mvA.trans mvx
    have hno := R.no no (by
      simp only [List.mem_cons, List.not_mem_nil, or_false] at hv ⊢
      rcases hv with h | h | h | h | h | h <;> simp [h])
    clear hv mvx wx nu1
    have R : Rf K T.C_Book a wc wp rp bk TT ws r _ H5 [no] _ _ := ⟨R.w, R.r, R.b, R.wh, R.t, all_cons hno (fun _ h => by cases h), R.ba, R.od⟩
    clear hno
    dsimp only [gName]
    refine go_seq (go_asg ⟨_, rfl, ?_⟩)
    refine go_lst (go_cons (go_c (go_cons (go_c (go_cons (go_c (go_cons (go_lst (go_cons (go_var rfl (go_nil ⟨sz1, fun b1 nb1 => ?_⟩)))))))))))
    have x := same_new (o := HO.lst [V.int (ws.length : Nat)]) nb1
    have R := (R.same x).addB (v := .ref b1) (row_one (lst_core upd_same (R.wh.ne nb1)) (hasInt_int _) (by show (decide ((0 : Int) ≤ (ws.length : Int)) && decide ((ws.length : Int) ≤ (ws.length : Int) - 1)) = false; rw [decide_eq_false (p := ((ws.length : Int) ≤ (ws.length : Int) - 1)) (by omega), Bool.and_false]))
    have mvA := mvA.trans (Mv.of x)
    generalize upd H5 b1 (HO.lst [V.int (ws.length : Nat)]) = H6 at R mvA x ⊢
    clear x nb1
    refine go_cons (go_lst (go_cons ⟨1, rfl, go_nil ⟨sz1, fun b2 nb2 => ?_⟩⟩))
    have x := same_new (o := HO.lst [V.int (-1)]) nb2
    have R := (R.same x).addB (v := .ref b2) (row_one (lst_core upd_same (R.wh.ne nb2)) (hasInt_int _) rfl)
    have mvA := mvA.trans (Mv.of x)
    generalize upd H6 b2 (HO.lst [V.int (-1)]) = H7 at R mvA x ⊢
    clear x nb2
    refine go_cons (go_lst (go_cons (go_c (go_nil ⟨sz1, fun b3 nb3 => ?_⟩))))
    have x := same_new (o := HO.lst [V.bl true]) nb3
    have R := (R.same x).addB (v := .ref b3) (row_one (lst_core upd_same (R.wh.ne nb3)) (hasInt_bl _) rfl)
    have mvA := mvA.trans (Mv.of x)
    generalize upd H7 b3 (HO.lst [V.bl true]) = H8 at R mvA x ⊢
    clear x nb3
    refine go_cons (go_lst (go_cons (go_lst (go_cons (go_c (go_nil ⟨sz1, fun b4 nb4 => ?_⟩))))))
    have x := same_new (o := HO.lst [V.int 0]) nb4
    have hb4 : upd H8 b4 (HO.lst [V.int 0]) b4 = some (HO.lst [V.int 0]) := upd_same
    have db4 := R.wh.ne nb4
    have R := R.same x
    have mvA := mvA.trans (Mv.of x)
    generalize upd H8 b4 (HO.lst [V.int 0]) = H9 at R mvA x hb4 ⊢
    clear x nb4
    have hb5 := fun (H' : Hp) (e : Same H9 H') => core_at (e _ _ hb4) db4 (fun ps z => by cases z)
    refine go_nil ⟨sz1, fun b5 nb5 => ?_⟩
    have x := same_new (o := HO.lst [V.ref b4]) nb5
    have R := (R.same x).addB (v := .ref b5) (row_one (lst_core upd_same (R.wh.ne nb5)) (hasInt_lst (.inl (.inl (hb5 _ x)))) rfl)
    have mvA := mvA.trans (Mv.of x)
    generalize upd H9 b5 (HO.lst [V.ref b4]) = H10 at R mvA x ⊢
    clear x nb5
    clear hb5 hb4 db4
    refine go_cons (go_op (go_var rfl (go_lst (go_cons (go_c (go_nil ⟨sz1, fun b6 nb6 => ?_⟩))))))
    have x := same_new (o := HO.lst [V.non]) nb6
    have hb6 : upd H10 b6 (HO.lst [V.non]) b6 = some (HO.lst [V.non]) := upd_same
    have db6 := R.wh.ne nb6
    have R := R.same x
    have mvA := mvA.trans (Mv.of x)
    generalize upd H10 b6 (HO.lst [V.non]) = H11 at R mvA x hb6 ⊢
    clear x nb6
    refine ⟨rp, b6, _, _, rfl, rfl, R.r, hb6, by rw [nv_len]; exact Nat.le_trans (show r.length + 1 ≤ 1001 by omega) (by decide), fun b7 nb7 => ?_⟩
    have x := same_new (o := HO.lst (nv r ++ [V.non])) nb7
    have R := (R.same x).addB (v := .ref b7) (row_bad (lst_core upd_same (R.wh.ne nb7)) (by rw [List.length_append, nv_len]; show r.length + 1 ≤ 20000; omega) (x := .non) (by simp) rfl (ints_app (ints_nv r) hasInt_non))
    have mvA := mvA.trans (Mv.of x)
    generalize upd H11 b7 (HO.lst (nv r ++ [V.non])) = H12 at R mvA x ⊢
    clear x nb7
    clear hb6 db6
    refine go_cons (go_op (go_lst (go_cons (go_c (go_nil ⟨sz1, fun b8 nb8 => ?_⟩)))))
    have x := same_new (o := HO.lst [V.int 0]) nb8
    have hb8 : upd H12 b8 (HO.lst [V.int 0]) b8 = some (HO.lst [V.int 0]) := upd_same
    have db8 := R.wh.ne nb8
    have R := R.same x
    have mvA := mvA.trans (Mv.of x)
    generalize upd H12 b8 (HO.lst [V.int 0]) = H13 at R mvA x hb8 ⊢
    clear x nb8
    refine go_c ⟨b8, 10001, _, rfl, rfl, hb8, by decide, by decide, (show 1 * 10001 ≤ sizeLine by decide), fun b9 nb9 => ?_⟩
    rw [show (10001 : Int).toNat = 10001 from rfl, rep_flatV]
    have x := same_new (o := HO.lst (List.replicate 10001 (V.int 0))) nb9
    have R := (R.same x).addB (v := .ref b9) (row_wide (lst_core upd_same (R.wh.ne nb9)))
    have mvA := mvA.trans (Mv.of x)
    generalize upd H13 b9 (HO.lst (List.replicate 10001 (V.int 0))) = H14 at R mvA x ⊢
    clear x nb9
    clear hb8 db8
    refine go_cons (fun b10 nb10 => ?_)
    refine ⟨upd_same, [(.inl 0, .int 1)], rfl, (show 1 ≤ 15 by decide), ?_⟩
    have x : Same H14 (upd (upd H14 b10 (HO.dK [])) b10 (HO.dK (mergeK [] [((.inl 0 : Key), V.int 1)]))) := fun b y h => by
      rw [upd_ne (ne_of_none h nb10), upd_ne (ne_of_none h nb10)]
      exact h
    have hd : core a (upd (upd H14 b10 (HO.dK [])) b10 (HO.dK (mergeK [] [((.inl 0 : Key), V.int 1)]))) b10 = some (.dK (mergeK [] [((.inl 0 : Key), V.int 1)])) := core_at upd_same (R.wh.ne nb10) (fun ps z => by cases z)
    have R := (R.same x).addB (v := .ref b10) (.inl ⟨rfl, _, .base (.dK hd), no_list (by decide +kernel) (by decide +kernel)⟩)
    have mvA := mvA.trans (Mv.of x)
    generalize upd (upd H14 b10 (HO.dK [])) b10 (HO.dK (mergeK [] [((.inl 0 : Key), V.int 1)])) = H15 at R mvA ⊢
    clear x nb10 hd
    refine go_cons (go_op (go_var rfl (go_lst (go_cons (go_var rfl (go_nil ⟨sz1, fun b11 nb11 => ?_⟩))))))
    have x := same_new (o := HO.lst [V.int (ws.length : Nat)]) nb11
    have hb11 : upd H15 b11 (HO.lst [V.int (ws.length : Nat)]) b11 = some (HO.lst [V.int (ws.length : Nat)]) := upd_same
    have db11 := R.wh.ne nb11
    have R := R.same x
    have mvA := mvA.trans (Mv.of x)
    generalize upd H15 b11 (HO.lst [V.int (ws.length : Nat)]) = H16 at R mvA x hb11 ⊢
    clear x nb11
    refine ⟨rp, b11, _, _, rfl, rfl, R.r, hb11, by rw [nv_len]; exact Nat.le_trans (show r.length + 1 ≤ 1001 by omega) (by decide), fun b12 nb12 => ?_⟩
    have x := same_new (o := HO.lst (nv r ++ [V.int (ws.length : Nat)])) nb12
    have R := (R.same x).addB (v := .ref b12) (row_bad (lst_core upd_same (R.wh.ne nb12)) (by rw [List.length_append, nv_len]; show r.length + 1 ≤ 20000; omega) (x := .int (ws.length : Nat)) (by simp) (by show (decide ((0 : Int) ≤ (ws.length : Int)) && decide ((ws.length : Int) ≤ (ws.length : Int) - 1)) = false; rw [decide_eq_false (p := ((ws.length : Int) ≤ (ws.length : Int) - 1)) (by omega), Bool.and_false]) (ints_app (ints_nv r) (hasInt_int _)))
    have mvA := mvA.trans (Mv.of x)
    generalize upd H16 b12 (HO.lst (nv r ++ [V.int (ws.length : Nat)])) = H17 at R mvA x ⊢
    clear x nb12
    clear hb11 db11
    refine go_nil ⟨(show 11 ≤ sizeLine by decide), fun u2 nu2 => mk nu2 R.wh (by omega) (by simp) (show 11 ≤ 1000000 by decide) fun bad H18 hv mvx wx => ?_⟩
    have R := R.mv mvx wx
    have mvA := mvA.trans mvx
    have hbad := R.ba bad (by
      simp only [List.mem_cons, List.not_mem_nil, or_false] at hv ⊢
      rcases hv with h | h | h | h | h | h | h | h | h | h | h <;> simp [h])
    clear hv mvx wx nu2
    have R : Rf K T.C_Book a wc wp rp bk TT ws r _ H18 [no] [bad] _ := ⟨R.w, R.r, R.b, R.wh, R.t, R.no, all_cons hbad (fun _ h => by cases h), R.od⟩
    clear hbad
    dsimp only [gName]
    refine go_seq (go_asg ⟨_, rfl, ?_⟩)
    refine go_lst (go_cons (go_c ?_))
    refine go_cons ⟨1, rfl, ?_⟩
    refine go_cons (go_c ?_)
    refine go_cons (go_c ?_)
    refine go_cons (go_c ?_)
    refine go_cons (go_op (go_lst (go_cons (go_c (go_nil ⟨sz1, fun c1 nc1 => ?_⟩)))))
    have x := same_new (o := HO.lst [V.int 1]) nc1
    have hc1 : upd H18 c1 (HO.lst [V.int 1]) c1 = some (HO.lst [V.int 1]) := upd_same
    have dc1 := R.wh.ne nc1
    have R := R.same x
    have mvA := mvA.trans (Mv.of x)
    generalize upd H18 c1 (HO.lst [V.int 1]) = H19 at R mvA x hc1 ⊢
    clear x nc1
    refine ⟨_, rfl, ws.length, 1, rfl, rfl, c1, ((ws.length + 1 : Nat) : Int), _, rfl, rfl, hc1, by omega, by omega, ?_, fun c2 nc2 => ?_⟩
    · rw [Int.toNat_natCast]
      exact Nat.le_trans (show 1 * (ws.length + 1) ≤ 41 by omega) (by decide)
    rw [Int.toNat_natCast, rep_flatV]
    have x := same_new (o := HO.lst (List.replicate (ws.length + 1) (V.int 1))) nc2
    have R := (R.same x).addO (v := .ref c2) (carg_no (lst_core upd_same (R.wh.ne nc2)) (by rw [List.length_replicate]; omega) (ints_rep _ _) (.inl (by rw [List.length_replicate]; omega)))
    have mvA := mvA.trans (Mv.of x)
    generalize upd H19 c2 (HO.lst (List.replicate (ws.length + 1) (V.int 1))) = H20 at R mvA x ⊢
    clear x nc2
    clear hc1 dc1
    refine go_cons (go_lst (go_nil ⟨Nat.zero_le _, fun c3 nc3 => ?_⟩))
    have x := same_new (o := HO.lst []) nc3
    have R := (R.same x).addO (v := .ref c3) (carg_no (xs := []) (lst_core upd_same (R.wh.ne nc3)) (by decide) (fun _ h => by cases h) (.inl (by show 0 ≠ ws.length; omega)))
    have mvA := mvA.trans (Mv.of x)
    generalize upd H20 c3 (HO.lst []) = H21 at R mvA x ⊢
    clear x nc3
    refine go_cons (go_op (go_op (go_lst (go_cons (go_c (go_nil ⟨sz1, fun c4 nc4 => ?_⟩))))))
    have x := same_new (o := HO.lst [V.int 1]) nc4
    have hc4 : upd H21 c4 (HO.lst [V.int 1]) c4 = some (HO.lst [V.int 1]) := upd_same
    have dc4 := R.wh.ne nc4
    have R := R.same x
    have mvA := mvA.trans (Mv.of x)
    generalize upd H21 c4 (HO.lst [V.int 1]) = H22 at R mvA x hc4 ⊢
    clear x nc4
    refine ⟨_, rfl, ws.length, 1, rfl, rfl, c4, ((ws.length - 1 : Nat) : Int), _, rfl, by rw [show ((ws.length - 1 : Nat) : Int) = (ws.length : Int) - 1 by omega], hc4, by omega, by omega, ?_, fun c5 nc5 => ?_⟩
    · rw [Int.toNat_natCast]
      exact Nat.le_trans (show 1 * (ws.length - 1) ≤ 41 by omega) (by decide)
    rw [Int.toNat_natCast, rep_flatV]
    have x := same_new (o := HO.lst (List.replicate (ws.length - 1) (V.int 1))) nc5
    have hc5 : upd H22 c5 (HO.lst (List.replicate (ws.length - 1) (V.int 1))) c5 = some (HO.lst (List.replicate (ws.length - 1) (V.int 1))) := upd_same
    have dc5 := R.wh.ne nc5
    have R := R.same x
    have mvA := mvA.trans (Mv.of x)
    generalize upd H22 c5 (HO.lst (List.replicate (ws.length - 1) (V.int 1))) = H23 at R mvA x hc5 ⊢
    clear x nc5
    clear hc4 dc4
    refine go_lst (go_cons (go_c (go_nil ⟨sz1, fun c6x nc6x => ?_⟩)))
    have hc5' := same_new (o := HO.lst [V.int 13]) nc6x _ _ hc5
    have x := same_new (o := HO.lst [V.int 13]) nc6x
    have hc6x : upd H23 c6x (HO.lst [V.int 13]) c6x = some (.lst [V.int 13]) := upd_same
    have R := R.same x
    have mvA := mvA.trans (Mv.of x)
    generalize upd H23 c6x (HO.lst [V.int 13]) = H24 at R mvA x hc6x hc5' ⊢
    clear x nc6x hc5 dc5
    refine ⟨c5, c6x, _, _, rfl, rfl, hc5', hc6x, by rw [List.length_replicate]; exact Nat.le_trans (show ws.length - 1 + 1 ≤ 41 by omega) (by decide), fun c6 nc6 => ?_⟩
    have x := same_new (o := HO.lst (List.replicate (ws.length - 1) (V.int 1) ++ [V.int 13])) nc6
    have R := (R.same x).addO (v := .ref c6) (carg_no (lst_core upd_same (R.wh.ne nc6)) (by rw [List.length_append, List.length_replicate]; show ws.length - 1 + 1 ≤ 20000; omega) (ints_app (ints_rep _ _) (hasInt_int _)) (.inr ⟨V.int 13, by simp, rfl⟩))
    have mvA := mvA.trans (Mv.of x)
    generalize upd H24 c6 (HO.lst (List.replicate (ws.length - 1) (V.int 1) ++ [V.int 13])) = H25 at R mvA x ⊢
    clear x nc6
    clear hc5' hc6x
    refine go_cons (go_op (go_lst (go_cons (go_c (go_nil ⟨sz1, fun c7 nc7 => ?_⟩)))))
    have x := same_new (o := HO.lst [V.non]) nc7
    have hc7 : upd H25 c7 (HO.lst [V.non]) c7 = some (HO.lst [V.non]) := upd_same
    have dc7 := R.wh.ne nc7
    have R := R.same x
    have mvA := mvA.trans (Mv.of x)
    generalize upd H25 c7 (HO.lst [V.non]) = H26 at R mvA x hc7 ⊢
    clear x nc7
    refine go_var rfl ⟨c7, ws.length, _, rfl, rfl, hc7, by omega, by omega, ?_, fun c8 nc8 => ?_⟩
    · rw [Int.toNat_natCast]
      exact Nat.le_trans (show 1 * ws.length ≤ 40 by omega) (by decide)
    rw [Int.toNat_natCast, rep_flatV]
    have x := same_new (o := HO.lst (List.replicate ws.length V.non)) nc8
    have R := (R.same x).addO (v := .ref c8) (carg_no (lst_core upd_same (R.wh.ne nc8)) (by rw [List.length_replicate]; omega) (fun v m => by rw [(List.mem_replicate.mp m).2]; exact hasInt_non) (.inr ⟨V.non, by rw [List.mem_replicate]; exact ⟨by omega, rfl⟩, rfl⟩))
    have mvA := mvA.trans (Mv.of x)
    generalize upd H26 c8 (HO.lst (List.replicate ws.length V.non)) = H27 at R mvA x ⊢
    clear x nc8
    clear hc7 dc7
    refine go_cons (fun c9 nc9 => ?_)
    refine ⟨upd_same, [(.inl 0, .int 1)], rfl, (show 1 ≤ 15 by decide), ?_⟩
    have x : Same H27 (upd (upd H27 c9 (HO.dK [])) c9 (HO.dK (mergeK [] [((.inl 0 : Key), V.int 1)]))) := fun b y h => by
      rw [upd_ne (ne_of_none h nc9), upd_ne (ne_of_none h nc9)]
      exact h
    have hd : core a (upd (upd H27 c9 (HO.dK [])) c9 (HO.dK (mergeK [] [((.inl 0 : Key), V.int 1)]))) c9 = some (.dK (mergeK [] [((.inl 0 : Key), V.int 1)])) := core_at upd_same (R.wh.ne nc9) (fun ps z => by cases z)
    have R := (R.same x).addO (v := .ref c9) (carg_sc ⟨_, .base (.dK hd), no_list (by decide +kernel) (by decide +kernel)⟩ (hasInt_dk hd) l1 rfl)
    have mvA := mvA.trans (Mv.of x)
    generalize upd (upd H27 c9 (HO.dK [])) c9 (HO.dK (mergeK [] [((.inl 0 : Key), V.int 1)])) = H28 at R mvA ⊢
    clear x nc9 hd
    refine go_cons (go_op (go_op (go_lst (go_cons (go_c (go_nil ⟨sz1, fun d1 nd1 => ?_⟩))))))
    have x := same_new (o := HO.lst [V.int 1]) nd1
    have hd1 : upd H28 d1 (HO.lst [V.int 1]) d1 = some (HO.lst [V.int 1]) := upd_same
    have dd1 := R.wh.ne nd1
    have R := R.same x
    have mvA := mvA.trans (Mv.of x)
    generalize upd H28 d1 (HO.lst [V.int 1]) = H29 at R mvA x hd1 ⊢
    clear x nd1
    refine ⟨_, rfl, ws.length, 1, rfl, rfl, d1, ((ws.length - 1 : Nat) : Int), _, rfl, by rw [show ((ws.length - 1 : Nat) : Int) = (ws.length : Int) - 1 by omega], hd1, by omega, by omega, ?_, fun d2 nd2 => ?_⟩
    · rw [Int.toNat_natCast]
      exact Nat.le_trans (show 1 * (ws.length - 1) ≤ 41 by omega) (by decide)
    rw [Int.toNat_natCast, rep_flatV]
    have x := same_new (o := HO.lst (List.replicate (ws.length - 1) (V.int 1))) nd2
    have hd2 : upd H29 d2 (HO.lst (List.replicate (ws.length - 1) (V.int 1))) d2 = some (HO.lst (List.replicate (ws.length - 1) (V.int 1))) := upd_same
    have dd2 := R.wh.ne nd2
    have R := R.same x
    have mvA := mvA.trans (Mv.of x)
    generalize upd H29 d2 (HO.lst (List.replicate (ws.length - 1) (V.int 1))) = H30 at R mvA x hd2 ⊢
    clear x nd2
    clear hd1 dd1
    refine go_lst (go_cons (go_c (go_nil ⟨sz1, fun d3x nd3x => ?_⟩)))
    have hd2' := same_new (o := HO.lst [V.bl true]) nd3x _ _ hd2
    have x := same_new (o := HO.lst [V.bl true]) nd3x
    have hd3x : upd H30 d3x (HO.lst [V.bl true]) d3x = some (.lst [V.bl true]) := upd_same
    have R := R.same x
    have mvA := mvA.trans (Mv.of x)
    generalize upd H30 d3x (HO.lst [V.bl true]) = H31 at R mvA x hd3x hd2' ⊢
    clear x nd3x hd2 dd2
    refine ⟨d2, d3x, _, _, rfl, rfl, hd2', hd3x, by rw [List.length_replicate]; exact Nat.le_trans (show ws.length - 1 + 1 ≤ 41 by omega) (by decide), fun d3 nd3 => ?_⟩
    have x := same_new (o := HO.lst (List.replicate (ws.length - 1) (V.int 1) ++ [V.bl true])) nd3
    have R := (R.same x).addO (v := .ref d3) (carg_no (lst_core upd_same (R.wh.ne nd3)) (by rw [List.length_append, List.length_replicate]; show ws.length - 1 + 1 ≤ 20000; omega) (ints_app (ints_rep _ _) (hasInt_bl _)) (.inr ⟨V.bl true, by simp, rfl⟩))
    have mvA := mvA.trans (Mv.of x)
    generalize upd H31 d3 (HO.lst (List.replicate (ws.length - 1) (V.int 1) ++ [V.bl true])) = H32 at R mvA x ⊢
    clear x nd3
    clear hd2' hd3x
    refine go_nil ⟨(show 11 ≤ sizeLine by decide), fun u3 nu3 => mk nu3 R.wh (by omega) (by simp) (show 11 ≤ 1000000 by decide) fun odd H33 hv mvx wx => ?_⟩
    have R := R.mv mvx wx
    have mvA0 := mvA
    have mvA := mvA.trans mvx
    have hodd := R.od odd (by
      simp only [List.mem_cons, List.not_mem_nil, or_false] at hv ⊢
      rcases hv with h | h | h | h | h | h | h | h | h | h | h <;> simp [h])
    clear hv mvx wx nu3 mvA0
    have R : Rf K T.C_Book a wc wp rp bk TT ws r _ H33 [no] [bad] [odd] := ⟨R.w, R.r, R.b, R.wh, R.t, R.no, R.ba, all_cons hodd (fun _ h => by cases h)⟩
    clear hodd
    dsimp only [gName]
    refine go_seq (go_asg ⟨_, rfl, ?_⟩)
    refine go_lst (go_cons (go_c ?_))
    refine go_cons (go_c ?_)
    refine go_cons (go_c ?_)
    refine go_cons (go_c ?_)
    refine go_cons (go_c ?_)
    refine go_cons (go_lst (go_cons (go_c (go_nil ⟨sz1, fun e1 ne1 => ?_⟩))))
    have x := same_new (o := HO.lst [V.str "a"]) ne1
    have he1 : upd H33 e1 (HO.lst [V.str "a"]) e1 = some (HO.lst [V.str "a"]) := upd_same
    have de1 := R.wh.ne ne1
    have R := R.same x
    have mvA := mvA.trans (Mv.of x)
    generalize upd H33 e1 (HO.lst [V.str "a"]) = H34 at R mvA x he1 ⊢
    clear x ne1
    refine go_cons (go_op (go_c (go_c ⟨[97], 200001, rfl, rfl, by decide, by decide, ?_⟩)))
    have hbig : ((List.replicate 200001 [97]).flatten : List Nat).length = 200001 := rep_len 200001 [97]
    generalize ((List.replicate 200001 [97]).flatten : List Nat) = big at hbig ⊢
    refine go_cons (go_c (go_cons (go_c ?_)))
    refine go_nil ⟨(show 9 ≤ sizeLine by decide), fun u4 nu4 => mk nu4 R.wh (by omega) (by simp) (show 9 ≤ 1000000 by decide) fun text H35 hv mvx wx => ?_⟩
    have x := same_new (o := HO.lst [V.non]) nu4
    have R := R.mv mvx wx
    have mvA := mvA.trans mvx
    have htx : ∃ o, StrIs K (core a H35) text o ∧ o.elim false textB = false := by
      simp only [List.mem_cons, List.not_mem_nil, or_false] at hv
      rcases hv with rfl | rfl | rfl | rfl | rfl | rfl | rfl | rfl | rfl
      · exact ⟨none, str_none (.base .non) (by decide +kernel), rfl⟩
      · exact ⟨none, str_none (.base (.int 5)) (by decide +kernel), rfl⟩
      · exact ⟨some [65, 98], ⟨rfl, by decide⟩, by decide⟩
      · exact ⟨some [97, 45, 98], ⟨rfl, by decide⟩, by decide⟩
      · exact ⟨some [97, 9, 98], ⟨rfl, by decide⟩, by decide⟩
      · exact ⟨none, str_none (tyL (.inl (.inl (core_at (mvx _ _ de1 he1) de1 (fun ps z => by cases z))))) (by decide +kernel), rfl⟩
      · refine ⟨some big, ⟨rfl, by omega⟩, ?_⟩
        show textB big = false
        unfold textB
        rw [decide_eq_false (by omega), Bool.false_and]
      · exact ⟨none, str_none (.base (.bl true)) (by decide +kernel), rfl⟩
      · exact ⟨some [49], ⟨rfl, by decide⟩, by decide⟩
    clear hv mvx wx nu4 x he1 de1
    dsimp only [gName]
    obtain ⟨ot, htx, hto⟩ := htx
    have htx := htx.same core_sub
    have hno := (R.no no List.mem_cons_self).same core_sub
    have hbad := (R.ba bad List.mem_cons_self).same core_sub
    have hodd := (R.od odd List.mem_cons_self).same core_sub
    obtain ⟨hw, hrp, hB, hWh, hT, _, _, _⟩ := R
    have cc := core_mv mvA
    clear mvA
    refine go_seq (go_asg (go_lst (go_cons ?_)))
    have E0 : ExtN H35 H35 := ExtN.of (Same.refl _)
    have T0 := hT
    refine ⟨T0, fun K0a ea Ta Nn => ?_⟩
    have Ea := E0.trans ea
    refine ⟨_, rfl, _, rfl, _, rfl, no, bad, odd, rfl, .inl ⟨(hno.ext Ea).c, fun d K0b eb hd => ⟨d, .str "book", "book", .inl ⟨rfl, rfl⟩, rfl, hd, fun v0 K0c ec hv0 => ?_⟩⟩⟩
    have xx := ea.trans (ExtN.of (eb.trans ec))
    have E1 := E0.trans xx
    have T1 := Ta.ext (eb.trans ec)
    clear xx ea eb ec Ta Nn Ea hd E0 T0
    refine go_cons ?_
    refine ⟨T1, fun K1a ea Ta Nn => ?_⟩
    have Ea := E1.trans ea
    refine ⟨_, rfl, _, rfl, _, rfl, .ref bk, bad, odd, rfl, .inr ⟨bk, ws, rfl, hB.ext Ea, l2, wl12, .inl ⟨hbad.ext Ea, fun d K1b eb hd => ⟨d, .str "row", "row", .inr (.inr (.inl ⟨rfl, rfl⟩)), rfl, hd, fun v1 K1c ec hv1 => ?_⟩⟩⟩⟩
    have xx := ea.trans (ExtN.of (eb.trans ec))
    have E2 := E1.trans xx
    have T2 := Ta.ext (eb.trans ec)
    have hv0 := ext_at xx hv0
    clear xx ea eb ec Ta Nn Ea hd E1 T1
    refine go_cons ?_
    refine ⟨T2, fun K2a ea Ta Nn => ?_⟩
    have Ea := E2.trans ea
    refine ⟨_, rfl, _, rfl, _, rfl, .ref bk, .ref rp, odd, rfl, .inr ⟨bk, ws, rfl, hB.ext Ea, l2, wl12, .inr (.inl ⟨row_true (.inl (.inl (.inl (ext_at Ea hrp)))) (by omega) hrk, hodd.ext Ea, fun d K2b eb hd => ⟨d, .str "copies", "number", .inr (.inl ⟨rfl, rfl⟩), rfl, hd, fun v2 K2c ec hv2 => ?_⟩⟩)⟩⟩
    have xx := ea.trans (ExtN.of (eb.trans ec))
    have E3 := E2.trans xx
    have T3 := Ta.ext (eb.trans ec)
    have hv0 := ext_at xx hv0
    have hv1 := ext_at xx hv1
    clear xx ea eb ec Ta Nn Ea hd E2 T2
    refine go_nil ⟨sz3, fun pl npl => ?_⟩
    have z := same_new (o := HO.lst [V.ref v0, V.ref v1, V.ref v2]) npl
    have hv0 := z _ _ hv0
    have hv1 := z _ _ hv1
    have hv2 := z _ _ hv2
    have hpl : upd K2c pl (HO.lst [V.ref v0, V.ref v1, V.ref v2]) pl = some (.lst [V.ref v0, V.ref v1, V.ref v2]) := upd_same
    have E4 := E3.trans (ExtN.of z)
    have T4 := T3.ext z
    generalize upd K2c pl (HO.lst [V.ref v0, V.ref v1, V.ref v2]) = G4 at hv0 hv1 hv2 hpl E4 T4 ⊢
    clear z npl E3 T3
    dsimp only [gName]
    refine go_seq (go_asg (go_op (go_var rfl (go_lst (go_cons ?_)))))
    have E3 := E4
    have T3 := T4
    clear E4 T4
    refine ⟨T3, fun K3a ea Ta Nn => ?_⟩
    have Ea := E3.trans ea
    refine ⟨_, rfl, _, rfl, no, text, rfl, .inl ⟨(hno.ext Ea).c, fun d K3b eb hd => ⟨d, .str "book", "book", .inl ⟨rfl, rfl⟩, rfl, hd, fun v3 K3c ec hv3 => ?_⟩⟩⟩
    have xx := ea.trans (ExtN.of (eb.trans ec))
    have E4 := E3.trans xx
    have T4 := Ta.ext (eb.trans ec)
    have hv0 := ext_at xx hv0
    have hv1 := ext_at xx hv1
    have hv2 := ext_at xx hv2
    have hpl := ext_at xx hpl
    clear xx ea eb ec Ta Nn Ea hd E3 T3
    refine go_cons ?_
    refine ⟨T4, fun K4a ea Ta Nn => ?_⟩
    have Ea := E4.trans ea
    refine ⟨_, rfl, _, rfl, .ref bk, text, rfl, .inr ⟨bk, ws, ot, rfl, hB.ext Ea, l2, nd, htx.ext Ea, (fun _ => fun d K4b eb hd => ⟨d, .str "text", "text", .inr (.inr (.inr (.inl ⟨rfl, rfl⟩))), rfl, hd, fun v4 K4c ec hv4 => ?_⟩), fun l e tb => by rw [e] at hto; rw [show textB l = false from hto] at tb; cases tb⟩⟩
    have xx := ea.trans (ExtN.of (eb.trans ec))
    have E5 := E4.trans xx
    have T5 := Ta.ext (eb.trans ec)
    have hv0 := ext_at xx hv0
    have hv1 := ext_at xx hv1
    have hv2 := ext_at xx hv2
    have hpl := ext_at xx hpl
    have hv3 := ext_at xx hv3
    clear xx ea eb ec Ta Nn Ea hd E4 T4
    refine go_nil ⟨sz2, fun pm npm => ?_⟩
    have z1 := same_new (o := HO.lst [V.ref v3, V.ref v4]) npm
    refine ⟨pl, pm, _, _, rfl, rfl, z1 _ _ hpl, upd_same, (show 3 + 2 ≤ sizeLine by decide), fun pn npn => ?_⟩
    have z := z1.trans (same_new (o := HO.lst ([V.ref v0, V.ref v1, V.ref v2] ++ [V.ref v3, V.ref v4])) npn)
    have hv0 := z _ _ hv0
    have hv1 := z _ _ hv1
    have hv2 := z _ _ hv2
    have hv3 := z _ _ hv3
    have hv4 := z _ _ hv4
    have hpn : upd (upd K4c pm (HO.lst [V.ref v3, V.ref v4])) pn (HO.lst ([V.ref v0, V.ref v1, V.ref v2] ++ [V.ref v3, V.ref v4])) pn = some (.lst [V.ref v0, V.ref v1, V.ref v2, V.ref v3, V.ref v4]) := upd_same
    have E6 := E5.trans (ExtN.of z)
    have T6 := T5.ext z
    generalize upd (upd K4c pm (HO.lst [V.ref v3, V.ref v4])) pn (HO.lst ([V.ref v0, V.ref v1, V.ref v2] ++ [V.ref v3, V.ref v4])) = G6 at hv0 hv1 hv2 hv3 hv4 hpn E6 T6 ⊢
    clear z z1 npm npn E5 T5 hpl
    dsimp only [gName]
    refine go_ret (go_op (go_var rfl (go_lst (go_cons ?_))))
    refine ⟨sz2, fun a0 n0 => ?_⟩
    have z := same_new (o := HO.tup [V.str "book", V.str "book"]) n0
    have hv0 := z _ _ hv0
    have hv1 := z _ _ hv1
    have hv2 := z _ _ hv2
    have hv3 := z _ _ hv3
    have hv4 := z _ _ hv4
    have hpn := z _ _ hpn
    have f0 : upd G6 a0 (HO.tup [V.str "book", V.str "book"]) a0 = some (.tup [V.str "book", V.str "book"]) := upd_same
    have E7 := E6.trans (ExtN.of z)
    have T7 := T6.ext z
    generalize upd G6 a0 (HO.tup [V.str "book", V.str "book"]) = G7 at hv0 hv1 hv2 hv3 hv4 hpn f0 E7 T7 ⊢
    clear z n0 E6 T6
    refine go_cons ?_
    refine ⟨sz2, fun a1 n1 => ?_⟩
    have z := same_new (o := HO.tup [V.str "row", V.str "row"]) n1
    have hv0 := z _ _ hv0
    have hv1 := z _ _ hv1
    have hv2 := z _ _ hv2
    have hv3 := z _ _ hv3
    have hv4 := z _ _ hv4
    have hpn := z _ _ hpn
    have f0 := z _ _ f0
    have f1 : upd G7 a1 (HO.tup [V.str "row", V.str "row"]) a1 = some (.tup [V.str "row", V.str "row"]) := upd_same
    have E8 := E7.trans (ExtN.of z)
    have T8 := T7.ext z
    generalize upd G7 a1 (HO.tup [V.str "row", V.str "row"]) = G8 at hv0 hv1 hv2 hv3 hv4 hpn f0 f1 E8 T8 ⊢
    clear z n1 E7 T7
    refine go_cons ?_
    refine ⟨sz2, fun a2 n2 => ?_⟩
    have z := same_new (o := HO.tup [V.str "number", V.str "copies"]) n2
    have hv0 := z _ _ hv0
    have hv1 := z _ _ hv1
    have hv2 := z _ _ hv2
    have hv3 := z _ _ hv3
    have hv4 := z _ _ hv4
    have hpn := z _ _ hpn
    have f0 := z _ _ f0
    have f1 := z _ _ f1
    have f2 : upd G8 a2 (HO.tup [V.str "number", V.str "copies"]) a2 = some (.tup [V.str "number", V.str "copies"]) := upd_same
    have E9 := E8.trans (ExtN.of z)
    have T9 := T8.ext z
    generalize upd G8 a2 (HO.tup [V.str "number", V.str "copies"]) = G9 at hv0 hv1 hv2 hv3 hv4 hpn f0 f1 f2 E9 T9 ⊢
    clear z n2 E8 T8
    refine go_cons ?_
    refine ⟨sz2, fun a3 n3 => ?_⟩
    have z := same_new (o := HO.tup [V.str "book", V.str "book"]) n3
    have hv0 := z _ _ hv0
    have hv1 := z _ _ hv1
    have hv2 := z _ _ hv2
    have hv3 := z _ _ hv3
    have hv4 := z _ _ hv4
    have hpn := z _ _ hpn
    have f0 := z _ _ f0
    have f1 := z _ _ f1
    have f2 := z _ _ f2
    have f3 : upd G9 a3 (HO.tup [V.str "book", V.str "book"]) a3 = some (.tup [V.str "book", V.str "book"]) := upd_same
    have E10 := E9.trans (ExtN.of z)
    have T10 := T9.ext z
    generalize upd G9 a3 (HO.tup [V.str "book", V.str "book"]) = G10 at hv0 hv1 hv2 hv3 hv4 hpn f0 f1 f2 f3 E10 T10 ⊢
    clear z n3 E9 T9
    refine go_cons ?_
    refine ⟨sz2, fun a4 n4 => ?_⟩
    have z := same_new (o := HO.tup [V.str "text", V.str "text"]) n4
    have hv0 := z _ _ hv0
    have hv1 := z _ _ hv1
    have hv2 := z _ _ hv2
    have hv3 := z _ _ hv3
    have hv4 := z _ _ hv4
    have hpn := z _ _ hpn
    have f0 := z _ _ f0
    have f1 := z _ _ f1
    have f2 := z _ _ f2
    have f3 := z _ _ f3
    have f4 : upd G10 a4 (HO.tup [V.str "text", V.str "text"]) a4 = some (.tup [V.str "text", V.str "text"]) := upd_same
    have E11 := E10.trans (ExtN.of z)
    have T11 := T10.ext z
    generalize upd G10 a4 (HO.tup [V.str "text", V.str "text"]) = G11 at hv0 hv1 hv2 hv3 hv4 hpn f0 f1 f2 f3 f4 E11 T11 ⊢
    clear z n4 E10 T10
    refine go_nil ⟨sz5, fun a7 n7 => ?_⟩
    have z7 := same_new (o := HO.lst [V.ref a0, V.ref a1, V.ref a2, V.ref a3, V.ref a4]) n7
    have hv0 := z7 _ _ hv0
    have hv1 := z7 _ _ hv1
    have hv2 := z7 _ _ hv2
    have hv3 := z7 _ _ hv3
    have hv4 := z7 _ _ hv4
    have hpn := z7 _ _ hpn
    have f0 := z7 _ _ f0
    have f1 := z7 _ _ f1
    have f2 := z7 _ _ f2
    have f3 := z7 _ _ f3
    have f4 := z7 _ _ f4
    refine eq_data (d := .list [.tuple [.str "book", .str "book"], .tuple [.str "row", .str "row"], .tuple [.str "number", .str "copies"], .tuple [.str "book", .str "book"], .tuple [.str "text", .str "text"]]) (e := .list [.tuple [.str "book", .str "book"], .tuple [.str "row", .str "row"], .tuple [.str "number", .str "copies"], .tuple [.str "book", .str "book"], .tuple [.str "text", .str "text"]]) (.lst (.inl (.inl hpn)) (.cons (.tup (.inl (.inl hv0)) (.cons (.str _) (.cons (.str _) .nil))) (.cons (.tup (.inl (.inl hv1)) (.cons (.str _) (.cons (.str _) .nil))) (.cons (.tup (.inl (.inl hv2)) (.cons (.str _) (.cons (.str _) .nil))) (.cons (.tup (.inl (.inl hv3)) (.cons (.str _) (.cons (.str _) .nil))) (.cons (.tup (.inl (.inl hv4)) (.cons (.str _) (.cons (.str _) .nil))) .nil)))))) (.lst (.inl (.inl upd_same)) (.cons (.tup (.inl (.inl f0)) (.cons (.str _) (.cons (.str _) .nil))) (.cons (.tup (.inl (.inl f1)) (.cons (.str _) (.cons (.str _) .nil))) (.cons (.tup (.inl (.inl f2)) (.cons (.str _) (.cons (.str _) .nil))) (.cons (.tup (.inl (.inl f3)) (.cons (.str _) (.cons (.str _) .nil))) (.cons (.tup (.inl (.inl f4)) (.cons (.str _) (.cons (.str _) .nil))) .nil)))))) (by decide +kernel) (by decide +kernel) ?_
    rw [show (PyData.eqv (.list [.tuple [.str "book", .str "book"], .tuple [.str "row", .str "row"], .tuple [.str "number", .str "copies"], .tuple [.str "book", .str "book"], .tuple [.str "text", .str "text"]]) (.list [.tuple [.str "book", .str "book"], .tuple [.str "row", .str "row"], .tuple [.str "number", .str "copies"], .tuple [.str "book", .str "book"], .tuple [.str "text", .str "text"]])) = true by decide +kernel]
    have EZ := E11.trans (ExtN.of z7)
    exact q _ ((ExtN.of cc).trans EZ) ((hWh.ext EZ).lt (by omega)) (T11.ext z7)
end
end K10
namespace K10
open PySem PySem.Spec PyProof.Rows L2 Kx SX LamX
section
variable {P : Program} {w : World} {K : PySem.W.Frag} {mg : Str → Option Value} {base : Heap} (T : Tx K mg)
theorem kb_spelled_0_copies_row_book : KBinds K T.fd_spelled ["book", "row", "copies"] ["copies", "row", "book"] rev3G rev3G := kb_rev3 T.F_spelled fun _ _ _ _ _ _ _ _ _ => rfl
theorem kb_read_0_text_book : KBinds K T.fd_read ["book", "text"] ["text", "book"] swapG swapG := kb_swap T.F_read fun _ _ _ _ _ _ _ _ => rfl
theorem numOf_get : ∀ (i : Nat) (ws : List (List Nat)) (k : Nat), ws.Nodup → k < ws.length → numOf i ws (ws.getD k []) = some (i + k)
  | _, [], _, _, h => by cases h
  | i, w :: r, 0, _, _ => by
    show (if w = w then some i else _) = some i
    rw [if_pos rfl]
  | i, w :: r, k + 1, nd, h => by
    have hk : k < r.length := by simpa using h
    have hm : r.getD k [] ∈ r := by
      rw [List.getD_eq_getElem?_getD, List.getElem?_eq_getElem hk]
      exact List.getElem_mem hk
    have hne : w ≠ r.getD k [] := fun e => (List.nodup_cons.mp nd).1 (e ▸ hm)
    show (if w = r.getD k [] then some i else numOf (i + 1) r (r.getD k [])) = _
    rw [if_neg hne, numOf_get (i + 1) r k (List.nodup_cons.mp nd).2 hk]
    congr 1
    omega
def oftenN (cs r : List Nat) : List Nat := r.flatMap fun k => List.replicate (cs.getD k 0) k
theorem read_items {ws : List (List Nat)} {cs : List Nat} (nd : ws.Nodup) : ∀ r : List Nat, (∀ k ∈ r, k < ws.length) → (spellI ws cs r).filterMap (numOf 0 ws) = oftenN cs r
  | [], _ => rfl
  | k :: r, h => by
    have hk := h k List.mem_cons_self
    show (List.replicate (cs.getD k 0) (ws.getD k []) ++ spellI ws cs r).filterMap (numOf 0 ws) = List.replicate (cs.getD k 0) k ++ oftenN cs r
    rw [List.filterMap_append, read_items nd r (fun x m => h x (List.mem_cons_of_mem _ m)), List.filterMap_replicate_of_some (by rw [numOf_get 0 ws k nd hk, Nat.zero_add])]
theorem read_spelled {ws : List (List Nat)} {cs r : List Nat} (nd : ws.Nodup) (hw : ∀ w ∈ ws, wordB w = true) (hr : ∀ k ∈ r, k < ws.length) : readN ws (spellS ws cs r) = oftenN cs r := by
  have key : ∀ w, wordB w = true → w ≠ [] ∧ 32 ∉ w := fun w h => by
    unfold wordB lowB at h
    simp only [Bool.and_eq_true, decide_eq_true_eq] at h
    refine ⟨fun z => by rw [z] at h; exact absurd h.2.1 (by decide), fun m => ?_⟩
    have := List.all_eq_true.mp h.2.2 32 m
    revert this
    decide
  have hget : ∀ k, k < ws.length → ws.getD k [] ∈ ws := fun k hk => by
    rw [List.getD_eq_getElem?_getD, List.getElem?_eq_getElem hk]
    exact List.getElem_mem hk
  rw [← read_items nd r hr]
  unfold readN spellS
  by_cases he : spellI ws cs r = []
  · rw [he]
    show [([] : List Nat)].filterMap (numOf 0 ws) = []
    have : numOf 0 ws [] = none := by
      cases hz : numOf 0 ws [] with
      | none => rfl
      | some k =>
        obtain ⟨j, _, h1, _⟩ := numOf_at 0 ws [] k hz
        exact absurd rfl (key [] (hw [] (List.mem_of_getElem? h1))).1
    rw [List.filterMap_cons, this]
    rfl
  · rw [items_join _ he]
    intro it hm
    obtain ⟨k, hk, rfl⟩ := spellI_mem hm
    exact (key _ (hw _ (hget k (hr k hk)))).2
theorem spell_sg {ws : List (List Nat)} {cs r : List Nat} (hw : ∀ w ∈ ws, wordB w = true) (hr : ∀ k ∈ r, k < ws.length) : (spellS ws cs r).all sg = true := by
  refine joinL_all (by decide) _ fun it hm => ?_
  obtain ⟨k, hk, rfl⟩ := spellI_mem hm
  have hm : ws.getD k [] ∈ ws := by
    rw [List.getD_eq_getElem?_getD, List.getElem?_eq_getElem (hr k hk)]
    exact List.getElem_mem _
  have h := hw _ hm
  unfold wordB lowB at h
  simp only [Bool.and_eq_true, decide_eq_true_eq, List.all_eq_true] at h
  rw [List.all_eq_true]
  intro c hc
  unfold sg
  rw [h.2.2 c hc, Bool.or_true]
theorem spell_len {ws : List (List Nat)} {cs r : List Nat} (hw : ∀ w ∈ ws, w.length ≤ 12) (hc : ∀ c ∈ cs, c ≤ 12) : (spellS ws cs r).length ≤ 156 * r.length := by
  have h1 := joinL_len (k := 12) (spellI ws cs r) (fun it hm => by
    obtain ⟨k, _, rfl⟩ := spellI_mem hm
    exact getD_le hw k)
  have h2 := spellI_le (ws := ws) (getN_le hc) r
  unfold spellS
  omega
theorem signs_le {ws : List (List Nat)} {cs : List Nat} (hw : ∀ w ∈ ws, w.length ≤ 12) (hc : ∀ c ∈ cs, c ≤ 12) : ∀ r : List Nat, signsN ws cs r ≤ 156 * r.length
  | [] => Nat.le_refl _
  | k :: r => by
    have h1 := signs_le hw hc r
    have h2 := getN_le hc k
    have h3 := getD_le hw k
    have h4 : cs.getD k 0 * ((ws.getD k []).length + 1) ≤ 12 * 13 := Nat.mul_le_mul h2 (by omega)
    show cs.getD k 0 * ((ws.getD k []).length + 1) + signsN ws cs r ≤ 156 * (r.length + 1)
    omega
theorem sg_cdC {l : List Nat} (h : l.all sg = true) : cdC l := by
  unfold cdC
  rw [List.all_eq_true] at h ⊢
  intro c hc
  have h1 := h c hc
  unfold sg low at h1
  simp only [Bool.or_eq_true, Bool.and_eq_true, decide_eq_true_eq] at h1 ⊢
  omega
theorem cntO_nv {n : Nat} {cs : List Nat} (l : cs.length = n) (h : ∀ c ∈ cs, c ≤ 12) : cntO n (nv cs) = some cs := by
  have h1 : cntB (nv cs) = true := by
    unfold cntB
    rw [List.all_eq_true]
    intro v hv
    obtain ⟨z, hz, rfl⟩ := nv_mem hv
    have := h z hz
    show (decide ((0 : Int) ≤ (z : Int)) && decide ((z : Int) ≤ 12)) = true
    rw [decide_eq_true (by omega), decide_eq_true (by omega)]
    rfl
  have h2 : (nv cs).map natOf = cs := by
    unfold nv iv
    rw [List.map_map, List.map_map]
    conv => rhs; rw [← List.map_id cs]
    exact List.map_congr_left fun c _ => Int.toNat_natCast c
  unfold cntO
  rw [h1, nv_len, decide_eq_true l, h2]
  rfl
theorem carg_nv {H : Hp} {p : Addr} {n : Nat} {cs : List Nat} (hp : SqQ K H p (nv cs)) (l : cs.length = n) (ll : cs.length ≤ 100) (h : ∀ c ∈ cs, c ≤ 12) : CArg K H (.ref p) n (some cs) :=
  .inr ⟨p, nv cs, rfl, hp, by rw [nv_len]; omega, ints_nv cs, (cntO_nv l h).symm⟩
theorem carg_int {H : Hp} {n k : Nat} (h : k ≤ 12) : CArg K H (.int (k : Nat)) n (some (List.replicate n k)) := by
  refine .inl ⟨⟨_, .base (.int _), no_list (by decide +kernel) (by decide +kernel)⟩, hasInt_int _, ?_⟩
  have : List.replicate n (V.int (k : Nat)) = nv (List.replicate n k) := by
    unfold nv iv
    rw [List.map_replicate, List.map_replicate]
  rw [this, cntO_nv (List.length_replicate ..) (fun c hc => by rw [(List.mem_replicate.mp hc).2]; exact h)]
end
end K10
namespace K10
open PySem PySem.Spec PyProof.Rows L2 Kx SX LamX
section
variable {P : Program} {w : World} {K : PySem.W.Frag} {mg : Str → Option Value} {base : Heap} (T : Tx K mg)
theorem tabs_put {Tb : List (Addr × Str)} {p : Addr} {xs : List V} {H H' : Hp} (t : Tabs Tb H) (g : H p = some (.lst xs)) (m : Mv p H H') : Tabs Tb H' := fun q hq => by
  obtain ⟨ps, h1, h2, h3⟩ := t q hq
  refine ⟨ps, m _ _ (ne_of_two h1 g (fun z => by cases z)) h1, h2, fun pos cv hc => ?_⟩
  obtain ⟨c', e1, e2⟩ := h3 pos cv hc
  exact ⟨c', e1, m _ _ (ne_of_two e2 g (fun z => by cases z)) e2⟩
def twoTabs (Pt Pu : Addr) : List (Addr × Str) := [(Pt, "_law_refused_right.<locals>.<lambda>"), (Pu, "law.<locals>.<lambda>")]
/-- what the law's turn stands on -/
structure Lw (K : PySem.W.Frag) (CB a wc wp rp cp bk : Addr) (TT : List (Addr × Str)) (ws : List (List Nat)) (r cs : List Nat) (n : Nat) (H : Hp) : Prop where
  w : H wp = some (.lst (ws.map tx))
  r : H rp = some (.lst (nv r))
  c : H cp = some (.lst (nv cs))
  b : BookAt K CB H bk ws
  wh : Wh H a wc n
  t : Tabs TT H
theorem Lw.mv {CB a wc wp rp cp bk : Addr} {TT : List (Addr × Str)} {ws : List (List Nat)} {r cs : List Nat} {n n' : Nat} {H H' : Hp} (mv : Mv a H H') (w : Wh H' a wc n') (h : Lw K CB a wc wp rp cp bk TT ws r cs n H) : Lw K CB a wc wp rp cp bk TT ws r cs n' H' := by
  obtain ⟨xs, hx⟩ := wh_lst h.wh
  exact ⟨mv _ _ (wh_ne_words h.wh h.w) h.w, mv _ _ (wh_ne_nums h.wh h.r) h.r, mv _ _ (wh_ne_nums h.wh h.c) h.c, h.b.mvL hx mv, w, Tabs.mv h.t h.wh mv⟩
theorem Lw.same {CB a wc wp rp cp bk : Addr} {TT : List (Addr × Str)} {ws : List (List Nat)} {r cs : List Nat} {n : Nat} {H H' : Hp} (e : Same H H') (h : Lw K CB a wc wp rp cp bk TT ws r cs n H) : Lw K CB a wc wp rp cp bk TT ws r cs n H' := h.mv (Mv.of e) (h.wh.same e)
theorem Lw.ext {CB a wc wp rp cp bk : Addr} {TT : List (Addr × Str)} {ws : List (List Nat)} {r cs : List Nat} {n n' : Nat} {H H' : Hp} (e : ExtN (core a H) H') (w : Wh H' a wc n') (t : Tabs TT H') (h : Lw K CB a wc wp rp cp bk TT ws r cs n H) : Lw K CB a wc wp rp cp bk TT ws r cs n' H' := by
  have cr : ∀ b o, b ≠ a → (∀ ps, o ≠ .tbl ps) → H b = some o → H' b = some o := fun b o h1 h2 h3 => e b o (core_at h3 h1 h2) h2
  obtain ⟨xs, hx⟩ := wh_lst h.wh
  obtain ⟨dx, t', b1, b2, b3⟩ := h.b
  refine ⟨cr _ _ (wh_ne_words h.wh h.w) (fun _ z => by cases z) h.w, cr _ _ (wh_ne_nums h.wh h.r) (fun _ z => by cases z) h.r, cr _ _ (wh_ne_nums h.wh h.c) (fun _ z => by cases z) h.c, ⟨dx, t', cr _ _ (ne_of_two b1 hx (fun z => by cases z)) (fun _ z => by cases z) b1, ?_, ?_⟩, w, t⟩
  · rcases b2 with (b2 | ⟨ob, b2⟩) | b2
    · exact .inl (.inl (cr _ _ (ne_of_two b2 hx (fun z => by cases z)) (fun _ z => by cases z) b2))
    · exact .inl (.inr ⟨ob, cr _ _ (ne_of_two b2 hx (fun z => by cases z)) (fun _ z => by cases z) b2⟩)
    · exact .inr b2
  · rcases b3 with ⟨ob, ys, b3, hd⟩ | b3
    · exact .inl ⟨ob, ys, cr _ _ (ne_of_two b3 hx (fun z => by cases z)) (fun _ z => by cases z) b3, hd⟩
    · exact .inr b3
/-- a list of drawn numbers that grows -/
def Grow (a c D : Addr) (H : Hp) (m n : Nat) (ws : List Nat) (H' : Hp) : Prop := H' D = some (.lst (nv ws)) ∧ (∀ x ∈ ws, x < m) ∧ Mv a H H' ∧ Wh H' a c n
theorem Grow.app {a c D : Addr} {H Hd H4 : Hp} {m n n0 n' z : Nat} {ws : List Nat} {v : V} (g : Grow a c D H m n ws Hd) (nD : H D = none) (w0 : Wh H a c n0) (mv : Mv a Hd H4) (w : Wh H4 a c n') (hv : v = .int z) (hz : z < m) (hl : ws.length < 1000) :
    ∃ acc, H4 D = some (.lst acc) ∧ acc.length < sizeLine ∧ Grow a c D H m n' (ws ++ [z]) (upd H4 D (.lst (acc ++ [v]))) := by
  obtain ⟨h1, h2, h3, h4⟩ := g
  have hDa := w0.ne nD
  refine ⟨_, mv _ _ hDa h1, by rw [nv_len]; exact Nat.lt_trans hl (by decide), ?_, fun x hx => ?_, fun b o' nb h => ?_, w.set hDa (w0.nc nD)⟩
  · rw [upd_same, nv_app, hv]
    rfl
  · rcases List.mem_append.mp hx with hx | hx
    · exact h2 x hx
    · rw [List.mem_singleton.mp hx]
      exact hz
  · rw [upd_ne (ne_of_none h nD)]
    exact (h3.trans mv) b o' nb h
theorem dp_nvT {H : Hp} {t : Addr} {xs : List Nat} (h : SqT K H t (nv xs)) : Dp K H (.ref t) (.tuple ((iv xs).map PyData.int)) := .tup h (dpAll_map (iv xs) fun i _ => .int i)
theorem sh_nvT {xs : List Nat} (h : ∀ x ∈ xs, x < 1000) : Sh 1 xs.length (.tuple ((iv xs).map PyData.int)) := by
  have := (shA_ints (k := 0) (iv xs) (fun i m => by
    obtain ⟨z, hz, rfl⟩ := List.mem_map.mp m
    have := h z hz
    omega)).tup
  have e : (iv xs).length = xs.length := by unfold iv; rw [List.length_map]
  rw [e] at this
  exact this
theorem numOf_lt : ∀ (i : Nat) (ws : List (List Nat)) (x : List Nat) (k : Nat), numOf i ws x = some k → k < i + ws.length
  | _, [], _, _, h => by cases h
  | i, w :: r, x, k, h => by
    rw [show numOf i (w :: r) x = if w = x then some i else numOf (i + 1) r x from rfl] at h
    rw [List.length_cons]
    split at h
    · cases h
      omega
    · have := numOf_lt (i + 1) r x k h
      omega
theorem readN_lt {ws : List (List Nat)} {l : List Nat} : ∀ k ∈ readN ws l, k < ws.length := fun k hk => by
  obtain ⟨it, _, h⟩ := List.mem_filterMap.mp hk
  have := numOf_lt 0 ws it k h
  omega
theorem readN_len {ws : List (List Nat)} {l : List Nat} : (readN ws l).length ≤ l.length + 1 := by
  unfold readN
  have h1 := List.length_filterMap_le (f := numOf 0 ws) (l := itemsA [] l)
  rw [items_length] at h1
  have h2 := List.count_le_length (a := 32) (l := l)
  omega
theorem text_ok {l : List Nat} (h : l.all sg = true) (hl : l.length ≤ 200000) : textB l = true := by
  unfold textB
  rw [h, decide_eq_true hl]
  rfl
theorem nv_map (xs : List Nat) : (xs.map fun s : Nat => V.int s) = nv xs := by
  unfold nv iv
  rw [List.map_map]
  rfl
/-- what is read is what the law reads -/
theorem read_same {CB EB ET a wc wp rp cp bk : Addr} {EX EY : XK} {TT : List (Addr × Str)} {ws : List (List Nat)} {r cs l : List Nat} {n : Nat} {D : Ends} {σ : L2.St} {H : Hp} {t u : TS} (h9 : σ[9]? = some (some (.ref bk))) (h11 : σ[11]? = some (some (.str (S l)))) (h3 : σ[3]? = some (some (.ref wp)))
    (L : Lw K CB a wc wp rp cp bk TT ws r cs n H) (l2 : ws.length ≤ 40) (nd : ws.Nodup) (hl : l.all sg = true) (ll : l.length ≤ 200000) (h : ∀ H', Same H H' → u D σ H') :
    tIfS (tTest (tOp rNe (tCB (rRepr K) (tCons (tCall (sp_read K CB EB ET) [] EX (tCons (tVar 9) (tCons (tVar 11) tNil))) tNil))
      (tCB (rRepr K) (tCons (tCB (fun xs H Q => ∃ p ys, xs = [V.ref p] ∧ ((SqL K H p ys ∧ ∀ l o, H l = none → o.dict = none → Q (V.ref l) (upd H l (.frz o (.tup ys)))) ∨ (SqT K H p ys ∧ Q (V.ref p) H))) (tCons (tCall (sp_law_read K) [] EY (tCons (tVar 3) (tCons (tVar 11) tNil))) tNil)) tNil)))) t u D σ H := by
  refine nerepr_if (.tuple ((iv (readN ws l)).map PyData.int)) (sh_nvT fun x hx => by have := readN_lt x hx; omega) (by decide) (by have := readN_len (ws := ws) (l := l); omega) (fun Q q => ?_) (fun H0 e0 Q q => ?_) h
  · refine ⟨_, h9, _, h11, .ref bk, .str (S l), rfl, .inr ⟨bk, ws, some l, rfl, L.b, l2, nd, ⟨rfl, by omega⟩, (fun z => by rw [show (some l).elim false textB = textB l from rfl, text_ok hl ll] at z; cases z), fun l' e _ p H' hp _ e' => ?_⟩⟩
    cases e
    rw [nv_map] at hp
    exact q p H' e' (dp_nvT hp)
  · refine ⟨_, h3, _, h11, wp, ws, l, rfl, e0 _ _ L.w, ll, fun p H' hp e => ?_⟩
    exact ⟨p, _, rfl, .inl ⟨.inl (.inl hp), fun t o nt _ => q t _ (e.trans (same_new nt)) (dp_nvT (.inl (.inr ⟨o, upd_same⟩)))⟩⟩
theorem Lw.lt {CB a wc wp rp cp bk : Addr} {TT : List (Addr × Str)} {ws : List (List Nat)} {r cs : List Nat} {n n' : Nat} {H : Hp} (l : n ≤ n') (h : Lw K CB a wc wp rp cp bk TT ws r cs n H) : Lw K CB a wc wp rp cp bk TT ws r cs n' H := ⟨h.w, h.r, h.c, h.b, h.wh.lt l, h.t⟩
theorem often_lt {cs r : List Nat} {n : Nat} (h : ∀ k ∈ r, k < n) : ∀ x ∈ oftenN cs r, x < n := fun x hx => by
  obtain ⟨k, hk, hm⟩ := List.mem_flatMap.mp hx
  rw [(List.mem_replicate.mp hm).2]
  exact h k hk
theorem often_le {cs : List Nat} (hcb : ∀ c ∈ cs, c ≤ 12) (r : List Nat) : (oftenN cs r).length ≤ 12 * r.length := by
  induction r with
  | nil => exact Nat.le_refl _
  | cons k r' ih =>
    show (List.replicate (cs.getD k 0) k ++ oftenN cs r').length ≤ 12 * (r'.length + 1)
    rw [List.length_append, List.length_replicate]
    have := getN_le hcb k
    omega
theorem cut_nx {s : TS} {D : Ends} {σ : L2.St} {H : Hp} (F : Hp → Prop) (h : ∀ N : L2.St → Hp → Prop, (∀ Hz, F Hz → N σ Hz) → s { D with nx := N } σ H) (k : ∀ Hz, F Hz → D.nx σ Hz) : s D σ H := h D.nx k
def wideW : List (List Nat) := [List.replicate 12 97, [98, 98]]
theorem signs_app (ws : List (List Nat)) (cs a b : List Nat) : signsN ws cs (a ++ b) = signsN ws cs a + signsN ws cs b := by
  unfold signsN
  rw [List.map_append, List.sum_append]
theorem signs_rep (ws : List (List Nat)) (cs : List Nat) (n k : Nat) : signsN ws cs (List.replicate n k) = n * (cs.getD k 0 * ((ws.getD k []).length + 1)) := by
  unfold signsN
  rw [List.map_replicate, List.sum_replicate_nat]
theorem nv_rep0 (k : Nat) : List.replicate k (V.int 0) = nv (List.replicate k 0) := by
  unfold nv iv
  rw [List.map_replicate, List.map_replicate]
  rfl
theorem wide_lt (n k : Nat) (h : k < 2) : ∀ x ∈ List.replicate n 0 ++ [k], x < wideW.length := fun x hx => by
  show x < 2
  rcases List.mem_append.mp hx with hx | hx
  · rw [(List.mem_replicate.mp hx).2]
    decide
  · rw [List.mem_singleton.mp hx]
    exact h
theorem wide_signs : signsN wideW [2, 3] (List.replicate 7692 0 ++ [1]) = 200001 := by
  rw [signs_app, signs_rep]
  rfl
theorem wide_more : signsN wideW [2, 4] (List.replicate 7692 0 ++ [1]) = 200004 := by
  rw [signs_app, signs_rep]
  rfl
theorem wide_len : (spellS wideW [2, 3] (List.replicate 7692 0 ++ [1])).length = 200000 := by
  have h1 := spellI_sum wideW [2, 3] (List.replicate 7692 0 ++ [1])
  rw [wide_signs] at h1
  have h2 : spellI wideW [2, 3] (List.replicate 7692 0 ++ [1]) ≠ [] := fun z => by
    rw [z] at h1
    cases h1
  have h3 := joinL_sum _ h2
  unfold spellS
  omega
/-- [0] * 7692 + [1] -/
theorem rowx_ok {σ : L2.St} {H : Hp} {Q : VK} (q : ∀ (rp : Addr) (H' : Hp), Same H H' → H' rp = some (.lst (nv (List.replicate 7692 0 ++ [1]))) → Q (.ref rp) H') : tOp rCat (tOp rRep (tLst (tCons (tC (V.int 0)) tNil)) (tC (V.int 7692))) (tLst (tCons (tC (V.int 1)) tNil)) σ H Q := by
  refine ⟨sz1, fun p1 n1 => ⟨p1, 7692, _, rfl, rfl, upd_same, by decide, by decide, (show 1 * 7692 ≤ sizeLine by decide), fun p2 n2 => ?_⟩⟩
  rw [show (7692 : Int).toNat = 7692 from rfl, rep_flatV, nv_rep0]
  refine ⟨sz1, fun p3 n3 => ⟨p2, p3, _, _, rfl, rfl, same_new n3 _ _ upd_same, upd_same, ?_, fun p4 n4 => q p4 _ ((same_new n1).trans ((same_new n2).trans ((same_new n3).trans (same_new n4)))) ?_⟩⟩
  · rw [nv_len, List.length_replicate]
    exact (show 7692 + 1 ≤ sizeLine by decide)
  · rw [upd_same, nv_app]
    rfl
theorem row_lenx (n k : Nat) : (List.replicate n 0 ++ [k]).length = n + 1 := by
  rw [List.length_append, List.length_replicate]
  rfl
theorem wide12 : ∀ w ∈ wideW, w.length ≤ 12 := by decide
theorem wideB : ∀ w ∈ wideW, wordB w = true := by decide
theorem wideNd : wideW.Nodup := by decide
def sp_law (K : PySem.W.Frag) (Pt Pu : Addr) : Sp := fun vs H Q _ => ∃ (a : Addr) (ns : List Int), vs = [.ref a] ∧ SqL K H a (ns.map V.int) ∧ H Pt = some (.tbl #[]) ∧ H Pu = some (.tbl #[]) ∧ ∀ H', Q (.bl true) H'
theorem ok_law {d Pt c Pu : Addr} (FC : FunC K "_law_refused_right" "_law_refused_right" s_law_refused_right T.f_law_refused_right T.fd_law_refused_right d) (TBr : TabB base mg d Pt) (FL : FunC K "law" "law" s_law T.f_law T.fd_law c) (TB : TabB base mg c Pu) (hne : Pt ≠ Pu) : FnG P w K mg base CX0 18 T.f_law T.fd_law ["script"] (sp_law K Pt Pu) := by
  have hmL : (Pu, ("law.<locals>.<lambda>" : Str)) ∈ twoTabs Pt Pu := List.mem_cons_of_mem _ List.mem_cons_self
  have huL : ∀ p ∈ twoTabs Pt Pu, p.1 = Pu → p.2 = "law.<locals>.<lambda>" := fun p hp e => by
    rcases List.mem_cons.mp hp with rfl | hp
    · exact absurd e hne
    · rw [List.mem_singleton.mp hp]
  have FG_law_refused_right := ok_law_refused_right (P := P) (w := w) (base := base) T FC TBr (TT := twoTabs Pt Pu) List.mem_cons_self (fun p hp e => by
    rcases List.mem_cons.mp hp with rfl | hp
    · rfl
    · rw [List.mem_singleton.mp hp] at e
      exact absurd e.symm hne)
  obtain ⟨oc, od, kV, doc, pm, an, cdv, ct, osl, efd, lk, hcd⟩ := T.F_law_heard.ex
  rw [efd] at lk
  have hbd : Binds K _ ["ask"] [] := efd ▸ T.b_law_heard
  refine okC FL sc_law (fun vs H Q E h => ?_) (fun A outer s H vs Q E hg hr h => ?_)
  · obtain ⟨a, ns, rfl, _⟩ := h
    rfl
  · obtain ⟨a, ns, rfl, hs, hPt, hPu, q⟩ := h
    refine ⟨_, (pss_cons (ps_set (i := 1) sc_law.nd rfl (.inr rfl) (pe_call (ok_law_bench T) (hr.mono (by decide)) (by rfl) T.g_law_bench T.F_law_bench.kp T.b_law_bench .nil pass0 (pa_cons (pv 0) pa_nil)))
    (pss_cons (ps_for PassesOwn.never rfl (pi_range1 (by rfl) T.m_range (pa_cons pe_int pa_nil)) (pg_name (i := 2) sc_law.nd rfl (.inl rfl))
      (pss_cons (ps_set (i := 3) sc_law.nd rfl (.inr rfl) (pe_call (ok_law_words T) (hr.mono (by decide)) (by rfl) T.g_law_words T.F_law_words.kp T.b_law_words .nil pass0 (pa_cons (pv 1) (pa_cons (pe_call (ok_law_one_of T) (hr.mono (by decide)) (by rfl) T.g_law_one_of T.F_law_one_of.kp T.b_law_one_of .nil pass0 (pa_cons (pv 1) (pa_cons (pe_lst (pa_cons pe_int (pa_cons pe_int (pa_cons pe_int (pa_cons pe_int pa_nil))))) pa_nil))) (pa_cons (pe_call (ok_law_one_of T) (hr.mono (by decide)) (by rfl) T.g_law_one_of T.F_law_one_of.kp T.b_law_one_of .nil pass0 (pa_cons (pv 1) (pa_cons (pe_lst (pa_cons pe_int (pa_cons pe_int (pa_cons pe_int pa_nil)))) pa_nil))) (pa_cons (pe_call (ok_law_one_of T) (hr.mono (by decide)) (by rfl) T.g_law_one_of T.F_law_one_of.kp T.b_law_one_of .nil pass0 (pa_cons (pv 1) (pa_cons (pe_lst (pa_cons pe_int (pa_cons pe_int (pa_cons pe_int pa_nil)))) pa_nil))) pa_nil))))))
      (pss_cons (ps_setLc (i := 5) (own := [("place", 4)]) rfl sc_law.nd rfl rfl (sw_true rfl rfl rfl (by decide +kernel)) (pi_range1 (by rfl) T.m_range (pa_cons (pe_call (ok_law_one_of T) (hr.mono (by decide)) (by rfl) T.g_law_one_of T.F_law_one_of.kp T.b_law_one_of .nil pass0 (pa_cons (pv 1) (pa_cons (pe_lst (pa_cons pe_int (pa_cons pe_int (pa_cons pe_int (pa_cons pe_int (pa_cons pe_int pa_nil)))))) pa_nil))) pa_nil)) (blkOk_by (own := [("place", 4)]) (N := ["script", "bench", "turn", "words", "place", "row", "word", "copies", "same", "book", "passed", "text", "often", "number", "bend", "wide"]) (sc := defScope s_law) (by decide +kernel)) (fun _ _ _ _ _ => (pg_name (i := 4) sc_law.nd rfl (.inl rfl))) (fun _ _ _ _ _ => pts_nil) (fun _ _ _ _ _ => (pe_call (ok_law_write T) (hr.mono (by decide)) (by rfl) T.g_law_write T.F_law_write.kp T.b_law_write .nil pass0 (pa_cons (pv 1) (pa_cons (pe_callB (inK_call_len_seq (K := K) rfl) (by rfl) T.m_len PySem.boot_len (pa_cons (pv 3) pa_nil)) pa_nil)))))
      (pss_cons (ps_par (i := 7) (j := 8) rfl sc_law.nd rfl rfl (by decide) rfl rfl (pa_cons (pe_lc (own := [("word", 6)]) rfl sc_law.nd (pi_list (pv 3)) (blkOk_by (own := [("word", 6)]) (N := ["script", "bench", "turn", "words", "place", "row", "word", "copies", "same", "book", "passed", "text", "often", "number", "bend", "wide"]) (sc := defScope s_law) (by decide +kernel)) (fun _ _ _ _ _ => (pg_name (i := 6) sc_law.nd rfl (.inl rfl))) (fun _ _ _ _ _ => pts_nil) (fun _ _ _ _ _ => (pe_call (ok_law_write T) (hr.mono (by decide)) (by rfl) T.g_law_write T.F_law_write.kp T.b_law_write .nil pass0 (pa_cons (pv 1) (pa_cons pe_int pa_nil))))) (pa_cons (pe_call (ok_law_write T) (hr.mono (by decide)) (by rfl) T.g_law_write T.F_law_write.kp T.b_law_write .nil pass0 (pa_cons (pv 1) (pa_cons pe_int pa_nil))) pa_nil)) (by rfl))
      (pss_cons (ps_par (i := 9) (j := 10) rfl sc_law.nd rfl rfl (by decide) rfl rfl (pa_cons (pe_make T.mk_Book (ok_Book_init T) (hr.mono (by decide)) (by rfl) T.gC_Book T.b_Book_init .nil passF (pa_cons (pv 3) pa_nil)) (pa_cons (pe_callTy call_list_of (by rfl) T.m_list (by decide +kernel) (pa_cons (pv 5) pa_nil)) pa_nil)) (by rfl))
      (pss_cons (ps_if (PW.pt (pw_or (pt_cmpR op_ne (pe_callB call_reprS (by rfl) T.m_repr (by decide +kernel) (pa_cons (pe_call (ok_spelled T) (hr.mono (by decide)) (by rfl) T.g_spelled T.F_spelled.kp T.b_spelled .nil passF (pa_cons (pv 9) (pa_cons (pv 10) (pa_cons (pv 7) pa_nil)))) pa_nil)) (pe_callB call_reprS (by rfl) T.m_repr (by decide +kernel) (pa_cons (pe_call (ok_law_text T) (hr.mono (by decide)) (by rfl) T.g_law_text T.F_law_text.kp T.b_law_text .nil pass0 (pa_cons (pv 3) (pa_cons (pv 5) (pa_cons (pv 7) pa_nil)))) pa_nil)) (nomark _)) (pw_or1 (pt_cmpR (op_neD hr.units) (pv 10) (pv 5) (nomark _)))))
        (pss_one (ps_ret pe_bl))
        pss_nil)
      (pss_cons (ps_set (i := 11) sc_law.nd rfl (.inl rfl) (pe_call (ok_law_text T) (hr.mono (by decide)) (by rfl) T.g_law_text T.F_law_text.kp T.b_law_text .nil pass0 (pa_cons (pv 3) (pa_cons (pv 5) (pa_cons (pe_op op_rep (pe_lst (pa_cons (pv 8) pa_nil)) (pe_callB call_len_seq (by rfl) T.m_len PySem.boot_len (pa_cons (pv 3) pa_nil))) pa_nil)))))
      (pss_cons (ps_if (PW.pt (pw_or (pt_cmpR op_ne (pe_callK0 (ok_spelled T) (hr.mono (by decide)) (by rfl) T.g_spelled T.F_spelled.kp (kb_spelled_0_copies_row_book T) passF (pk_cons (pv 8) (pk_cons (pe_callTy call_tuple_frz (by rfl) T.m_tuple (by decide +kernel) (pa_cons (pv 5) pa_nil)) (pk_cons (pv 9) pk_nil)))) (pv 11) (nomark _)) (pw_or1 (pt_cmpR op_ne (pe_call (ok_spelled T) (hr.mono (by decide)) (by rfl) T.g_spelled T.F_spelled.kp T.b_spelled .nil passF (pa_cons (pv 9) (pa_cons (pv 5) (pa_cons (pe_callTy call_tuple_frz (by rfl) T.m_tuple (by decide +kernel) (pa_cons (pe_op op_rep (pe_lst (pa_cons (pv 8) pa_nil)) (pe_callB call_len_seq (by rfl) T.m_len PySem.boot_len (pa_cons (pv 3) pa_nil))) pa_nil)) pa_nil)))) (pv 11) (nomark _)))))
        (pss_one (ps_ret pe_bl))
        pss_nil)
      (pss_cons (ps_if (pt_cmpR op_ne (pe_callB (call_reprD hg hr.units) (by rfl) T.m_repr (by decide +kernel) (pa_cons (pe_call (ok_read T) (hr.mono (by decide)) (by rfl) T.g_read T.F_read.kp T.b_read .nil passF (pa_cons (pv 9) (pa_cons (pv 11) pa_nil))) pa_nil)) (pe_callB (call_reprD hg hr.units) (by rfl) T.m_repr (by decide +kernel) (pa_cons (pe_callTy call_tuple_frz (by rfl) T.m_tuple (by decide +kernel) (pa_cons (pe_call (ok_law_read T) (hr.mono (by decide)) (by rfl) T.g_law_read T.F_law_read.kp T.b_law_read .nil pass0 (pa_cons (pv 3) (pa_cons (pv 11) pa_nil))) pa_nil)) pa_nil)) (nomark _))
        (pss_one (ps_ret pe_bl))
        pss_nil)
      (pss_cons (ps_set (i := 12) sc_law.nd rfl (.inl rfl) (pe_lst pa_nil))
      (pss_cons (ps_for PassesOwn.never rfl (pi_list (pv 5)) (pg_name (i := 13) sc_law.nd rfl (.inl rfl))
        (pss_one (ps_expr (pe_bm PySem.F.plainAttrs_list PySem.F.slot_list_extend PySem.F.type_list_extend mt_extend (pv 12) (pa_cons (pe_op op_rep (pe_lst (pa_cons (pv 13) pa_nil)) (pe_ix ix_list (pv 7) (pv 13) (fun _ _ => rfl))) pa_nil)))))
      (pss_cons (ps_if (pt_cmpR op_ne (pe_callB (call_reprD hg hr.units) (by rfl) T.m_repr (by decide +kernel) (pa_cons (pe_callK0 (ok_read T) (hr.mono (by decide)) (by rfl) T.g_read T.F_read.kp (kb_read_0_text_book T) passF (pk_cons (pe_call (ok_law_text T) (hr.mono (by decide)) (by rfl) T.g_law_text T.F_law_text.kp T.b_law_text .nil pass0 (pa_cons (pv 3) (pa_cons (pv 5) (pa_cons (pv 7) pa_nil)))) (pk_cons (pv 9) pk_nil))) pa_nil)) (pe_callB (call_reprD hg hr.units) (by rfl) T.m_repr (by decide +kernel) (pa_cons (pe_callTy call_tuple_frz (by rfl) T.m_tuple (by decide +kernel) (pa_cons (pv 12) pa_nil)) pa_nil)) (nomark _))
        (pss_one (ps_ret pe_bl))
        pss_nil)
      (pss_cons (ps_for PassesOwn.never rfl (pi_range1 (by rfl) T.m_range (pa_cons pe_int pa_nil)) (pg_name (i := 14) sc_law.nd rfl (.inl rfl))
        (pss_cons (ps_set (i := 11) sc_law.nd rfl (.inl rfl) (pe_call (ok_law_bent T) (hr.mono (by decide)) (by rfl) T.g_law_bent T.F_law_bent.kp T.b_law_bent .nil pass0 (pa_cons (pv 1) (pa_cons (pv 3) (pa_cons (pv 11) pa_nil)))))
        (pss_one (ps_if (pt_cmpR op_ne (pe_callB (call_reprD hg hr.units) (by rfl) T.m_repr (by decide +kernel) (pa_cons (pe_call (ok_read T) (hr.mono (by decide)) (by rfl) T.g_read T.F_read.kp T.b_read .nil passF (pa_cons (pv 9) (pa_cons (pv 11) pa_nil))) pa_nil)) (pe_callB (call_reprD hg hr.units) (by rfl) T.m_repr (by decide +kernel) (pa_cons (pe_callTy call_tuple_frz (by rfl) T.m_tuple (by decide +kernel) (pa_cons (pe_call (ok_law_read T) (hr.mono (by decide)) (by rfl) T.g_law_read T.F_law_read.kp T.b_law_read .nil pass0 (pa_cons (pv 3) (pa_cons (pv 11) pa_nil))) pa_nil)) pa_nil)) (nomark _))
          (pss_one (ps_ret pe_bl))
          pss_nil))))
      (pss_one (ps_if (pt_not (pt_val (pe_callG FG_law_refused_right hg (hr.mono (by decide)) (by rfl) T.g_law_refused_right T.F_law_refused_right.kp T.b_law_refused_right (pa_cons (pv 1) (pa_cons (pv 3) (pa_cons (pv 5) pa_nil))))))
        (pss_one (ps_ret pe_bl))
        pss_nil)))))))))))))))
    (pss_cons (ps_set (i := 15) sc_law.nd rfl (.inr rfl) (pe_make T.mk_Book (ok_Book_init T) (hr.mono (by decide)) (by rfl) T.gC_Book T.b_Book_init .nil passF (pa_cons (pe_lst (pa_cons (pe_op op_repS pe_str pe_int) (pa_cons pe_str pa_nil))) pa_nil)))
    (pss_cons (ps_if (pt_cmpR op_eq (pe_call (ok_law_write T) (hr.mono (by decide)) (by rfl) T.g_law_write T.F_law_write.kp T.b_law_write .nil pass0 (pa_cons (pv 1) (pa_cons pe_int pa_nil))) pe_int (nomark _))
      (pss_one (ps_if (PW.pt (pw_or (pt_cmpR op_ne (pe_callB call_len_str (by rfl) T.m_len PySem.boot_len (pa_cons (pe_call (ok_spelled T) (hr.mono (by decide)) (by rfl) T.g_spelled T.F_spelled.kp T.b_spelled .nil passF (pa_cons (pv 15) (pa_cons (pe_op op_cat (pe_op op_rep (pe_lst (pa_cons pe_int pa_nil)) pe_int) (pe_lst (pa_cons pe_int pa_nil))) (pa_cons (pe_lst (pa_cons pe_int (pa_cons pe_int pa_nil))) pa_nil)))) pa_nil)) pe_int (nomark _)) (pw_or1 (pt_cmpR (op_neD hr.units) (pe_lamcall (T := (twoTabs Pt Pu)) (c := c) (P := Pu) (k := 7) (by rfl) T.g_law_heard T.F_law_heard.kp lk hcd hbd sc_law_heard rfl (.inl rfl) (heard_gives T) TB rfl hmL huL (hr.mono (by decide)) (lamS_by (sc := defScope s_law) (by decide +kernel)) rfl (fun _ _ _ _ _ => rfl) (fun A outer s H E f c' hr2 => (pe_call (ok_spelled T) (hr2.mono (by decide)) (by rfl) T.g_spelled T.F_spelled.kp T.b_spelled .nil (passes_call (takes_of rfl rfl rfl rfl) (fun _ _ _ _ h => h)) (pa_cons (pv 15) (pa_cons (pe_op op_cat (pe_op op_rep (pe_lst (pa_cons pe_int pa_nil)) pe_int) (pe_lst (pa_cons pe_int pa_nil))) (pa_cons (pe_lst (pa_cons pe_int (pa_cons pe_int pa_nil))) pa_nil)))))) (pe_tup (pa_cons pe_str (pa_cons pe_str pa_nil))) (nomark _)))))
        (pss_one (ps_ret pe_bl))
        pss_nil))
      pss_nil)
    (pss_one (ps_ret (pe_and (pe_cmpR (op_eqD hr.units) (pe_lamcall (T := (twoTabs Pt Pu)) (c := c) (P := Pu) (k := 7) (by rfl) T.g_law_heard T.F_law_heard.kp lk hcd hbd sc_law_heard rfl (.inl rfl) (heard_gives T) TB rfl hmL huL (hr.mono (by decide)) (lamS_by (sc := defScope s_law) (by decide +kernel)) rfl (fun _ _ _ _ _ => rfl) (fun A outer s H E f c' hr2 => (pe_call (ok_spelled T) (hr2.mono (by decide)) (by rfl) T.g_spelled T.F_spelled.kp T.b_spelled .nil (passes_call (takes_of rfl rfl rfl rfl) (fun _ _ _ _ h => h)) (pa_cons (pv 15) (pa_cons (pe_op op_rep (pe_lst (pa_cons pe_int pa_nil)) pe_int) (pa_cons pe_int pa_nil)))))) (pe_tup (pa_cons pe_str (pa_cons pe_str pa_nil))) (nomark _)) (pe_one (pe_cmpR op_eq (pe_call (ok_spelled T) (hr.mono (by decide)) (by rfl) T.g_spelled T.F_spelled.kp T.b_spelled .nil passF (pa_cons (pv 15) (pa_cons (pe_lst (pa_cons pe_int (pa_cons pe_int pa_nil))) (pa_cons pe_int pa_nil)))) pe_str (nomark _)))))))))), ?_⟩
    refine go_seq (go_asg ⟨_, rfl, a, ns, rfl, hs, fun w1 wc H1 nw e1 w0 => ?_⟩)
    have T1 : Tabs (twoTabs Pt Pu) H1 := fun p hp => by
      rcases List.mem_cons.mp hp with rfl | hp
      · exact TabS.nil (e1 _ _ hPt)
      · rw [List.mem_singleton.mp hp]
        exact TabS.nil (e1 _ _ hPu)
    dsimp only [gName]
    refine go_seq ⟨3, rfl, by decide, by decide, for_range (lo := 0) (n := 3) (fun i σ H' => ∃ (o2 o3 o4 o5 o6 o7 o8 o9 o10 o11 o12 o13 o14 o15 : Option V), σ = [some (.ref a), some (.ref w1), o2, o3, o4, o5, o6, o7, o8, o9, o10, o11, o12, o13, o14, o15] ∧ Wh H' w1 wc (4000 * i) ∧ Tabs (twoTabs Pt Pu) H')
      ⟨none, none, none, none, none, none, none, none, none, none, none, none, none, none, rfl, w0, T1⟩ (fun i σ' Hc hi h => ?_) (fun σ' Hc h => ?_)⟩
    · obtain ⟨o2, o3, o4, o5, o6, o7, o8, o9, o10, o11, o12, o13, o14, o15, rfl, wi, Ti⟩ := h
      have mk : ∀ {xs : List V} {H0 : Hp} {p : Addr} {n : Nat} {Q : VK}, H0 p = none → Wh H0 w1 wc n → n < 1000000 → xs ≠ [] → xs.length ≤ 1000000 → (∀ v H', v ∈ xs → Mv w1 H0 H' → Wh H' w1 wc (n + 1) → Q v H') → sp_law_one_of K [.ref w1, .ref p] (upd H0 p (.lst xs)) Q E0 := fun {xs H0 p n Q} np w hn h0 hl q => by
        have hpw := w.ne np
        refine ⟨w1, p, wc, xs, n, rfl, .inl (.inl upd_same), h0, hl, w.new np, hn, fun H' m => .inl (.inl (m _ _ hpw upd_same)), fun v H' hv m w' => q v H' hv ((Mv.of (same_new np)).trans m) w'⟩
      dsimp only [gName]
      refine go_seq (go_asg ⟨_, rfl, _, rfl, sz4, fun p1 n1 => mk n1 wi (by omega) (by simp) (show 4 ≤ 1000000 by decide) fun v1 H2 hv1 m2 w2 => ?_⟩)
      obtain ⟨b1, rfl, b10, b11⟩ : ∃ z : Int, v1 = .int z ∧ 1 ≤ z ∧ z ≤ 40 := by
        simp only [List.mem_cons, List.not_mem_nil, or_false] at hv1
        rcases hv1 with rfl | rfl | rfl | rfl <;> exact ⟨_, rfl, by decide, by decide⟩
      refine ⟨_, rfl, sz3, fun p2 n2 => mk n2 w2 (by omega) (by simp) (show 3 ≤ 1000000 by decide) fun v2 H3 hv2 m3 w3 => ?_⟩
      obtain ⟨b2, rfl, b20, b21⟩ : ∃ z : Int, v2 = .int z ∧ 1 ≤ z ∧ z ≤ 12 := by
        simp only [List.mem_cons, List.not_mem_nil, or_false] at hv2
        rcases hv2 with rfl | rfl | rfl <;> exact ⟨_, rfl, by decide, by decide⟩
      refine ⟨_, rfl, sz3, fun p3 n3 => mk n3 w3 (by omega) (by simp) (show 3 ≤ 1000000 by decide) fun v3 H4 hv3 m4 w4 => ?_⟩
      obtain ⟨b3, rfl, b30, b31⟩ : ∃ z : Int, v3 = .int z ∧ 1 ≤ z ∧ z ≤ 26 := by
        simp only [List.mem_cons, List.not_mem_nil, or_false] at hv3
        rcases hv3 with rfl | rfl | rfl <;> exact ⟨_, rfl, by decide, by decide⟩
      refine ⟨w1, wc, b1, b2, b3, _, rfl, b10, b11, b20, b21, b30, b31, w4, by omega, fun p ws H5 hW hpw m5 w5 => ?_⟩
      have T5 := Tabs.mv Ti wi (((m2.trans m3).trans m4).trans m5)
      obtain ⟨hp5, l1, l2, hwb, nd⟩ := hW
      have lw : (ws.map tx).length = ws.length := List.length_map ..
      clear hv1 hv2 hv3 n1 n2 n3 m2 m3 m4 m5 w2 w3 w4 wi Ti
      dsimp only [gName]
      refine go_seq (go_asg ⟨_, rfl, sz5, fun p4 n4 => mk n4 w5 (by omega) (by simp) (show 5 ≤ 1000000 by decide) fun v4 H6 hv4 m6 w6 => ?_⟩)
      obtain ⟨k, rfl, hk⟩ : ∃ z : Nat, v4 = .int (z : Nat) ∧ z ≤ 20 := by
        simp only [List.mem_cons, List.not_mem_nil, or_false] at hv4
        rcases hv4 with rfl | rfl | rfl | rfl | rfl
        · exact ⟨3, rfl, by decide⟩
        · exact ⟨0, rfl, by decide⟩
        · exact ⟨1, rfl, by decide⟩
        · exact ⟨8, rfl, by decide⟩
        · exact ⟨20, rfl, by decide⟩
      have hp6 := m6 _ _ hpw hp5
      have T6 := Tabs.mv T5 w5 m6
      clear hv4 n4 m6 hp5 T5
      refine ⟨_, rfl, by omega, by omega, fun D nD => lc_range (lo := 0) (n := (k : Int).toNat) (fun j H' => ∃ r : List Nat, r.length = j ∧ H' p = some (.lst (ws.map tx)) ∧ Grow w1 wc D H6 ws.length (4000 * i + 700 + j) r H') ⟨[], rfl, same_new nD _ _ hp6, upd_same, (fun _ h => by cases h), Mv.of (same_new nD), (w6.new nD).lt (by omega)⟩ (fun j Hd hj h => ?_) (fun Hd h => ?_)⟩
      · obtain ⟨r, lr, hpd, g⟩ := h
        have pD : p ≠ D := ne_of_none hp6 nD
        refine ⟨rfl, ?_⟩
        refine iteT (B := True) ?_
        refine ⟨_, rfl, _, rfl, p, _, rfl, .inl (.inl (.inl hpd)), w1, wc, ws.length, _, by rw [lw]; rfl, by omega, by omega, g.2.2.2, by omega, fun z H7 z0 z1 m7 w7 => ?_⟩
        obtain ⟨z, rfl⟩ : ∃ y : Nat, z = y := ⟨z.toNat, by omega⟩
        obtain ⟨acc, a1, a2, a3⟩ := g.app (v := .int (z : Nat)) (z := z) nD w6 m7 w7 rfl (by omega) (by omega)
        exact ⟨acc, a1, a2, _, by rw [List.length_append, lr]; rfl, by rw [upd_ne pD]; exact m7 _ _ hpw hpd, a3⟩
      obtain ⟨r, lr, hp7, hD7, hrk, m7, w7⟩ := h
      have lr : r.length ≤ 20 := by omega
      have T7 := Tabs.mv T6 w6 m7
      clear hp6 T6 w6 m7 nD
      dsimp only [gName]
      refine go_seq ⟨_, rfl, p, rfl, ⟨_, .inl (.inl hp7)⟩, fun D2 nD2 => lc_it (walk_list (xs := ws.map tx)) (fun j H' => ∃ cs : List Nat, cs.length = j ∧ H' p = some (.lst (ws.map tx)) ∧ H' D = some (.lst (nv r)) ∧ Grow w1 wc D2 Hd 13 (4000 * i + 730 + j) cs H') ⟨[], rfl, same_new nD2 _ _ hp7, same_new nD2 _ _ hD7, upd_same, (fun _ h => by cases h), Mv.of (same_new nD2), (w7.new nD2).lt (by omega)⟩ (fun j Hc' _ h => .inl (.inl h.choose_spec.2.1)) (fun j x Hc' Hx hj h y => ?_) (fun Hd' h => ?_)⟩
      · obtain ⟨rfl, hx⟩ := y
        obtain ⟨cs, lc, hpd, hDd, g⟩ := h
        have pD : p ≠ D2 := ne_of_none hp7 nD2
        have dD : D ≠ D2 := ne_of_none hD7 nD2
        have hDw := wh_ne_nums w7 hD7
        refine ⟨rfl, ?_⟩
        refine iteT (B := True) ?_
        refine ⟨_, rfl, w1, wc, 13, _, rfl, by decide, by decide, g.2.2.2, by omega, fun z H8 z0 z1 m8 w8 => ?_⟩
        obtain ⟨z, rfl⟩ : ∃ y : Nat, z = y := ⟨z.toNat, by omega⟩
        obtain ⟨acc, a1, a2, a3⟩ := g.app (v := .int (z : Nat)) (z := z) nD2 w7 m8 w8 rfl (by omega) (by omega)
        exact ⟨acc, a1, a2, _, by rw [List.length_append, lc]; rfl, by rw [upd_ne pD]; exact m8 _ _ hpw hpd, by rw [upd_ne dD]; exact m8 _ _ hDw hDd, a3⟩
      obtain ⟨cs, lc, hp8, hD8, hc8, hcb, m8, w8⟩ := h
      rw [lw] at lc
      have hcb : ∀ x ∈ cs, x ≤ 12 := fun x hx => by have := hcb x hx; omega
      have T8 := Tabs.mv T7 w7 m8
      clear hp7 hD7 T7 w7 m8 nD2
      refine ⟨_, rfl, w1, wc, 13, _, rfl, by decide, by decide, w8, by omega, fun sm H9 s0 s1 m9 w9 => ?_⟩
      obtain ⟨sm, rfl⟩ : ∃ y : Nat, sm = y := ⟨sm.toNat, by omega⟩
      have hp9 := m9 _ _ hpw hp8
      have hD9 := m9 _ _ (wh_ne_nums w8 hD8) hD8
      have hc9 := m9 _ _ (wh_ne_nums w8 hc8) hc8
      have T9 := Tabs.mv T8 w8 m9
      clear hp8 hD8 hc8 T8 w8 m9
      refine ⟨_, _, rfl, ?_⟩
      dsimp only
      refine go_seq (go_par (go_cons (go_cons (go_var rfl (go_nil fun bk dx0 nbk ndx _ => book_new nbk ndx (words_arg (.inl (.inl (.inl hp9))) l1 l2 (by decide) hwb nd) ⟨p, rfl, .inl (.inl (.inl hp9))⟩ fun H10 e10 hB => ⟨rfl, ?_⟩)))))
      refine go_cons ⟨_, rfl, D, _, rfl, .inl (.inl (.inl (e10 _ _ hD9))), fun rp2 nrp2 => ?_⟩
      have x1 := same_new (o := HO.lst (nv r)) nrp2
      have e11 := e10.trans x1
      have L : Lw K T.C_Book w1 wc p D D2 bk (twoTabs Pt Pu) ws r cs (4000 * i + 800) (upd H10 rp2 (HO.lst (nv r))) := ⟨e11 _ _ hp9, e11 _ _ hD9, e11 _ _ hc9, hB.same x1, (w9.same e11).lt (by omega), Tabs.same T9 e11⟩
      have hr2 : upd H10 rp2 (HO.lst (nv r)) rp2 = some (.lst (nv r)) := upd_same
      refine go_nil ⟨_, _, rfl, ?_⟩
      generalize upd H10 rp2 (HO.lst (nv r)) = H11 at L hr2 ⊢
      clear hp9 hD9 hc9 T9 w9 hB e10 e11 x1 nbk ndx nrp2
      dsimp only
      have wl12 : ∀ w ∈ ws, w.length ≤ 12 := fun w m => by
        have := hwb w m
        unfold wordB at this
        rw [Bool.and_eq_true, decide_eq_true_eq] at this
        exact this.1
      have sl := signs_le wl12 hcb r
      have ll := spell_len (r := r) wl12 hcb
      have hsg := spell_sg (cs := cs) hwb hrk
      refine go_seq (go_if (go_or2 (nerepr_s (spellS ws cs r) (sg_cdC hsg) (by omega) (fun Q q => ?_) (fun H0 e0 Q q => ?_) (fun H12 e12 => iteF (A := _) ?_))))
      · exact ⟨_, rfl, _, rfl, _, rfl, .ref bk, .ref rp2, .ref D2, rfl, .inr ⟨bk, ws, rfl, L.b, l2, wl12, .inr (.inr ⟨rp2, r, cs, rfl, .inl (.inl (.inl hr2)), by omega, hrk, carg_nv (.inl (.inl (.inl L.c))) lc (by omega) hcb, .inr ⟨by omega, q⟩⟩)⟩⟩
      · have L0 := L.same e0
        exact ⟨_, rfl, _, rfl, _, rfl, p, D, D2, ws, r, cs, rfl, L0.w, L0.r, L0.c, wl12, hrk, lc, hcb, by omega, q⟩
      have L12 := L.same e12
      refine go_test (go_op (go_var rfl (go_var rfl (ne_ints (xs := iv r) (ys := iv r) (.inl (.inl (e12 _ _ hr2))) (.inl (.inl L12.r)) ⟨_, rfl, ?_⟩))))
      rw [decide_eq_true rfl]
      refine iteF (A := _) ?_
      dsimp only [tNext]
      clear L hr2 e12
      -- text = _law_text(words, row, [same] * len(words))
      have cs2l : (List.replicate ws.length sm).length = ws.length := List.length_replicate ..
      have cs2b : ∀ c ∈ List.replicate ws.length sm, c ≤ 12 := fun c hc => by rw [(List.mem_replicate.mp hc).2]; omega
      have sl2 := signs_le wl12 cs2b r
      have ll2 := spell_len (r := r) wl12 cs2b
      have hsg2 := spell_sg (cs := List.replicate ws.length sm) hwb hrk
      have nrep : List.replicate ws.length (V.int (sm : Nat)) = nv (List.replicate ws.length sm) := by
        unfold nv iv
        rw [List.map_replicate, List.map_replicate]
      refine go_seq (go_asg ⟨_, rfl, _, rfl, _, rfl, sz1, fun u1 nu1 => ?_⟩)
      have L13 := L12.same (same_new (o := HO.lst [V.int (sm : Nat)]) nu1)
      have hu1 : upd H12 u1 (HO.lst [V.int (sm : Nat)]) u1 = some (.lst [V.int (sm : Nat)]) := upd_same
      generalize upd H12 u1 (HO.lst [V.int (sm : Nat)]) = H13 at L13 hu1 ⊢
      clear L12 nu1
      refine ⟨_, rfl, p, _, rfl, .inl (.inl (.inl L13.w)), ?_⟩
      rw [lw]
      refine ⟨u1, ws.length, _, rfl, rfl, hu1, by omega, by omega, ?_, fun u2 nu2 => ?_⟩
      · rw [Int.toNat_natCast]
        exact Nat.le_trans (show 1 * ws.length ≤ 40 by omega) (by decide)
      rw [Int.toNat_natCast, rep_flatV, nrep]
      have L14 := L13.same (same_new (o := HO.lst (nv (List.replicate ws.length sm))) nu2)
      have hu2 : upd H13 u2 (HO.lst (nv (List.replicate ws.length sm))) u2 = some (.lst (nv (List.replicate ws.length sm))) := upd_same
      generalize upd H13 u2 (HO.lst (nv (List.replicate ws.length sm))) = H14 at L14 hu2 ⊢
      clear L13 nu2 hu1
      refine ⟨p, D, u2, ws, r, _, rfl, L14.w, L14.r, hu2, wl12, hrk, cs2l, cs2b, by omega, fun H15 e15 => ?_⟩
      have L15 := L14.same e15
      clear L14 hu2 e15
      dsimp only [gName]
      -- spelled by names, by tuples
      refine go_seq (go_if (go_or2 (go_test (go_op ?_))))
      refine ⟨_, rfl, _, rfl, D, _, rfl, .inl ⟨.inl (.inl L15.r), fun t1 ob nt1 hdn => ?_⟩⟩
      have L16 := L15.same (same_new (o := HO.frz ob (.tup (nv r))) nt1)
      have ht1 : upd H15 t1 (HO.frz ob (.tup (nv r))) t1 = some (.frz ob (.tup (nv r))) := upd_same
      generalize upd H15 t1 (HO.frz ob (.tup (nv r))) = H16 at L16 ht1 ⊢
      clear L15 nt1 hdn
      refine ⟨_, rfl, .ref bk, .ref t1, .int (sm : Nat), rfl, .inr ⟨bk, ws, rfl, L16.b, l2, wl12, .inr (.inr ⟨t1, r, _, rfl, .inr (.inl (.inr ⟨ob, ht1⟩)), by omega, hrk, carg_int (by omega), .inr ⟨by omega, fun H17 e17 => ?_⟩⟩)⟩⟩
      have L17 := L16.same e17
      clear L16 ht1 e17
      refine go_var rfl ⟨rfl, _, rfl, ?_⟩
      rw [decide_eq_true rfl]
      refine iteF (A := _) ?_
      refine go_test (go_op ?_)
      refine ⟨_, rfl, _, rfl, _, rfl, sz1, fun u1 nu1 => ?_⟩
      have L18 := L17.same (same_new (o := HO.lst [V.int (sm : Nat)]) nu1)
      have hu1 : upd H17 u1 (HO.lst [V.int (sm : Nat)]) u1 = some (.lst [V.int (sm : Nat)]) := upd_same
      generalize upd H17 u1 (HO.lst [V.int (sm : Nat)]) = H18 at L18 hu1 ⊢
      clear L17 nu1
      refine ⟨_, rfl, p, _, rfl, .inl (.inl (.inl L18.w)), ?_⟩
      rw [lw]
      refine ⟨u1, ws.length, _, rfl, rfl, hu1, by omega, by omega, ?_, fun u2 nu2 => ?_⟩
      · rw [Int.toNat_natCast]
        exact Nat.le_trans (show 1 * ws.length ≤ 40 by omega) (by decide)
      rw [Int.toNat_natCast, rep_flatV, nrep]
      have L19 := L18.same (same_new (o := HO.lst (nv (List.replicate ws.length sm))) nu2)
      have hu2 : upd H18 u2 (HO.lst (nv (List.replicate ws.length sm))) u2 = some (.lst (nv (List.replicate ws.length sm))) := upd_same
      generalize upd H18 u2 (HO.lst (nv (List.replicate ws.length sm))) = H19 at L19 hu2 ⊢
      clear L18 nu2 hu1
      refine ⟨u2, _, rfl, .inl ⟨.inl (.inl hu2), fun t2 ob2 nt2 hdn => ?_⟩⟩
      have L20 := L19.same (same_new (o := HO.frz ob2 (.tup (nv (List.replicate ws.length sm)))) nt2)
      have ht2 : upd H19 t2 (HO.frz ob2 (.tup (nv (List.replicate ws.length sm)))) t2 = some (.frz ob2 (.tup (nv (List.replicate ws.length sm)))) := upd_same
      generalize upd H19 t2 (HO.frz ob2 (.tup (nv (List.replicate ws.length sm)))) = H20 at L20 ht2 ⊢
      clear L19 nt2 hdn hu2
      refine ⟨.ref bk, .ref D, .ref t2, rfl, .inr ⟨bk, ws, rfl, L20.b, l2, wl12, .inr (.inr ⟨D, r, _, rfl, .inl (.inl (.inl L20.r)), by omega, hrk, carg_nv (.inr (.inl (.inr ⟨ob2, ht2⟩))) cs2l (by omega) cs2b, .inr ⟨by omega, fun H21 e21 => ?_⟩⟩)⟩⟩
      have L21 := L20.same e21
      clear L20 ht2 e21
      refine go_var rfl ⟨rfl, _, rfl, ?_⟩
      rw [decide_eq_true rfl]
      refine iteF (A := _) ?_
      dsimp only [tNext]
      refine go_seq (read_same rfl rfl rfl L21 l2 nd hsg2 (by omega) fun H22 e22 => ?_)
      dsimp only [tNext]
      have L22 := L21.same e22
      clear L21 e22
      -- often
      refine go_seq (go_asg (go_lst (go_nil ⟨Nat.zero_le _, fun ofp nof => ?_⟩)))
      have x0 := same_new (o := HO.lst []) nof
      have L23 := L22.same x0
      have hof : upd H22 ofp (HO.lst []) ofp = some (.lst (nv (oftenN cs (r.take 0)))) := upd_same
      have ofW := L22.wh.ne nof
      have ofC := L22.wh.nc nof
      have dR : D ≠ ofp := ne_of_none L22.r nof
      have dC : D2 ≠ ofp := ne_of_none L22.c nof
      have dP : p ≠ ofp := ne_of_none L22.w nof
      have dB : bk ≠ ofp := ne_of_none L22.b.choose_spec.choose_spec.1 nof
      generalize upd H22 ofp (HO.lst []) = H23 at L23 hof ⊢
      clear L22 nof x0
      dsimp only [gName]
      refine go_seq ⟨_, rfl, D, rfl, ⟨_, .inl (.inl L23.r)⟩, for_list (xs := nv r) (fun t σ H' => ∃ (o13' : Option V), σ = [some (.ref a), some (.ref w1), some (.int (0 + (i : Int))), some (.ref p), o4, some (.ref D), o6, some (.ref D2), some (.int (sm : Nat)), some (.ref bk), some (.ref rp2), some (.str (S (spellS ws (List.replicate ws.length sm) r))), some (.ref ofp), o13', o14, o15] ∧ H' ofp = some (.lst (nv (oftenN cs (r.take t)))) ∧ Lw K T.C_Book w1 wc p D D2 bk (twoTabs Pt Pu) ws r cs (4000 * i + 800) H')
        ⟨_, rfl, hof, L23⟩ (fun t σ' H' _ h => ?_) (fun t v σ' Hd hv h => ?_) (fun σ' Hd h => ?_)⟩
      · obtain ⟨_, _, _, Lt⟩ := h
        exact .inl (.inl Lt.r)
      · obtain ⟨o13', rfl, hot, Lt⟩ := h
        obtain ⟨hti, rfl⟩ := nv_get hv
        have hk2 : r.getD t 0 < ws.length := getD_lt hti hrk
        have hri : r.take (t + 1) = r.take t ++ [r.getD t 0] := by
          rw [List.take_add_one, List.getElem?_eq_getElem hti, List.getD_eq_getElem?_getD, List.getElem?_eq_getElem hti]
          rfl
        have lO : (oftenN cs (r.take t)).length ≤ 12 * t := by
          have : ∀ r' : List Nat, (oftenN cs r').length ≤ 12 * r'.length := fun r' => by
            induction r' with
            | nil => exact Nat.le_refl _
            | cons k r' ih =>
              show (List.replicate (cs.getD k 0) k ++ oftenN cs r').length ≤ 12 * (r'.length + 1)
              rw [List.length_append, List.length_replicate]
              have := getN_le hcb k
              omega
          have h1 := this (r.take t)
          have h2 := List.length_take_le t r
          omega
        rw [hri]
        generalize r.getD t 0 = k2 at hk2 ⊢
        have ck := getN_le hcb k2
        dsimp only [gName]
        refine ⟨_, rfl, .inl ⟨rfl, _, .inl (.inl hot)⟩, ?_⟩
        refine go_cons (go_op (go_lst (go_cons (go_var rfl (go_nil ⟨sz1, fun y1 ny1 => ?_⟩)))))
        have x1 := same_new (o := HO.lst [V.int (k2 : Nat)]) ny1
        refine ⟨_, rfl, _, rfl, D2, _, _, _, rfl, rfl, .inl (.inl (x1 _ _ Lt.c)), nv_at (by omega), ?_⟩
        refine ⟨y1, (cs.getD k2 0 : Nat), _, rfl, rfl, upd_same, by omega, by omega, ?_, fun y2 ny2 => ?_⟩
        · rw [Int.toNat_natCast]
          exact Nat.le_trans (show 1 * cs.getD k2 0 ≤ 12 by omega) (by decide)
        have nr : List.replicate (cs.getD k2 0) (V.int (k2 : Nat)) = nv (List.replicate (cs.getD k2 0) k2) := by
          unfold nv iv
          rw [List.map_replicate, List.map_replicate]
        rw [Int.toNat_natCast, rep_flatV, nr]
        have x2 := x1.trans (same_new (o := HO.lst (nv (List.replicate (cs.getD k2 0) k2))) ny2)
        refine go_nil ⟨ofp, y2, _, _, rfl, rfl, x2 _ _ hot, upd_same, ?_, _, rfl, ?_, ?_⟩
        · rw [nv_len, nv_len, List.length_replicate]
          exact Nat.le_trans (show (oftenN cs (r.take t)).length + cs.getD k2 0 ≤ 252 by omega) (by decide)
        · rw [upd_same, ← nv_app]
          have : oftenN cs (r.take t ++ [k2]) = oftenN cs (r.take t) ++ List.replicate (cs.getD k2 0) k2 := by
            unfold oftenN
            rw [List.flatMap_append]
            congr 1
            show List.replicate (cs.getD k2 0) k2 ++ [] = _
            rw [List.append_nil]
          rw [this]
        · have L2 := Lt.same x2
          have hz := x2 _ _ hot
          obtain ⟨dxb, tb, q1, q2, q3⟩ := L2.b
          exact ⟨by rw [upd_ne dP]; exact L2.w, by rw [upd_ne dR]; exact L2.r, by rw [upd_ne dC]; exact L2.c, L2.b.put hz, L2.wh.set ofW ofC, tabs_put L2.t hz (fun b u nb hb => by rw [upd_ne nb]; exact hb)⟩
      obtain ⟨o13', rfl, hot, L24⟩ := h
      rw [nv_len, List.take_length] at hot
      clear L23 hof
      dsimp only
      have ofl := often_le hcb r
      refine go_seq (nerepr_if (.tuple ((iv (oftenN cs r)).map PyData.int)) (sh_nvT fun x hx => by have := often_lt hrk x hx; omega) (by decide) (by omega) (fun Q q => ?_) (fun H0 e0 Q q => ?_) (fun H25 e25 => ?_))
      · refine ⟨_, rfl, _, rfl, _, rfl, p, D, D2, ws, r, cs, rfl, L24.w, L24.r, L24.c, wl12, hrk, lc, hcb, by omega, fun H' e => ?_⟩
        refine ⟨_, rfl, .ref bk, .str (S (spellS ws cs r)), rfl, .inr ⟨bk, ws, some (spellS ws cs r), rfl, (L24.same e).b, l2, nd, ⟨rfl, by omega⟩, (fun z => by rw [show (some (spellS ws cs r)).elim false textB = textB (spellS ws cs r) from rfl, text_ok hsg (by omega)] at z; cases z), fun l' e1 _ t H'' ht _ e2 => ?_⟩⟩
        cases e1
        rw [nv_map, read_spelled nd hwb hrk] at ht
        exact q t H'' (e.trans e2) (dp_nvT ht)
      · exact ⟨_, rfl, ofp, _, rfl, .inl ⟨.inl (.inl (e0 _ _ hot)), fun t o nt _ => q t _ (same_new nt) (dp_nvT (.inl (.inr ⟨o, upd_same⟩)))⟩⟩
      dsimp only [tNext]
      have L25 := L24.same e25
      clear L24 e25 hot
      have wsg : ∀ w ∈ ws, w.all sg = true ∧ w.length ≤ 12 := fun w m => by
        have h := hwb w m
        unfold wordB lowB at h
        simp only [Bool.and_eq_true, decide_eq_true_eq, List.all_eq_true] at h
        refine ⟨?_, h.1⟩
        rw [List.all_eq_true]
        intro c hc
        unfold sg
        rw [h.2.2 c hc, Bool.or_true]
      refine go_seq ⟨4, rfl, by decide, by decide, for_range (lo := 0) (n := 4) (fun b σ H' => ∃ (o14' : Option V) (l : List Nat), σ = [some (.ref a), some (.ref w1), some (.int (0 + (i : Int))), some (.ref p), o4, some (.ref D), o6, some (.ref D2), some (.int (sm : Nat)), some (.ref bk), some (.ref rp2), some (.str (S l)), some (.ref ofp), o13', o14', o15] ∧ l.all sg = true ∧ l.length + 20 ≤ 3200 * 2 ^ b ∧ Lw K T.C_Book w1 wc p D D2 bk (twoTabs Pt Pu) ws r cs (4000 * i + 800 + 10 * b) H')
        ⟨o14, _, rfl, hsg2, by omega, L25⟩ (fun b σ' Hb hb h => ?_) (fun σ' Hb h => ?_)⟩
      · obtain ⟨o14', l, rfl, hl, ll3, Lb⟩ := h
        have hp2 : 2 ^ b ≤ 2 ^ 3 := Nat.pow_le_pow_right (by decide) (by omega)
        have hp3 : (2 : Nat) ^ (b + 1) = 2 ^ b * 2 := Nat.pow_succ ..
        rw [show (2 : Nat) ^ 3 = 8 from rfl] at hp2
        dsimp only [gName]
        refine go_seq (go_asg ⟨_, rfl, _, rfl, _, rfl, w1, wc, p, ws, l, _, rfl, Lb.w, l1, l2, wsg, hpw, hl, by omega, Lb.wh, by omega, fun m H' hm lm mv w => ?_⟩)
        have Lm := Lb.mv mv w
        dsimp only [gName]
        refine read_same rfl rfl rfl Lm l2 nd hm (by omega) fun H'' e => ?_
        dsimp only [tNext]
        exact ⟨_, m, rfl, hm, by omega, (Lm.same e).lt (by omega)⟩
      obtain ⟨o14', l, rfl, hl, _, L26⟩ := h
      clear L25
      dsimp only
      refine go_if (go_not (go_b ⟨_, rfl, _, rfl, _, rfl, w1, wc, p, D, ws, r, _, rfl, ⟨L26.w, l1, l2, hwb, nd⟩, L26.r, by omega, hrk, L26.wh, by omega, L26.t, fun H' e w t => ⟨_, rfl, iteF (A := _) ?_⟩⟩))
      dsimp only [tNext]
      exact ⟨_, _, _, _, _, _, _, _, _, _, _, _, _, _, rfl, w.lt (by omega), t⟩
    · obtain ⟨o2, o3, o4, o5, o6, o7, o8, o9, o10, o11, o12, o13, o14, o15, rfl, wi, Ti⟩ := h
      dsimp only
      refine go_seq (go_asg ?_)
      refine ⟨[97], 12, rfl, rfl, by decide, by decide, sz2, fun p1 n1 => ?_⟩
      have hp1 : upd Hc p1 (HO.lst [V.str (S ((List.replicate 12 [97]).flatten)), V.str "bb"]) p1 = some (.lst (wideW.map tx)) := upd_same
      have e1' := same_new (o := HO.lst [V.str (S ((List.replicate 12 [97]).flatten)), V.str "bb"]) n1
      refine fun wk dx nbk ndx _ => book_new nbk ndx (words_arg (ws := wideW) (.inl (.inl (.inl hp1))) (by decide) (by decide) (by decide) wideB wideNd) ⟨p1, rfl, .inl (.inl (.inl hp1))⟩ fun H2 e2 hB2 => ⟨rfl, ?_⟩
      have w2 := wi.same (e1'.trans e2)
      have T2 := Tabs.same Ti (e1'.trans e2)
      clear hp1 e1' n1 nbk ndx e2
      dsimp only [gName]
      refine go_seq (cut_nx (fun Hz => BookAt K T.C_Book Hz wk wideW ∧ Tabs (twoTabs Pt Pu) Hz) (fun N k => ?_) (fun Hz hz => ?_))
      · refine go_if (go_test (go_op ?_))
        refine ⟨_, rfl, w1, wc, 9, _, rfl, by decide, by decide, w2, by omega, fun z H3 z0 z1 m3 w3 => ?_⟩
        obtain ⟨xsw, hxw⟩ := wh_lst w2
        have hB3 := hB2.mvL hxw m3
        have T3 := Tabs.mv T2 w2 m3
        refine go_c ⟨rfl, _, rfl, iteC (fun hh => ?_) (fun hh => ?_)⟩
        · refine go_if (go_or2 (go_test (go_op (go_cb (go_cons ?_)))))
          refine go_cons (go_var rfl (go_cons (rowx_ok fun rp H4 e4 hr4 => ?_)))
          refine go_cons (go_lst (go_cons (go_c (go_cons (go_c (go_nil ⟨sz2, fun cp ncp => ?_⟩))))))
          have x5 := same_new (o := HO.lst [V.int 2, V.int 3]) ncp
          refine go_nil ⟨.ref wk, .ref rp, .ref cp, rfl, .inr ⟨wk, wideW, rfl, (hB3.same e4).same x5, by decide, wide12, .inr (.inr ⟨rp, _, [2, 3], rfl, .inl (.inl (.inl (x5 _ _ hr4))), by rw [row_lenx]; decide, wide_lt _ _ (by decide), carg_nv (cs := [2, 3]) (.inl (.inl (.inl upd_same))) rfl (by decide) (by decide), .inr ⟨Nat.le_of_eq wide_signs, fun H5 e5 => ?_⟩⟩)⟩⟩
          have eA := e4.trans (x5.trans e5)
          refine go_nil ⟨S _, rfl, by rw [S_len, wide_len]; decide, ?_⟩
          rw [S_len, wide_len]
          refine go_c ⟨rfl, _, rfl, ?_⟩
          rw [show decide (V.int ((200000 : Nat) : Int) = V.int 200000) = true from decide_eq_true rfl]
          refine iteF (A := _) ?_
          have hB5 := hB3.same eA
          have T5 := Tabs.same T3 eA
          refine go_test (go_op ?_)
          refine ⟨T5, fun H6 e6 T6 Nn => ?_⟩
          refine go_cons (go_var rfl (go_cons (rowx_ok fun rp2 H7 e7 hr7 => ?_)))
          refine go_cons (go_lst (go_cons (go_c (go_cons (go_c (go_nil ⟨sz2, fun cp2 ncp2 => ?_⟩))))))
          have x8 := same_new (o := HO.lst [V.int 2, V.int 4]) ncp2
          refine go_nil ⟨.ref wk, .ref rp2, .ref cp2, rfl, .inr ⟨wk, wideW, rfl, ((hB5.ext e6).same e7).same x8, by decide, wide12, .inr (.inr ⟨rp2, _, [2, 4], rfl, .inl (.inl (.inl (x8 _ _ hr7))), by rw [row_lenx]; decide, wide_lt _ _ (by decide), carg_nv (cs := [2, 4]) (.inl (.inl (.inl upd_same))) rfl (by decide) (by decide), .inl ⟨by rw [wide_more]; decide, fun dd H9 e9 hd => ⟨dd, .str "signs", "misfit", .inr (.inr (.inr (.inr ⟨rfl, rfl⟩))), rfl, hd, fun v H10 e10 hv => ?_⟩⟩⟩)⟩⟩
          have x10 := e7.trans (x8.trans (e9.trans e10))
          refine ⟨sz2, fun tp ntp => ?_⟩
          have x11 := same_new (o := HO.tup [V.str "misfit", V.str "signs"]) ntp
          refine ⟨.tuple [.str "misfit", .str "signs"], .tuple [.str "misfit", .str "signs"], .tup (.inl (.inl (x11 _ _ hv))) (.cons (.str _) (.cons (.str _) .nil)), .tup (.inl (.inl upd_same)) (.cons (.str _) (.cons (.str _) .nil)), by decide +kernel, by decide +kernel, ?_⟩
          rw [show (PyData.eqv (.tuple [.str "misfit", .str "signs"]) (.tuple [.str "misfit", .str "signs"])) = true by decide +kernel]
          refine ⟨_, rfl, iteF (A := _) ?_⟩
          dsimp only [tNext]
          have eF := x10.trans x11
          exact k _ ⟨(hB5.ext e6).same eF, T6.ext eF⟩
        · dsimp only [tNext]
          exact k _ ⟨hB3, T3⟩
      · obtain ⟨hBz, hTz⟩ := hz
        dsimp only
        refine go_ret (go_and (go_op ?_))
        refine ⟨hTz, fun H6 e6 T6 Nn => ?_⟩
        refine go_cons (go_var rfl (go_cons (go_op (go_lst (go_cons (go_c (go_nil ⟨sz1, fun r1 nr1 => ?_⟩)))))))
        have x1 := same_new (o := HO.lst [V.int 0]) nr1
        refine go_c ⟨r1, 10000, _, rfl, rfl, upd_same, by decide, by decide, (show 1 * 10000 ≤ sizeLine by decide), fun r2 nr2 => ?_⟩
        rw [show (10000 : Int).toNat = 10000 from rfl, rep_flatV, nv_rep0]
        have x2 := same_new (o := HO.lst (nv (List.replicate 10000 0))) nr2
        refine go_cons (go_c ?_)
        refine go_nil ⟨.ref wk, .ref r2, .int (2 : Nat), rfl, .inr ⟨wk, wideW, rfl, ((hBz.ext e6).same x1).same x2, by decide, wide12, .inr (.inr ⟨r2, _, _, rfl, .inl (.inl (.inl upd_same)), Nat.le_of_eq (List.length_replicate ..), (fun x hx => by rw [(List.mem_replicate.mp hx).2]; decide), carg_int (k := 2) (by decide), .inl ⟨by rw [signs_rep]; decide, fun dd H9 e9 hd => ⟨dd, .str "signs", "misfit", .inr (.inr (.inr (.inr ⟨rfl, rfl⟩))), rfl, hd, fun v H10 e10 hv => ?_⟩⟩⟩)⟩⟩
        have x10 := x1.trans (x2.trans (e9.trans e10))
        refine ⟨sz2, fun tp ntp => ?_⟩
        have x11 := same_new (o := HO.tup [V.str "misfit", V.str "signs"]) ntp
        refine eq_data (d := .tuple [.str "misfit", .str "signs"]) (e := .tuple [.str "misfit", .str "signs"]) (.tup (.inl (.inl (x11 _ _ hv))) (.cons (.str _) (.cons (.str _) .nil))) (.tup (.inl (.inl upd_same)) (.cons (.str _) (.cons (.str _) .nil))) (by decide +kernel) (by decide +kernel) ?_
        rw [show (PyData.eqv (.tuple [.str "misfit", .str "signs"]) (.tuple [.str "misfit", .str "signs"])) = true by decide +kernel]
        refine ⟨_, rfl, iteT (B := _) ?_⟩
        have hB11 := (hBz.ext e6).same (x10.trans x11)
        refine go_op ?_
        refine go_cons (go_var rfl (go_cons (go_lst (go_cons (go_c (go_cons (go_c (go_nil ⟨sz2, fun r3 nr3 => ?_⟩))))))))
        refine go_cons (go_c ?_)
        have x12 := same_new (o := HO.lst [V.int 0, V.int 1]) nr3
        refine go_nil ⟨.ref wk, .ref r3, .int (0 : Nat), rfl, .inr ⟨wk, wideW, rfl, hB11.same x12, by decide, wide12, .inr (.inr ⟨r3, [0, 1], _, rfl, .inl (.inl (.inl upd_same)), by decide, by decide, carg_int (k := 0) (by decide), .inr ⟨by decide, fun H13 e13 => ?_⟩⟩)⟩⟩
        refine go_c ⟨rfl, ?_⟩
        have : S (spellS wideW (List.replicate wideW.length 0) [0, 1]) = Str.ofString "" := rfl
        rw [this, decide_eq_true rfl]
        exact q _
end
end K10
namespace K10
open PySem PySem.Spec PyProof.Rows L2 Kx SX LamX
def tx_mk {K : PySem.W.Frag} {h : Heap} {mg : Str → Option Value} (X : K.In h) (G : h.Ns mainGlobals mg)
    {f0 : Addr} {od0 an0 : Option Addr} {sl0 : Array (Option Value)} {oc0 kV0 dc0 pm0 cd0 ct0 : Value}
    {f1 : Addr} {od1 an1 : Option Addr} {sl1 : Array (Option Value)} {oc1 kV1 dc1 pm1 cd1 ct1 : Value}
    {f2 : Addr} {od2 an2 : Option Addr} {sl2 : Array (Option Value)} {oc2 kV2 dc2 pm2 cd2 ct2 : Value}
    {f3 : Addr} {od3 an3 : Option Addr} {sl3 : Array (Option Value)} {oc3 kV3 dc3 pm3 cd3 ct3 : Value}
    {f4 : Addr} {od4 an4 : Option Addr} {sl4 : Array (Option Value)} {oc4 kV4 dc4 pm4 cd4 ct4 : Value}
    {f5 : Addr} {od5 an5 : Option Addr} {sl5 : Array (Option Value)} {oc5 kV5 dc5 pm5 cd5 ct5 : Value}
    {f6 : Addr} {od6 an6 : Option Addr} {sl6 : Array (Option Value)} {oc6 kV6 dc6 pm6 cd6 ct6 : Value}
    {f7 : Addr} {od7 an7 : Option Addr} {sl7 : Array (Option Value)} {oc7 kV7 dc7 pm7 cd7 ct7 : Value}
    {f8 : Addr} {od8 an8 : Option Addr} {sl8 : Array (Option Value)} {oc8 kV8 dc8 pm8 cd8 ct8 : Value}
    {f9 : Addr} {od9 an9 : Option Addr} {sl9 : Array (Option Value)} {oc9 kV9 dc9 pm9 cd9 ct9 : Value}
    {f10 : Addr} {od10 an10 : Option Addr} {sl10 : Array (Option Value)} {oc10 kV10 dc10 pm10 cd10 ct10 : Value}
    {f11 : Addr} {od11 an11 : Option Addr} {sl11 : Array (Option Value)} {oc11 kV11 dc11 pm11 cd11 ct11 : Value}
    {f12 : Addr} {od12 an12 : Option Addr} {sl12 : Array (Option Value)} {oc12 kV12 dc12 pm12 cd12 ct12 : Value}
    {f13 : Addr} {od13 an13 : Option Addr} {sl13 : Array (Option Value)} {oc13 kV13 dc13 pm13 cd13 ct13 : Value}
    {f14 : Addr} {od14 an14 : Option Addr} {sl14 : Array (Option Value)} {oc14 kV14 dc14 pm14 cd14 ct14 : Value}
    {f15 : Addr} {od15 an15 : Option Addr} {sl15 : Array (Option Value)} {oc15 kV15 dc15 pm15 cd15 ct15 : Value}
    {f16 : Addr} {od16 an16 : Option Addr} {sl16 : Array (Option Value)} {oc16 kV16 dc16 pm16 cd16 ct16 : Value}
    {f17 : Addr} {od17 an17 : Option Addr} {sl17 : Array (Option Value)} {oc17 kV17 dc17 pm17 cd17 ct17 : Value}
    {f18 : Addr} {od18 an18 : Option Addr} {sl18 : Array (Option Value)} {oc18 kV18 dc18 pm18 cd18 ct18 : Value}
    {f19 : Addr} {od19 an19 : Option Addr} {sl19 : Array (Option Value)} {oc19 kV19 dc19 pm19 cd19 ct19 : Value}
    {f20 : Addr} {od20 an20 : Option Addr} {sl20 : Array (Option Value)} {oc20 kV20 dc20 pm20 cd20 ct20 : Value}
    {f21 : Addr} {od21 an21 : Option Addr} {sl21 : Array (Option Value)} {oc21 kV21 dc21 pm21 cd21 ct21 : Value}
    {mf0 : Addr} {mod0 man0 : Option Addr} {msl0 : Array (Option Value)} {moc0 mkV0 mdc0 mpm0 mcd0 mct0 : Value}
    {KC_Book : Addr}
    {KD_TooMany : Addr}
    {KD_BadBook : Addr}
    {KD_BadNumber : Addr}
    {KD_BadRow : Addr}
    {KD_BadText : Addr}
    {KD_Misfit : Addr}
    {t0 : Tok}
    {t1 : Tok}
    {t2 : Tok}
    {t3 : Tok}
    {t4 : Tok}
    (a0 : PySem.W.nsIn K mainGlobals "is_list" = some (some (.ref f0))) (l0 : K.lookup f0 = some ⟨oc0, od0, .func (PySem.W.fnOf "is_list" "is_list" (defArgs s_is_list) (defBody s_is_list) (defScope s_is_list) .none kV0 dc0 pm0 an0 cd0 ct0), sl0⟩) (c0 : PySem.W.codeIn K cd0 "is_list" = true) (k0 : PySem.W.keepIn K (.ref f0) = true)
    (a1 : PySem.W.nsIn K mainGlobals "is_integer" = some (some (.ref f1))) (l1 : K.lookup f1 = some ⟨oc1, od1, .func (PySem.W.fnOf "is_integer" "is_integer" (defArgs s_is_integer) (defBody s_is_integer) (defScope s_is_integer) .none kV1 dc1 pm1 an1 cd1 ct1), sl1⟩) (c1 : PySem.W.codeIn K cd1 "is_integer" = true) (k1 : PySem.W.keepIn K (.ref f1) = true)
    (a2 : PySem.W.nsIn K mainGlobals "is_within" = some (some (.ref f2))) (l2 : K.lookup f2 = some ⟨oc2, od2, .func (PySem.W.fnOf "is_within" "is_within" (defArgs s_is_within) (defBody s_is_within) (defScope s_is_within) .none kV2 dc2 pm2 an2 cd2 ct2), sl2⟩) (c2 : PySem.W.codeIn K cd2 "is_within" = true) (k2 : PySem.W.keepIn K (.ref f2) = true)
    (a3 : PySem.W.nsIn K mainGlobals "are_letters" = some (some (.ref f3))) (l3 : K.lookup f3 = some ⟨oc3, od3, .func (PySem.W.fnOf "are_letters" "are_letters" (defArgs s_are_letters) (defBody s_are_letters) (defScope s_are_letters) .none kV3 dc3 pm3 an3 cd3 ct3), sl3⟩) (c3 : PySem.W.codeIn K cd3 "are_letters" = true) (k3 : PySem.W.keepIn K (.ref f3) = true)
    (a4 : PySem.W.nsIn K mainGlobals "is_word" = some (some (.ref f4))) (l4 : K.lookup f4 = some ⟨oc4, od4, .func (PySem.W.fnOf "is_word" "is_word" (defArgs s_is_word) (defBody s_is_word) (defScope s_is_word) .none kV4 dc4 pm4 an4 cd4 ct4), sl4⟩) (c4 : PySem.W.codeIn K cd4 "is_word" = true) (k4 : PySem.W.keepIn K (.ref f4) = true)
    (a5 : PySem.W.nsIn K mainGlobals "is_text" = some (some (.ref f5))) (l5 : K.lookup f5 = some ⟨oc5, od5, .func (PySem.W.fnOf "is_text" "is_text" (defArgs s_is_text) (defBody s_is_text) (defScope s_is_text) .none kV5 dc5 pm5 an5 cd5 ct5), sl5⟩) (c5 : PySem.W.codeIn K cd5 "is_text" = true) (k5 : PySem.W.keepIn K (.ref f5) = true)
    (a6 : PySem.W.nsIn K mainGlobals "are_words" = some (some (.ref f6))) (l6 : K.lookup f6 = some ⟨oc6, od6, .func (PySem.W.fnOf "are_words" "are_words" (defArgs s_are_words) (defBody s_are_words) (defScope s_are_words) .none kV6 dc6 pm6 an6 cd6 ct6), sl6⟩) (c6 : PySem.W.codeIn K cd6 "are_words" = true) (k6 : PySem.W.keepIn K (.ref f6) = true)
    (a7 : PySem.W.nsIn K mainGlobals "is_row" = some (some (.ref f7))) (l7 : K.lookup f7 = some ⟨oc7, od7, .func (PySem.W.fnOf "is_row" "is_row" (defArgs s_is_row) (defBody s_is_row) (defScope s_is_row) .none kV7 dc7 pm7 an7 cd7 ct7), sl7⟩) (c7 : PySem.W.codeIn K cd7 "is_row" = true) (k7 : PySem.W.keepIn K (.ref f7) = true)
    (a8 : PySem.W.nsIn K mainGlobals "copies_of_words" = some (some (.ref f8))) (l8 : K.lookup f8 = some ⟨oc8, od8, .func (PySem.W.fnOf "copies_of_words" "copies_of_words" (defArgs s_copies_of_words) (defBody s_copies_of_words) (defScope s_copies_of_words) .none kV8 dc8 pm8 an8 cd8 ct8), sl8⟩) (c8 : PySem.W.codeIn K cd8 "copies_of_words" = true) (k8 : PySem.W.keepIn K (.ref f8) = true)
    (a9 : PySem.W.nsIn K mainGlobals "spelled" = some (some (.ref f9))) (l9 : K.lookup f9 = some ⟨oc9, od9, .func (PySem.W.fnOf "spelled" "spelled" (defArgs s_spelled) (defBody s_spelled) (defScope s_spelled) .none kV9 dc9 pm9 an9 cd9 ct9), sl9⟩) (c9 : PySem.W.codeIn K cd9 "spelled" = true) (k9 : PySem.W.keepIn K (.ref f9) = true)
    (a10 : PySem.W.nsIn K mainGlobals "read" = some (some (.ref f10))) (l10 : K.lookup f10 = some ⟨oc10, od10, .func (PySem.W.fnOf "read" "read" (defArgs s_read) (defBody s_read) (defScope s_read) .none kV10 dc10 pm10 an10 cd10 ct10), sl10⟩) (c10 : PySem.W.codeIn K cd10 "read" = true) (k10 : PySem.W.keepIn K (.ref f10) = true)
    (a11 : PySem.W.nsIn K mainGlobals "_law_bench" = some (some (.ref f11))) (l11 : K.lookup f11 = some ⟨oc11, od11, .func (PySem.W.fnOf "_law_bench" "_law_bench" (defArgs s_law_bench) (defBody s_law_bench) (defScope s_law_bench) .none kV11 dc11 pm11 an11 cd11 ct11), sl11⟩) (c11 : PySem.W.codeIn K cd11 "_law_bench" = true) (k11 : PySem.W.keepIn K (.ref f11) = true)
    (a12 : PySem.W.nsIn K mainGlobals "_law_write" = some (some (.ref f12))) (l12 : K.lookup f12 = some ⟨oc12, od12, .func (PySem.W.fnOf "_law_write" "_law_write" (defArgs s_law_write) (defBody s_law_write) (defScope s_law_write) .none kV12 dc12 pm12 an12 cd12 ct12), sl12⟩) (c12 : PySem.W.codeIn K cd12 "_law_write" = true) (k12 : PySem.W.keepIn K (.ref f12) = true)
    (a13 : PySem.W.nsIn K mainGlobals "_law_one_of" = some (some (.ref f13))) (l13 : K.lookup f13 = some ⟨oc13, od13, .func (PySem.W.fnOf "_law_one_of" "_law_one_of" (defArgs s_law_one_of) (defBody s_law_one_of) (defScope s_law_one_of) .none kV13 dc13 pm13 an13 cd13 ct13), sl13⟩) (c13 : PySem.W.codeIn K cd13 "_law_one_of" = true) (k13 : PySem.W.keepIn K (.ref f13) = true)
    (a14 : PySem.W.nsIn K mainGlobals "_law_word" = some (some (.ref f14))) (l14 : K.lookup f14 = some ⟨oc14, od14, .func (PySem.W.fnOf "_law_word" "_law_word" (defArgs s_law_word) (defBody s_law_word) (defScope s_law_word) .none kV14 dc14 pm14 an14 cd14 ct14), sl14⟩) (c14 : PySem.W.codeIn K cd14 "_law_word" = true) (k14 : PySem.W.keepIn K (.ref f14) = true)
    (a15 : PySem.W.nsIn K mainGlobals "_law_words" = some (some (.ref f15))) (l15 : K.lookup f15 = some ⟨oc15, od15, .func (PySem.W.fnOf "_law_words" "_law_words" (defArgs s_law_words) (defBody s_law_words) (defScope s_law_words) .none kV15 dc15 pm15 an15 cd15 ct15), sl15⟩) (c15 : PySem.W.codeIn K cd15 "_law_words" = true) (k15 : PySem.W.keepIn K (.ref f15) = true)
    (a16 : PySem.W.nsIn K mainGlobals "_law_heard" = some (some (.ref f16))) (l16 : K.lookup f16 = some ⟨oc16, od16, .func (PySem.W.fnOf "_law_heard" "_law_heard" (defArgs s_law_heard) (defBody s_law_heard) (defScope s_law_heard) .none kV16 dc16 pm16 an16 cd16 ct16), sl16⟩) (c16 : PySem.W.codeIn K cd16 "_law_heard" = true) (k16 : PySem.W.keepIn K (.ref f16) = true)
    (a17 : PySem.W.nsIn K mainGlobals "_law_text" = some (some (.ref f17))) (l17 : K.lookup f17 = some ⟨oc17, od17, .func (PySem.W.fnOf "_law_text" "_law_text" (defArgs s_law_text) (defBody s_law_text) (defScope s_law_text) .none kV17 dc17 pm17 an17 cd17 ct17), sl17⟩) (c17 : PySem.W.codeIn K cd17 "_law_text" = true) (k17 : PySem.W.keepIn K (.ref f17) = true)
    (a18 : PySem.W.nsIn K mainGlobals "_law_read" = some (some (.ref f18))) (l18 : K.lookup f18 = some ⟨oc18, od18, .func (PySem.W.fnOf "_law_read" "_law_read" (defArgs s_law_read) (defBody s_law_read) (defScope s_law_read) .none kV18 dc18 pm18 an18 cd18 ct18), sl18⟩) (c18 : PySem.W.codeIn K cd18 "_law_read" = true) (k18 : PySem.W.keepIn K (.ref f18) = true)
    (a19 : PySem.W.nsIn K mainGlobals "_law_bent" = some (some (.ref f19))) (l19 : K.lookup f19 = some ⟨oc19, od19, .func (PySem.W.fnOf "_law_bent" "_law_bent" (defArgs s_law_bent) (defBody s_law_bent) (defScope s_law_bent) .none kV19 dc19 pm19 an19 cd19 ct19), sl19⟩) (c19 : PySem.W.codeIn K cd19 "_law_bent" = true) (k19 : PySem.W.keepIn K (.ref f19) = true)
    (a20 : PySem.W.nsIn K mainGlobals "_law_refused_right" = some (some (.ref f20))) (l20 : K.lookup f20 = some ⟨oc20, od20, .func (PySem.W.fnOf "_law_refused_right" "_law_refused_right" (defArgs s_law_refused_right) (defBody s_law_refused_right) (defScope s_law_refused_right) .none kV20 dc20 pm20 an20 cd20 ct20), sl20⟩) (c20 : PySem.W.codeIn K cd20 "_law_refused_right" = true) (k20 : PySem.W.keepIn K (.ref f20) = true)
    (a21 : PySem.W.nsIn K mainGlobals "law" = some (some (.ref f21))) (l21 : K.lookup f21 = some ⟨oc21, od21, .func (PySem.W.fnOf "law" "law" (defArgs s_law) (defBody s_law) (defScope s_law) .none kV21 dc21 pm21 an21 cd21 ct21), sl21⟩) (c21 : PySem.W.codeIn K cd21 "law" = true) (k21 : PySem.W.keepIn K (.ref f21) = true)
    (ca_Book : PySem.W.nsIn K mainGlobals "Book" = some (some (.ref KC_Book)))
    (cp_Book : PySem.W.plainGet K KC_Book Str.empty = true)
    (cd_Book : PySem.W.hasDictIn K KC_Book = true)
    (co_Book : PySem.W.plainOver K KC_Book = true)
    (cs_Book : PySem.W.findIn K (.ref KC_Book) "__setattr__" = some (some (.builtin "object.__setattr__")))
    (cm_Book : PySem.W.makesIn K KC_Book = true)
    (ck_Book : PySem.W.keepIn K (.ref KC_Book) = true)
    (cb_Book : PySem.W.mroIn K KC_Book (.type "object") = some true)
    (cn_Book : PySem.W.findIn K (.ref KC_Book) "__ne__" = some (some (.builtin "object.__ne__")))
    (cc_Book : PySem.W.findIn K (.ref KC_Book) "__class__" = some (some (.builtin "object.__class__")))
    (cg_Book : PySem.W.specialIn K (.builtin "object.__class__") "__get__" = some (some (.builtin "getset_descriptor.__get__")))
    (ct_Book : PySem.W.takesIn K (.builtin "object.__class__") = some true)
    (ci_Book : PySem.W.isClsIn K KC_Book = true)
    (cy_Book : PySem.W.typeIn K (.ref KC_Book) = some (.type "type"))
    (cx_Book_words : PySem.W.findIn K (.ref KC_Book) "words" = some none)
    (da_TooMany : PySem.W.nsIn K mainGlobals "TooMany" = some (some (.ref KD_TooMany)))
    (di_TooMany : PySem.W.isClsIn K KD_TooMany = true)
    (dy_TooMany : PySem.W.typeIn K (.ref KD_TooMany) = some (.type "type"))
    (da_BadBook : PySem.W.nsIn K mainGlobals "BadBook" = some (some (.ref KD_BadBook)))
    (di_BadBook : PySem.W.isClsIn K KD_BadBook = true)
    (dy_BadBook : PySem.W.typeIn K (.ref KD_BadBook) = some (.type "type"))
    (da_BadNumber : PySem.W.nsIn K mainGlobals "BadNumber" = some (some (.ref KD_BadNumber)))
    (di_BadNumber : PySem.W.isClsIn K KD_BadNumber = true)
    (dy_BadNumber : PySem.W.typeIn K (.ref KD_BadNumber) = some (.type "type"))
    (da_BadRow : PySem.W.nsIn K mainGlobals "BadRow" = some (some (.ref KD_BadRow)))
    (di_BadRow : PySem.W.isClsIn K KD_BadRow = true)
    (dy_BadRow : PySem.W.typeIn K (.ref KD_BadRow) = some (.type "type"))
    (da_BadText : PySem.W.nsIn K mainGlobals "BadText" = some (some (.ref KD_BadText)))
    (di_BadText : PySem.W.isClsIn K KD_BadText = true)
    (dy_BadText : PySem.W.typeIn K (.ref KD_BadText) = some (.type "type"))
    (da_Misfit : PySem.W.nsIn K mainGlobals "Misfit" = some (some (.ref KD_Misfit)))
    (di_Misfit : PySem.W.isClsIn K KD_Misfit = true)
    (dy_Misfit : PySem.W.typeIn K (.ref KD_Misfit) = some (.type "type"))
    (ds_BadBook_TooMany : PySem.W.subIn K (.ref KD_BadBook) (.ref KD_TooMany) = some false)
    (ds_BadBook_BadBook : PySem.W.subIn K (.ref KD_BadBook) (.ref KD_BadBook) = some true)
    (ds_BadBook_BadNumber : PySem.W.subIn K (.ref KD_BadBook) (.ref KD_BadNumber) = some false)
    (ds_BadBook_BadRow : PySem.W.subIn K (.ref KD_BadBook) (.ref KD_BadRow) = some false)
    (ds_BadBook_BadText : PySem.W.subIn K (.ref KD_BadBook) (.ref KD_BadText) = some false)
    (ds_BadBook_Misfit : PySem.W.subIn K (.ref KD_BadBook) (.ref KD_Misfit) = some false)
    (ds_BadNumber_TooMany : PySem.W.subIn K (.ref KD_BadNumber) (.ref KD_TooMany) = some false)
    (ds_BadNumber_BadBook : PySem.W.subIn K (.ref KD_BadNumber) (.ref KD_BadBook) = some false)
    (ds_BadNumber_BadNumber : PySem.W.subIn K (.ref KD_BadNumber) (.ref KD_BadNumber) = some true)
    (ds_BadNumber_BadRow : PySem.W.subIn K (.ref KD_BadNumber) (.ref KD_BadRow) = some false)
    (ds_BadNumber_BadText : PySem.W.subIn K (.ref KD_BadNumber) (.ref KD_BadText) = some false)
    (ds_BadNumber_Misfit : PySem.W.subIn K (.ref KD_BadNumber) (.ref KD_Misfit) = some false)
    (ds_BadRow_TooMany : PySem.W.subIn K (.ref KD_BadRow) (.ref KD_TooMany) = some false)
    (ds_BadRow_BadBook : PySem.W.subIn K (.ref KD_BadRow) (.ref KD_BadBook) = some false)
    (ds_BadRow_BadNumber : PySem.W.subIn K (.ref KD_BadRow) (.ref KD_BadNumber) = some false)
    (ds_BadRow_BadRow : PySem.W.subIn K (.ref KD_BadRow) (.ref KD_BadRow) = some true)
    (ds_BadRow_BadText : PySem.W.subIn K (.ref KD_BadRow) (.ref KD_BadText) = some false)
    (ds_BadRow_Misfit : PySem.W.subIn K (.ref KD_BadRow) (.ref KD_Misfit) = some false)
    (ds_BadText_TooMany : PySem.W.subIn K (.ref KD_BadText) (.ref KD_TooMany) = some false)
    (ds_BadText_BadBook : PySem.W.subIn K (.ref KD_BadText) (.ref KD_BadBook) = some false)
    (ds_BadText_BadNumber : PySem.W.subIn K (.ref KD_BadText) (.ref KD_BadNumber) = some false)
    (ds_BadText_BadRow : PySem.W.subIn K (.ref KD_BadText) (.ref KD_BadRow) = some false)
    (ds_BadText_BadText : PySem.W.subIn K (.ref KD_BadText) (.ref KD_BadText) = some true)
    (ds_BadText_Misfit : PySem.W.subIn K (.ref KD_BadText) (.ref KD_Misfit) = some false)
    (ds_Misfit_TooMany : PySem.W.subIn K (.ref KD_Misfit) (.ref KD_TooMany) = some false)
    (ds_Misfit_BadBook : PySem.W.subIn K (.ref KD_Misfit) (.ref KD_BadBook) = some false)
    (ds_Misfit_BadNumber : PySem.W.subIn K (.ref KD_Misfit) (.ref KD_BadNumber) = some false)
    (ds_Misfit_BadRow : PySem.W.subIn K (.ref KD_Misfit) (.ref KD_BadRow) = some false)
    (ds_Misfit_BadText : PySem.W.subIn K (.ref KD_Misfit) (.ref KD_BadText) = some false)
    (ds_Misfit_Misfit : PySem.W.subIn K (.ref KD_Misfit) (.ref KD_Misfit) = some true)
    (ds_Book_Book : PySem.W.subIn K (.ref KC_Book) (.ref KC_Book) = some true)
    (ma0 : PySem.W.findIn K (.ref KC_Book) "__init__" = some (some (.ref mf0))) (mi0 : PySem.W.isFn K (.ref mf0) = true) (ml0 : K.lookup mf0 = some ⟨moc0, mod0, .func (PySem.W.fnOf "__init__" "Book.__init__" (defArgs s_Book_init) (defBody s_Book_init) (defScope s_Book_init) .none mkV0 mdc0 mpm0 man0 mcd0 mct0), msl0⟩) (mc0 : PySem.W.codeIn K mcd0 "Book.__init__" = true) (mk0 : PySem.W.keepIn K (.ref mf0) = true)
    (z0 : PySem.W.nsIn K mainGlobals "isinstance" = some none)
    (z1 : PySem.W.nsIn K mainGlobals "list" = some none)
    (z2 : PySem.W.nsIn K mainGlobals "tuple" = some none)
    (z3 : PySem.W.nsIn K mainGlobals "int" = some none)
    (z4 : PySem.W.nsIn K mainGlobals "bool" = some none)
    (z5 : PySem.W.nsIn K mainGlobals "str" = some none)
    (z6 : PySem.W.nsIn K mainGlobals "len" = some none)
    (z7 : PySem.W.nsIn K mainGlobals "all" = some none)
    (z8 : PySem.W.nsIn K mainGlobals "set" = some none)
    (z9 : PySem.W.nsIn K mainGlobals "sum" = some none)
    (z10 : PySem.W.nsIn K mainGlobals "enumerate" = some none)
    (z11 : PySem.W.nsIn K mainGlobals "abs" = some none)
    (z12 : PySem.W.nsIn K mainGlobals "range" = some none)
    (z13 : PySem.W.nsIn K mainGlobals "repr" = some none)
    (er_BadBook : Er K mg "BadBook" "BadBook.__init__" s_BadBook_init "LetterError")
    (er_BadNumber : Er K mg "BadNumber" "BadNumber.__init__" s_BadNumber_init "LetterError")
    (er_BadText : Er K mg "BadText" "BadText.__init__" s_BadText_init "LetterError")
    (er_BadRow : Er K mg "BadRow" "BadRow.__init__" s_BadRow_init "LetterError")
    (er_Misfit : Er K mg "Misfit" "Misfit.__init__" s_Misfit_init "LetterError")
    (q0 : PySem.W.nsIn K mainGlobals "MOST_LETTERS" = some (some (.int 12 t0)))
    (q1 : PySem.W.nsIn K mainGlobals "MOST_SIGNS" = some (some (.int 200000 t1)))
    (q2 : PySem.W.nsIn K mainGlobals "MOST_WORDS" = some (some (.int 40 t2)))
    (q3 : PySem.W.nsIn K mainGlobals "MOST_NUMBERS" = some (some (.int 10000 t3)))
    (q4 : PySem.W.nsIn K mainGlobals "MOST_COPIES" = some (some (.int 12 t4))) : Tx K mg :=
  {
    f_is_list := f0
    fd_is_list := _
    F_is_list := fun_mk (st := s_is_list) l0 c0 k0
    g_is_list := PySem.W.mg_of X G a0
    b_is_list := (fun_mk (st := s_is_list) l0 c0 k0).binds (ps := ["value"]) fun _ _ _ _ _ _ us hl => match us, hl with | [_], _ => rfl
    f_is_integer := f1
    fd_is_integer := _
    F_is_integer := fun_mk (st := s_is_integer) l1 c1 k1
    g_is_integer := PySem.W.mg_of X G a1
    b_is_integer := (fun_mk (st := s_is_integer) l1 c1 k1).binds (ps := ["value"]) fun _ _ _ _ _ _ us hl => match us, hl with | [_], _ => rfl
    f_is_within := f2
    fd_is_within := _
    F_is_within := fun_mk (st := s_is_within) l2 c2 k2
    g_is_within := PySem.W.mg_of X G a2
    b_is_within := (fun_mk (st := s_is_within) l2 c2 k2).binds (ps := ["value", "least", "most"]) fun _ _ _ _ _ _ us hl => match us, hl with | [_, _, _], _ => rfl
    f_are_letters := f3
    fd_are_letters := _
    F_are_letters := fun_mk (st := s_are_letters) l3 c3 k3
    g_are_letters := PySem.W.mg_of X G a3
    b_are_letters := (fun_mk (st := s_are_letters) l3 c3 k3).binds (ps := ["text"]) fun _ _ _ _ _ _ us hl => match us, hl with | [_], _ => rfl
    f_is_word := f4
    fd_is_word := _
    F_is_word := fun_mk (st := s_is_word) l4 c4 k4
    g_is_word := PySem.W.mg_of X G a4
    b_is_word := (fun_mk (st := s_is_word) l4 c4 k4).binds (ps := ["value"]) fun _ _ _ _ _ _ us hl => match us, hl with | [_], _ => rfl
    f_is_text := f5
    fd_is_text := _
    F_is_text := fun_mk (st := s_is_text) l5 c5 k5
    g_is_text := PySem.W.mg_of X G a5
    b_is_text := (fun_mk (st := s_is_text) l5 c5 k5).binds (ps := ["value"]) fun _ _ _ _ _ _ us hl => match us, hl with | [_], _ => rfl
    f_are_words := f6
    fd_are_words := _
    F_are_words := fun_mk (st := s_are_words) l6 c6 k6
    g_are_words := PySem.W.mg_of X G a6
    b_are_words := (fun_mk (st := s_are_words) l6 c6 k6).binds (ps := ["value", "most"]) fun _ _ _ _ _ _ us hl => match us, hl with | [_, _], _ => rfl
    f_is_row := f7
    fd_is_row := _
    F_is_row := fun_mk (st := s_is_row) l7 c7 k7
    g_is_row := PySem.W.mg_of X G a7
    b_is_row := (fun_mk (st := s_is_row) l7 c7 k7).binds (ps := ["book", "value"]) fun _ _ _ _ _ _ us hl => match us, hl with | [_, _], _ => rfl
    f_copies_of_words := f8
    fd_copies_of_words := _
    F_copies_of_words := fun_mk (st := s_copies_of_words) l8 c8 k8
    g_copies_of_words := PySem.W.mg_of X G a8
    b_copies_of_words := (fun_mk (st := s_copies_of_words) l8 c8 k8).binds (ps := ["book", "copies"]) fun _ _ _ _ _ _ us hl => match us, hl with | [_, _], _ => rfl
    f_spelled := f9
    fd_spelled := _
    F_spelled := fun_mk (st := s_spelled) l9 c9 k9
    g_spelled := PySem.W.mg_of X G a9
    b_spelled := (fun_mk (st := s_spelled) l9 c9 k9).binds (ps := ["book", "row", "copies"]) fun _ _ _ _ _ _ us hl => match us, hl with | [_, _, _], _ => rfl
    f_read := f10
    fd_read := _
    F_read := fun_mk (st := s_read) l10 c10 k10
    g_read := PySem.W.mg_of X G a10
    b_read := (fun_mk (st := s_read) l10 c10 k10).binds (ps := ["book", "text"]) fun _ _ _ _ _ _ us hl => match us, hl with | [_, _], _ => rfl
    f_law_bench := f11
    fd_law_bench := _
    F_law_bench := fun_mk (st := s_law_bench) l11 c11 k11
    g_law_bench := PySem.W.mg_of X G a11
    b_law_bench := (fun_mk (st := s_law_bench) l11 c11 k11).binds (ps := ["script"]) fun _ _ _ _ _ _ us hl => match us, hl with | [_], _ => rfl
    f_law_write := f12
    fd_law_write := _
    F_law_write := fun_mk (st := s_law_write) l12 c12 k12
    g_law_write := PySem.W.mg_of X G a12
    b_law_write := (fun_mk (st := s_law_write) l12 c12 k12).binds (ps := ["bench", "many"]) fun _ _ _ _ _ _ us hl => match us, hl with | [_, _], _ => rfl
    f_law_one_of := f13
    fd_law_one_of := _
    F_law_one_of := fun_mk (st := s_law_one_of) l13 c13 k13
    g_law_one_of := PySem.W.mg_of X G a13
    b_law_one_of := (fun_mk (st := s_law_one_of) l13 c13 k13).binds (ps := ["bench", "some"]) fun _ _ _ _ _ _ us hl => match us, hl with | [_, _], _ => rfl
    f_law_word := f14
    fd_law_word := _
    F_law_word := fun_mk (st := s_law_word) l14 c14 k14
    g_law_word := PySem.W.mg_of X G a14
    b_law_word := (fun_mk (st := s_law_word) l14 c14 k14).binds (ps := ["bench", "most", "letters"]) fun _ _ _ _ _ _ us hl => match us, hl with | [_, _, _], _ => rfl
    f_law_words := f15
    fd_law_words := _
    F_law_words := fun_mk (st := s_law_words) l15 c15 k15
    g_law_words := PySem.W.mg_of X G a15
    b_law_words := (fun_mk (st := s_law_words) l15 c15 k15).binds (ps := ["bench", "many", "most", "letters"]) fun _ _ _ _ _ _ us hl => match us, hl with | [_, _, _, _], _ => rfl
    f_law_heard := f16
    fd_law_heard := _
    F_law_heard := fun_mk (st := s_law_heard) l16 c16 k16
    g_law_heard := PySem.W.mg_of X G a16
    b_law_heard := (fun_mk (st := s_law_heard) l16 c16 k16).binds (ps := ["ask"]) fun _ _ _ _ _ _ us hl => match us, hl with | [_], _ => rfl
    f_law_text := f17
    fd_law_text := _
    F_law_text := fun_mk (st := s_law_text) l17 c17 k17
    g_law_text := PySem.W.mg_of X G a17
    b_law_text := (fun_mk (st := s_law_text) l17 c17 k17).binds (ps := ["words", "row", "copies"]) fun _ _ _ _ _ _ us hl => match us, hl with | [_, _, _], _ => rfl
    f_law_read := f18
    fd_law_read := _
    F_law_read := fun_mk (st := s_law_read) l18 c18 k18
    g_law_read := PySem.W.mg_of X G a18
    b_law_read := (fun_mk (st := s_law_read) l18 c18 k18).binds (ps := ["words", "text"]) fun _ _ _ _ _ _ us hl => match us, hl with | [_, _], _ => rfl
    f_law_bent := f19
    fd_law_bent := _
    F_law_bent := fun_mk (st := s_law_bent) l19 c19 k19
    g_law_bent := PySem.W.mg_of X G a19
    b_law_bent := (fun_mk (st := s_law_bent) l19 c19 k19).binds (ps := ["bench", "words", "text"]) fun _ _ _ _ _ _ us hl => match us, hl with | [_, _, _], _ => rfl
    f_law_refused_right := f20
    fd_law_refused_right := _
    F_law_refused_right := fun_mk (st := s_law_refused_right) l20 c20 k20
    g_law_refused_right := PySem.W.mg_of X G a20
    b_law_refused_right := (fun_mk (st := s_law_refused_right) l20 c20 k20).binds (ps := ["bench", "words", "row"]) fun _ _ _ _ _ _ us hl => match us, hl with | [_, _, _], _ => rfl
    n_law_refused_right := a20
    f_law := f21
    fd_law := _
    F_law := fun_mk (st := s_law) l21 c21 k21
    g_law := PySem.W.mg_of X G a21
    b_law := (fun_mk (st := s_law) l21 c21 k21).binds (ps := ["script"]) fun _ _ _ _ _ _ us hl => match us, hl with | [_], _ => rfl
    n_law := a21
    f_Book_init := mf0
    fd_Book_init := _
    F_Book_init := fun_mk (st := s_Book_init) ml0 mc0 mk0
    b_Book_init := (fun_mk (st := s_Book_init) ml0 mc0 mk0).binds (ps := ["self", "words"]) fun _ _ _ _ _ _ us hl => match us, hl with | [_, _], _ => rfl
    mk_Book := ⟨cm_Book, ma0, mi0, ck_Book⟩
    na_Book_words := cx_Book_words
    C_Book := KC_Book
    gC_Book := PySem.W.mg_of X G ca_Book
    cl_Book := ⟨cp_Book, cd_Book, co_Book, cs_Book⟩
    ob_Book := cb_Book
    ne_Book := cn_Book
    oc_Book := cc_Book
    on_Book := cg_Book
    ot_Book := ct_Book
    kc_Book := ci_Book
    kt_Book := cy_Book
    k_TooMany := KD_TooMany
    gk_TooMany := PySem.W.mg_of X G da_TooMany
    kc_TooMany := di_TooMany
    kt_TooMany := dy_TooMany
    k_BadBook := KD_BadBook
    gk_BadBook := PySem.W.mg_of X G da_BadBook
    kc_BadBook := di_BadBook
    kt_BadBook := dy_BadBook
    k_BadNumber := KD_BadNumber
    gk_BadNumber := PySem.W.mg_of X G da_BadNumber
    kc_BadNumber := di_BadNumber
    kt_BadNumber := dy_BadNumber
    k_BadRow := KD_BadRow
    gk_BadRow := PySem.W.mg_of X G da_BadRow
    kc_BadRow := di_BadRow
    kt_BadRow := dy_BadRow
    k_BadText := KD_BadText
    gk_BadText := PySem.W.mg_of X G da_BadText
    kc_BadText := di_BadText
    kt_BadText := dy_BadText
    k_Misfit := KD_Misfit
    gk_Misfit := PySem.W.mg_of X G da_Misfit
    kc_Misfit := di_Misfit
    kt_Misfit := dy_Misfit
    su_BadBook_TooMany := ds_BadBook_TooMany
    su_BadBook_BadBook := ds_BadBook_BadBook
    su_BadBook_BadNumber := ds_BadBook_BadNumber
    su_BadBook_BadRow := ds_BadBook_BadRow
    su_BadBook_BadText := ds_BadBook_BadText
    su_BadBook_Misfit := ds_BadBook_Misfit
    su_BadNumber_TooMany := ds_BadNumber_TooMany
    su_BadNumber_BadBook := ds_BadNumber_BadBook
    su_BadNumber_BadNumber := ds_BadNumber_BadNumber
    su_BadNumber_BadRow := ds_BadNumber_BadRow
    su_BadNumber_BadText := ds_BadNumber_BadText
    su_BadNumber_Misfit := ds_BadNumber_Misfit
    su_BadRow_TooMany := ds_BadRow_TooMany
    su_BadRow_BadBook := ds_BadRow_BadBook
    su_BadRow_BadNumber := ds_BadRow_BadNumber
    su_BadRow_BadRow := ds_BadRow_BadRow
    su_BadRow_BadText := ds_BadRow_BadText
    su_BadRow_Misfit := ds_BadRow_Misfit
    su_BadText_TooMany := ds_BadText_TooMany
    su_BadText_BadBook := ds_BadText_BadBook
    su_BadText_BadNumber := ds_BadText_BadNumber
    su_BadText_BadRow := ds_BadText_BadRow
    su_BadText_BadText := ds_BadText_BadText
    su_BadText_Misfit := ds_BadText_Misfit
    su_Misfit_TooMany := ds_Misfit_TooMany
    su_Misfit_BadBook := ds_Misfit_BadBook
    su_Misfit_BadNumber := ds_Misfit_BadNumber
    su_Misfit_BadRow := ds_Misfit_BadRow
    su_Misfit_BadText := ds_Misfit_BadText
    su_Misfit_Misfit := ds_Misfit_Misfit
    su_Book_Book := ds_Book_Book
    m_isinstance := PySem.W.mg_none_of X G z0
    m_list := PySem.W.mg_none_of X G z1
    m_tuple := PySem.W.mg_none_of X G z2
    m_int := PySem.W.mg_none_of X G z3
    m_bool := PySem.W.mg_none_of X G z4
    m_str := PySem.W.mg_none_of X G z5
    m_len := PySem.W.mg_none_of X G z6
    m_all := PySem.W.mg_none_of X G z7
    m_set := PySem.W.mg_none_of X G z8
    m_sum := PySem.W.mg_none_of X G z9
    m_enumerate := PySem.W.mg_none_of X G z10
    m_abs := PySem.W.mg_none_of X G z11
    m_range := PySem.W.mg_none_of X G z12
    m_repr := PySem.W.mg_none_of X G z13
    e_BadBook := er_BadBook
    e_BadNumber := er_BadNumber
    e_BadText := er_BadText
    e_BadRow := er_BadRow
    e_Misfit := er_Misfit
    t_MOST_LETTERS := t0
    c_MOST_LETTERS := PySem.W.mg_of X G q0
    t_MOST_SIGNS := t1
    c_MOST_SIGNS := PySem.W.mg_of X G q1
    t_MOST_WORDS := t2
    c_MOST_WORDS := PySem.W.mg_of X G q2
    t_MOST_NUMBERS := t3
    c_MOST_NUMBERS := PySem.W.mg_of X G q3
    t_MOST_COPIES := t4
    c_MOST_COPIES := PySem.W.mg_of X G q4 }
end K10
open PySem PySem.W PyProof.Rows
set_option maxHeartbeats 0 in
theorem PySem.Challenge.cw_anyletter_k10_rows_spelled_and_read_holds : PySem.Challenge.rw_anyletter_k10_rows_spelled_and_read.Holds := by
  w_on; o_law; k_head; (case hw => w_witness2)
  k_fill
  refine Kx.walkL2 (l := PySem.Challenge.rw_anyletter_k10_rows_spelled_and_read) (n := 63) (k := 18) (x := "script") (y := "_law_refused_right") (z := "law") K10.sp_law rfl (by decide) rfl ⟨rfl, by decide, by decide⟩ (fun w h Y => PySem.W.km_in_of Y) ?hcs ?FF (fun K Pt Pu H a ns hl ht hu hS => ⟨a, ns, rfl, hS, ht, hu, fun _ => rfl⟩)
  case hcs =>
    intro p
    refine' ⟨⟨⟨_, rfl⟩, ⟨_, rfl⟩⟩, _, _, _, _, Kx.tab_at ?ta ?tl ?te ?tl2 ?tv ?tn, Kx.tab_at ?ua ?ul ?ue ?ul2 ?uv ?un, ?dif⟩
    case ta => k_is
    case tl => k_is
    case te => rfl
    case tl2 => k_is
    case tv => rfl
    case tn => rfl
    case ua => k_is
    case ul => k_is
    case ue => rfl
    case ul2 => k_is
    case uv => rfl
    case un => rfl
    case dif => decide
  case FF =>
    intro w mg fa h KX G hmg
    refine' Kx.useIt (K10.tx_mk KX G ?a0 ?l0 ?c0 ?k0 ?a1 ?l1 ?c1 ?k1 ?a2 ?l2 ?c2 ?k2 ?a3 ?l3 ?c3 ?k3 ?a4 ?l4 ?c4 ?k4 ?a5 ?l5 ?c5 ?k5 ?a6 ?l6 ?c6 ?k6 ?a7 ?l7 ?c7 ?k7 ?a8 ?l8 ?c8 ?k8 ?a9 ?l9 ?c9 ?k9 ?a10 ?l10 ?c10 ?k10 ?a11 ?l11 ?c11 ?k11 ?a12 ?l12 ?c12 ?k12 ?a13 ?l13 ?c13 ?k13 ?a14 ?l14 ?c14 ?k14 ?a15 ?l15 ?c15 ?k15 ?a16 ?l16 ?c16 ?k16 ?a17 ?l17 ?c17 ?k17 ?a18 ?l18 ?c18 ?k18 ?a19 ?l19 ?c19 ?k19 ?a20 ?l20 ?c20 ?k20 ?a21 ?l21 ?c21 ?k21 ?ca_Book ?cp_Book ?cd_Book ?co_Book ?cs_Book ?cm_Book ?ck_Book ?cb_Book ?cn_Book ?cc_Book ?cg_Book ?ct_Book ?ci_Book ?cy_Book ?cx_Book_words ?da_TooMany ?di_TooMany ?dy_TooMany ?da_BadBook ?di_BadBook ?dy_BadBook ?da_BadNumber ?di_BadNumber ?dy_BadNumber ?da_BadRow ?di_BadRow ?dy_BadRow ?da_BadText ?di_BadText ?dy_BadText ?da_Misfit ?di_Misfit ?dy_Misfit ?ds_BadBook_TooMany ?ds_BadBook_BadBook ?ds_BadBook_BadNumber ?ds_BadBook_BadRow ?ds_BadBook_BadText ?ds_BadBook_Misfit ?ds_BadNumber_TooMany ?ds_BadNumber_BadBook ?ds_BadNumber_BadNumber ?ds_BadNumber_BadRow ?ds_BadNumber_BadText ?ds_BadNumber_Misfit ?ds_BadRow_TooMany ?ds_BadRow_BadBook ?ds_BadRow_BadNumber ?ds_BadRow_BadRow ?ds_BadRow_BadText ?ds_BadRow_Misfit ?ds_BadText_TooMany ?ds_BadText_BadBook ?ds_BadText_BadNumber ?ds_BadText_BadRow ?ds_BadText_BadText ?ds_BadText_Misfit ?ds_Misfit_TooMany ?ds_Misfit_BadBook ?ds_Misfit_BadNumber ?ds_Misfit_BadRow ?ds_Misfit_BadText ?ds_Misfit_Misfit ?ds_Book_Book ?ma0 ?mi0 ?ml0 ?mc0 ?mk0 ?z0 ?z1 ?z2 ?z3 ?z4 ?z5 ?z6 ?z7 ?z8 ?z9 ?z10 ?z11 ?z12 ?z13 ?er_BadBook ?er_BadNumber ?er_BadText ?er_BadRow ?er_Misfit ?q0 ?q1 ?q2 ?q3 ?q4) (fun T => ?main)
    (case a0 => k_is)
    (case l0 => k_is)
    (case c0 => k_is)
    (case k0 => k_is)
    (case a1 => k_is)
    (case l1 => k_is)
    (case c1 => k_is)
    (case k1 => k_is)
    (case a2 => k_is)
    (case l2 => k_is)
    (case c2 => k_is)
    (case k2 => k_is)
    (case a3 => k_is)
    (case l3 => k_is)
    (case c3 => k_is)
    (case k3 => k_is)
    (case a4 => k_is)
    (case l4 => k_is)
    (case c4 => k_is)
    (case k4 => k_is)
    (case a5 => k_is)
    (case l5 => k_is)
    (case c5 => k_is)
    (case k5 => k_is)
    (case a6 => k_is)
    (case l6 => k_is)
    (case c6 => k_is)
    (case k6 => k_is)
    (case a7 => k_is)
    (case l7 => k_is)
    (case c7 => k_is)
    (case k7 => k_is)
    (case a8 => k_is)
    (case l8 => k_is)
    (case c8 => k_is)
    (case k8 => k_is)
    (case a9 => k_is)
    (case l9 => k_is)
    (case c9 => k_is)
    (case k9 => k_is)
    (case a10 => k_is)
    (case l10 => k_is)
    (case c10 => k_is)
    (case k10 => k_is)
    (case a11 => k_is)
    (case l11 => k_is)
    (case c11 => k_is)
    (case k11 => k_is)
    (case a12 => k_is)
    (case l12 => k_is)
    (case c12 => k_is)
    (case k12 => k_is)
    (case a13 => k_is)
    (case l13 => k_is)
    (case c13 => k_is)
    (case k13 => k_is)
    (case a14 => k_is)
    (case l14 => k_is)
    (case c14 => k_is)
    (case k14 => k_is)
    (case a15 => k_is)
    (case l15 => k_is)
    (case c15 => k_is)
    (case k15 => k_is)
    (case a16 => k_is)
    (case l16 => k_is)
    (case c16 => k_is)
    (case k16 => k_is)
    (case a17 => k_is)
    (case l17 => k_is)
    (case c17 => k_is)
    (case k17 => k_is)
    (case a18 => k_is)
    (case l18 => k_is)
    (case c18 => k_is)
    (case k18 => k_is)
    (case a19 => k_is)
    (case l19 => k_is)
    (case c19 => k_is)
    (case k19 => k_is)
    (case a20 => k_is)
    (case l20 => k_is)
    (case c20 => k_is)
    (case k20 => k_is)
    (case a21 => k_is)
    (case l21 => k_is)
    (case c21 => k_is)
    (case k21 => k_is)
    (case ca_Book => k_is)
    (case cp_Book => k_is)
    (case cd_Book => k_is)
    (case co_Book => k_is)
    (case cs_Book => k_is)
    (case cm_Book => k_is)
    (case ck_Book => k_is)
    (case cb_Book => k_is)
    (case cn_Book => k_is)
    (case cc_Book => k_is)
    (case cg_Book => k_is)
    (case ct_Book => k_is)
    (case ci_Book => k_is)
    (case cy_Book => k_is)
    (case cx_Book_words => k_is)
    (case da_TooMany => k_is)
    (case di_TooMany => k_is)
    (case dy_TooMany => k_is)
    (case da_BadBook => k_is)
    (case di_BadBook => k_is)
    (case dy_BadBook => k_is)
    (case da_BadNumber => k_is)
    (case di_BadNumber => k_is)
    (case dy_BadNumber => k_is)
    (case da_BadRow => k_is)
    (case di_BadRow => k_is)
    (case dy_BadRow => k_is)
    (case da_BadText => k_is)
    (case di_BadText => k_is)
    (case dy_BadText => k_is)
    (case da_Misfit => k_is)
    (case di_Misfit => k_is)
    (case dy_Misfit => k_is)
    (case ds_BadBook_TooMany => k_is)
    (case ds_BadBook_BadBook => k_is)
    (case ds_BadBook_BadNumber => k_is)
    (case ds_BadBook_BadRow => k_is)
    (case ds_BadBook_BadText => k_is)
    (case ds_BadBook_Misfit => k_is)
    (case ds_BadNumber_TooMany => k_is)
    (case ds_BadNumber_BadBook => k_is)
    (case ds_BadNumber_BadNumber => k_is)
    (case ds_BadNumber_BadRow => k_is)
    (case ds_BadNumber_BadText => k_is)
    (case ds_BadNumber_Misfit => k_is)
    (case ds_BadRow_TooMany => k_is)
    (case ds_BadRow_BadBook => k_is)
    (case ds_BadRow_BadNumber => k_is)
    (case ds_BadRow_BadRow => k_is)
    (case ds_BadRow_BadText => k_is)
    (case ds_BadRow_Misfit => k_is)
    (case ds_BadText_TooMany => k_is)
    (case ds_BadText_BadBook => k_is)
    (case ds_BadText_BadNumber => k_is)
    (case ds_BadText_BadRow => k_is)
    (case ds_BadText_BadText => k_is)
    (case ds_BadText_Misfit => k_is)
    (case ds_Misfit_TooMany => k_is)
    (case ds_Misfit_BadBook => k_is)
    (case ds_Misfit_BadNumber => k_is)
    (case ds_Misfit_BadRow => k_is)
    (case ds_Misfit_BadText => k_is)
    (case ds_Misfit_Misfit => k_is)
    (case ds_Book_Book => k_is)
    (case ma0 => k_is)
    (case mi0 => k_is)
    (case ml0 => k_is)
    (case mc0 => k_is)
    (case mk0 => k_is)
    (case z0 => k_is)
    (case z1 => k_is)
    (case z2 => k_is)
    (case z3 => k_is)
    (case z4 => k_is)
    (case z5 => k_is)
    (case z6 => k_is)
    (case z7 => k_is)
    (case z8 => k_is)
    (case z9 => k_is)
    (case z10 => k_is)
    (case z11 => k_is)
    (case z12 => k_is)
    (case z13 => k_is)
    (case er_BadBook =>
      refine' Kx.er_mk KX G ?waC ?waL ?wxL ?whbm ?wsa ?weC ?wtC ?wkC ?wa1 ?wt1 ?wl1 ?wc1 ?wk1 ?wb1 ?wnb ?wga ?wgg ?whd ?whc ?whn ?wht ?whm ?weL ?wdL ?wtL ?wsCL
      (case waC => k_is); (case waL => k_is); (case wxL => k_is); (case whbm => rfl); (case wsa => k_is); (case weC => k_is); (case wtC => k_is); (case wkC => k_is); (case wa1 => k_is); (case wt1 => k_is); (case wl1 => k_is); (case wc1 => k_is); (case wk1 => k_is)
      (case wb1 => exact fun _ _ _ _ _ _ us hl => match us, hl with | [_, _], _ => rfl)
      (case wnb => k_is); (case wga => k_is); (case wgg => k_is); (case whd => k_is); (case whc => k_is); (case whn => k_is); (case wht => k_is); (case whm => k_is); (case weL => k_is); (case wdL => k_is); (case wtL => k_is); (case wsCL => k_is))
    (case er_BadNumber =>
      refine' Kx.er_mk KX G ?waC ?waL ?wxL ?whbm ?wsa ?weC ?wtC ?wkC ?wa1 ?wt1 ?wl1 ?wc1 ?wk1 ?wb1 ?wnb ?wga ?wgg ?whd ?whc ?whn ?wht ?whm ?weL ?wdL ?wtL ?wsCL
      (case waC => k_is); (case waL => k_is); (case wxL => k_is); (case whbm => rfl); (case wsa => k_is); (case weC => k_is); (case wtC => k_is); (case wkC => k_is); (case wa1 => k_is); (case wt1 => k_is); (case wl1 => k_is); (case wc1 => k_is); (case wk1 => k_is)
      (case wb1 => exact fun _ _ _ _ _ _ us hl => match us, hl with | [_, _], _ => rfl)
      (case wnb => k_is); (case wga => k_is); (case wgg => k_is); (case whd => k_is); (case whc => k_is); (case whn => k_is); (case wht => k_is); (case whm => k_is); (case weL => k_is); (case wdL => k_is); (case wtL => k_is); (case wsCL => k_is))
    (case er_BadText =>
      refine' Kx.er_mk KX G ?waC ?waL ?wxL ?whbm ?wsa ?weC ?wtC ?wkC ?wa1 ?wt1 ?wl1 ?wc1 ?wk1 ?wb1 ?wnb ?wga ?wgg ?whd ?whc ?whn ?wht ?whm ?weL ?wdL ?wtL ?wsCL
      (case waC => k_is); (case waL => k_is); (case wxL => k_is); (case whbm => rfl); (case wsa => k_is); (case weC => k_is); (case wtC => k_is); (case wkC => k_is); (case wa1 => k_is); (case wt1 => k_is); (case wl1 => k_is); (case wc1 => k_is); (case wk1 => k_is)
      (case wb1 => exact fun _ _ _ _ _ _ us hl => match us, hl with | [_, _], _ => rfl)
      (case wnb => k_is); (case wga => k_is); (case wgg => k_is); (case whd => k_is); (case whc => k_is); (case whn => k_is); (case wht => k_is); (case whm => k_is); (case weL => k_is); (case wdL => k_is); (case wtL => k_is); (case wsCL => k_is))
    (case er_BadRow =>
      refine' Kx.er_mk KX G ?waC ?waL ?wxL ?whbm ?wsa ?weC ?wtC ?wkC ?wa1 ?wt1 ?wl1 ?wc1 ?wk1 ?wb1 ?wnb ?wga ?wgg ?whd ?whc ?whn ?wht ?whm ?weL ?wdL ?wtL ?wsCL
      (case waC => k_is); (case waL => k_is); (case wxL => k_is); (case whbm => rfl); (case wsa => k_is); (case weC => k_is); (case wtC => k_is); (case wkC => k_is); (case wa1 => k_is); (case wt1 => k_is); (case wl1 => k_is); (case wc1 => k_is); (case wk1 => k_is)
      (case wb1 => exact fun _ _ _ _ _ _ us hl => match us, hl with | [_, _], _ => rfl)
      (case wnb => k_is); (case wga => k_is); (case wgg => k_is); (case whd => k_is); (case whc => k_is); (case whn => k_is); (case wht => k_is); (case whm => k_is); (case weL => k_is); (case wdL => k_is); (case wtL => k_is); (case wsCL => k_is))
    (case er_Misfit =>
      refine' Kx.er_mk KX G ?waC ?waL ?wxL ?whbm ?wsa ?weC ?wtC ?wkC ?wa1 ?wt1 ?wl1 ?wc1 ?wk1 ?wb1 ?wnb ?wga ?wgg ?whd ?whc ?whn ?wht ?whm ?weL ?wdL ?wtL ?wsCL
      (case waC => k_is); (case waL => k_is); (case wxL => k_is); (case whbm => rfl); (case wsa => k_is); (case weC => k_is); (case wtC => k_is); (case wkC => k_is); (case wa1 => k_is); (case wt1 => k_is); (case wl1 => k_is); (case wc1 => k_is); (case wk1 => k_is)
      (case wb1 => exact fun _ _ _ _ _ _ us hl => match us, hl with | [_, _], _ => rfl)
      (case wnb => k_is); (case wga => k_is); (case wgg => k_is); (case whd => k_is); (case whc => k_is); (case whn => k_is); (case wht => k_is); (case whm => k_is); (case weL => k_is); (case wdL => k_is); (case wtL => k_is); (case wsCL => k_is))
    (case q0 => k_is)
    (case q1 => k_is)
    (case q2 => k_is)
    (case q3 => k_is)
    (case q4 => k_is)
    case main =>
      obtain rfl := Kx.same_ref (x := "law") T.g_law hmg
      exact ⟨T.fd_law, Kx.binds_one T.F_law (fun _ _ _ _ _ _ _ => rfl), fun c Pt d Pu ht hu hne base hk hg hTB hUB => K10.ok_law T (Kx.funC_of T.F_law_refused_right T.n_law_refused_right ht) hTB (Kx.funC_of T.F_law T.n_law hu) hUB hne⟩
