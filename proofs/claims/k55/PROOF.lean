import PyProof.Rows.All
import Wide.All
import OpenK.AllK
import Wide.FinOn
import PyProof.EqAt
import PyProof.EqKinds
import PyProof.TupleCall
import HandS.ForMost
import HandS.Exc
import HandS.IsInst
import HandS.StrMore
import HandS.Replace
import HandS.ReplaceDef
import HandS.ReplaceLit
import HandS.ReplaceList
import HandS.Defaults
import HandS.Style
import HandS.Zip
import HandS.Conv
import HandS.Lambda
import HandS.Codes
import HandS.Evl
import HandS.ExcValue
import HandS.ExcInit
import HandS.ExcIs
import HandS.ExcField
import KE.KDflt
import KE.KExcIs
import HandS.EndTab
import PyProof.ReprRoads
import PyProof.ReprBulk
import HandS.ExcOwn
import HandS.WordsExc
import HandS.Walk
import PyProof.Rows.StrStrike
import PyProof.Draws
import PyProof.ListStr
import PyProof.Rows.RegStrFacts
import PyProof.Rows.RegReprOcc
import KE.KxIndex
import HandS.OwnEq
import HandS.More
import HandS.Strs
import HandS.SetFor
import KE.KRevSl
import KE.GoesMore
import HandS.DictComp
import PyProof.StrCalls6
import PyProof.MeetsStr3
import PyProof.CallFns
import KE.GoesZip
import HandS.MakeKwOnly
import PySem.Challenge.RW_anyletter_k55_marks_of_damages
set_option Elab.async false
set_option linter.all false
set_option maxRecDepth 100000
set_option maxHeartbeats 4000000
set_option autoImplicit false
namespace Kx
open PySem PySem.Spec PyProof.Rows L2
/-! ### a def that is promised only where no repr runs around it -/
structure FnG (P : Program) (w : World) (K : PySem.W.Frag) (mg : Str → Option Value) (base : Heap) (CX : CXT) (k : Nat) (f : Addr) (fd : FuncData) (ps : List Str) (sp : Sp) : Prop where
  len : ∀ vs H Q E, sp vs H Q E → vs.length = ps.length
  go : ∀ (A : Around) (outer : List Env) (s : Shared) (H : Hp) (args : Args) (us : List Value) (vs : List V) (Q : VK) (E : XK), A.guards = some [] → Room k A → Env0 P w K mg base A outer s H →
    BindsTo s fd args (ps.zip us) → Vals vs us → sp vs H Q E → codeAny (model P w) A (.call (.ref f) args) (CR CX outer P w H s Q E) s
section
variable {P : Program} {w : World} {K : PySem.W.Frag} {mg : Str → Option Value} {base : Heap}
theorem FnG.of {CX : CXT} {k : Nat} {f : Addr} {fd : FuncData} {ps : List Str} {sp : Sp} (F : FnOk P w K mg base CX k f fd ps sp) : FnG P w K mg base CX k f fd ps sp :=
  ⟨F.len, fun A outer s H args us vs Q E _ => F.run A outer s H args us vs Q E⟩
/-- the body's rule, guards told -/
theorem okG {x qual : Str} {st : Stmt} {f : Addr} {fd : FuncData} {N ps : List Str} {k : Nat} {sp : Sp} (F : Fun K x qual st f fd) (S : FnScope N ps (defScope st)) (len : ∀ vs H Q E, sp vs H Q E → vs.length = ps.length)
    (hbody : ∀ (cdv : Value) (A : Around) (outer : List Env) (s : Shared) (H : Hp) (vs : List V) (Q : VK) (E : XK), A.guards = some [] → Room k (A.deeper (envOfC qual (defScope st) s.heap.objs.size f cdv)) → sp vs H Q E →
      ∃ t, PSs (cxOf CX0 P w K mg base N qual (defScope st) f cdv A outer s H E).nox (defBody st) t ∧ t { nx := fun _ H' => Q .non H', rt := Q } (start N vs) H) :
    FnG P w K mg base CX0 (k + 1) f fd ps sp := by
  obtain ⟨oc, od, kV, doc, pm, an, cdv, ct, osl, rfl, lk, hcd⟩ := F.ex
  refine ⟨len, fun A outer s H args us vs Q E hg hr e0 hb r hsp => ?_⟩
  refine LamX.run_ofS lk hcd S hr e0 hb r (len _ _ _ _ hsp) fun hr' => ?_
  obtain ⟨t, h, q⟩ := hbody cdv A outer s H vs Q E hg hr' hsp
  exact ⟨t, h.nox, q⟩
end
/-! ### the law's own call, guards told -/
section
variable {P : Program} {w : World} {K : PySem.W.Frag} {mg mb : Str → Option Value} {k : Nat} {fa a : Addr} {fd : FuncData} {x : Str} {sp : Sp} {s : Shared} {vs : List Value} {ns : List Int}
/-- what the law's call has to leave -/
def LawEnd (s : Shared) (r : Result) (t : Shared) : Prop := r = .ok (.ret (.bool true)) ∧ OldK s.heap t.heap ∧ t.os = s.os ∧ AllBare t.gens
theorem lawG_of (KX : K.In s.heap) (G : s.heap.Ns mainGlobals mg) (B : s.heap.Ns builtinsNs mb) (BB : ∀ y : Str, y ≠ "__name__" → mb y = bootBuiltins y) (NL : s.heap.NoLimit) (g0 : s.gens = #[])
    (hr : Room k callerA) (F : ∀ base : Heap, K.In base → base.Ns mainGlobals mg → FnG P w K mg base CX0 k fa fd [x] sp) (bd : ∀ (t : Shared) (u : Value), BindsTo t fd ⟨[u], []⟩ [(x, u)])
    (H : Hp) (one : ∀ b u, H b = some u → b = a ∧ K.lookup a = none ∧ (∃ o xs, u = .frz o (.lst xs)) ∧ ∀ o es ep, s.heap.get? a = some o → o.data ≠ .dict es ep) (ok : HOk P w H s.heap)
    (pr : sp [.ref a] H (fun v _ => v = .bl true) fun _ _ _ => False) : codeAny (model P w) callerA (.call (.ref fa) ⟨[.ref a], []⟩) (LawEnd s) s := by
  have stay : ∀ {b : Addr} {o : Obj}, s.heap.get? b = some o → H b = none → (hidT s.heap H).get? b = some o := fun e n => hidT_get e n
  have nodict : ∀ {b : Addr} {m : Str → Option Value}, s.heap.Ns b m → (hidT s.heap H).Ns b m := by
    rintro b m ⟨o, es, ep, e, d, r⟩
    refine ⟨o, es, ep, stay e ?_, d, r⟩
    cases q : H b with
    | none => rfl
    | some u =>
      obtain ⟨rfl, _, _, nd⟩ := one b u q
      exact absurd d (nd o es ep e)
  have Kb : K.In (hidT s.heap H) := by
    intro b o e
    refine stay (KX b o e) ?_
    cases q : H b with
    | none => rfl
    | some u =>
      obtain ⟨rfl, z, _, _⟩ := one b u q
      rw [z] at e
      cases e
  obtain ⟨ml, l1, l2⟩ := NL
  have E0 : Env0 P w K mg (hidT s.heap H) callerA [] s H :=
    { frames := rfl
      mod := { kin := Kb, glob := nodict G, blt := ⟨mb, nodict B, BB⟩, nolimit := ⟨ml, nodict l1, l2⟩ }
      bs := fun b o e => of_hidT e
      bsz := Nat.le_of_eq (hidT_size _ _)
      funs := trivial
      frf := fun b hb => absurd hb (List.not_mem_nil)
      hok := ok
      bare := .of_eq g0 }
  refine codeAny_mono ((F _ Kb (nodict G)).go callerA [] s H ⟨[.ref a], []⟩ [.ref a] [.ref a] _ _ rfl hr E0 (bd s (.ref a)) (.cons rfl .nil) pr) ?_
  intro r t h
  match r, h with
  | .error e, h =>
    exact (show False from h).elim
  | .ok .next, h => exact False.elim h
  | .ok .brk, h => exact False.elim h
  | .ok .cont, h => exact False.elim h
  | .ok (.ret u), h =>
    obtain ⟨v, H', h1, h2, un, ok', rv, rfl⟩ := h
    cases rv
    refine ⟨rfl, OldK.of_keep fun b o e => ?_, h1, h2⟩
    cases q : H b with
    | none => exact un.keep b o e q List.not_mem_nil List.not_mem_nil
    | some u =>
      obtain ⟨rfl, _, ⟨ob, xs, rfl⟩, _⟩ := one b u q
      have e1 := (ok b _ q).1
      have e2 := (ok' b _ (un.frzs b ob _ q)).1
      rw [e] at e1
      cases e1
      exact e2
theorem lawG (KX : K.In s.heap) (G : s.heap.Ns mainGlobals mg) (B : s.heap.Ns builtinsNs mb) (BB : ∀ y : Str, y ≠ "__name__" → mb y = bootBuiltins y) (NL : s.heap.NoLimit) (g0 : s.gens = #[])
    (ha : s.heap.get? a = some { cls := .type "list", data := .seq vs.toArray }) (hi : IntsAre vs ns) (hl : ns.length ≤ sizeLine)
    (hr : Room k callerA) (F : ∀ base : Heap, K.In base → base.Ns mainGlobals mg → FnG P w K mg base CX0 k fa fd [x] sp) (bd : ∀ (t : Shared) (u : Value), BindsTo t fd ⟨[u], []⟩ [(x, u)])
    (pr : ∀ H : Hp, Only H → SqL K H a (ns.map V.int) → sp [.ref a] H (fun v _ => v = .bl true) fun _ _ _ => False) : codeAny (model P w) callerA (.call (.ref fa) ⟨[.ref a], []⟩) (LawEnd s) s := by
  have rv := vals_ints hi
  have lv := hi.length
  have nd : ∀ o es ep, s.heap.get? a = some o → o.data ≠ .dict es ep := by
    intro o es ep e d
    rw [ha] at e
    cases e
    cases d
  cases hk : K.lookup a with
  | some o =>
    have e := KX a o hk
    rw [ha] at e
    cases e
    have z : ∀ (b : Addr) (u : HO), (none : Option HO) = some u → False := fun _ _ q => nomatch q
    refine lawG_of KX G B BB NL g0 hr F bd (fun _ => none) (fun b u q => (z b u q).elim) (fun b u q => (z b u q).elim) (pr _ (fun _ => .inl rfl) (.inr ⟨_, vs.toArray, _, hk, rfl, rfl, rfl, ?_, by simpa using rv⟩))
    rw [List.size_toArray, lv]
    exact hl
  | none =>
    let o0 : Obj := { cls := .type "list", data := .seq vs.toArray }
    let Ha : Hp := fun b => if b = a then some (.frz o0 (.lst (ns.map V.int))) else none
    have at_a : Ha a = some (.frz o0 (.lst (ns.map V.int))) := if_pos rfl
    have but : ∀ b u, Ha b = some u → b = a ∧ u = .frz o0 (.lst (ns.map V.int)) := by
      intro b u q
      by_cases hb : b = a
      · subst hb
        rw [at_a] at q
        exact ⟨rfl, (Option.some.inj q).symm⟩
      · have q' : (none : Option HO) = some u := (if_neg hb).symm.trans q
        cases q'
    refine lawG_of KX G B BB NL g0 hr F bd Ha (fun b u q => ?_) (fun b u q => ?_) (pr _ (fun b => ?_) (.inl (.inr ⟨o0, at_a⟩)))
    · obtain ⟨e1, e2⟩ := but b u q
      exact ⟨e1, hk, ⟨_, _, e2⟩, nd⟩
    · obtain ⟨rfl, rfl⟩ := but b u q
      exact ⟨ha, by rw [List.length_map]; exact hl, vs, _, rv, ha⟩
    · by_cases hb : b = a
      · exact .inr ⟨_, _, by rw [hb]; exact at_a⟩
      · exact .inl (if_neg hb)
end
open PySem.W in
/-- the goal that the head leaves -/
theorem walkG {l : OpenLaw} {n k : Nat} {q : Program} {loose : List Str} {XP : (Str → Option Value) → Heap → Prop} {YP : World → Heap → Prop} {d : DefRec} {K : Params → Frag} {sp : Frag → Sp} {x : Str}
    (hn : l.most = some n) (hz : n ≤ sizeLine) (h0 : d.params.defaults = []) (hr : Room k callerA) (hY : ∀ (w : World) (h : Heap), YP w h → (K w.params).In h)
    (F : ∀ (w : World) (mg : Str → Option Value) (fa : Addr) (h : Heap), (K w.params).In h → h.Ns mainGlobals mg → mg d.name = some (.ref fa) → ∃ fd : FuncData,
      (∀ (t : Shared) (u : Value), BindsTo t fd ⟨[u], []⟩ [(x, u)]) ∧ ∀ base : Heap, (K w.params).In base → base.Ns mainGlobals mg → FnG l.prog w (K w.params) mg base CX0 k fa fd [x] (sp (K w.params)))
    (pr : ∀ (K : Frag) (H : Hp) (a : Addr) (ns : List Int), ns.length ≤ n → Only H → SqL K H a (ns.map V.int) → sp K [.ref a] H (fun v _ => v = .bl true) fun _ _ _ => False) :
    WalkO q loose XP YP l.row.toRowW d [] (fun f us => PySem.call f us) := by
  refine Att.attach_call hn h0 ?_
  intro w s₀ s₁ mg mb fa o pm cd doc a us ns G Y ho hd hcd hm hobj hints hlen hg
  obtain ⟨fd, hb, hF⟩ := F w mg fa _ (hY w _ Y) G.T.g hm
  exact lawG (hY w _ Y) G.T.g G.T.b G.T.builtins G.T.nolimit hg hobj hints (Nat.le_trans hlen hz) hr hF hb fun H hO hS => pr _ H a ns hlen hO hS
end Kx
namespace Kx
open PySem PySem.Spec PyProof.Rows L2 SX
/-! ### heaps -/
theorem same_new {H : Hp} {p : Addr} {o : HO} (h : H p = none) : Same H (upd H p o) := fun b u e => by
  rw [upd_ne (ne_of_none e h)]
  exact e
theorem Same.t {K : PySem.W.Frag} {H H' : Hp} {a : Addr} {xs : List V} (e : Same H H') (h : SqT K H a xs) : SqT K H' a xs := by
  rcases h with (h | ⟨o, h⟩) | h
  · exact .inl (.inl (e _ _ h))
  · exact .inl (.inr ⟨o, e _ _ h⟩)
  · exact .inr h
/-- a list or a tuple -/
def SqQ (K : PySem.W.Frag) (H : Hp) (a : Addr) (xs : List V) : Prop := SqL K H a xs ∨ SqT K H a xs
theorem Same.q {K : PySem.W.Frag} {H H' : Hp} {a : Addr} {xs : List V} (e : Same H H') (h : SqQ K H a xs) : SqQ K H' a xs := h.imp e.seq (Same.t e)
theorem tyL {K : PySem.W.Frag} {H : Hp} {a : Addr} {xs : List V} (h : SqL K H a xs) : TyX K H (.ref a) (.type "list") := by
  rcases h with (h | ⟨o, h⟩) | ⟨o, vs, n, h, hc, _⟩
  · exact .base (.lst h)
  · exact .base (.frz h)
  · exact .kList h hc
theorem tyT {K : PySem.W.Frag} {H : Hp} {a : Addr} {xs : List V} (h : SqT K H a xs) : TyX K H (.ref a) (.type "tuple") := by
  rcases h with (h | ⟨o, h⟩) | ⟨o, vs, n, h, hc, _⟩
  · exact .base (.tup h)
  · exact .fTuple h
  · exact .kTuple h hc
theorem kit_at {K : PySem.W.Frag} {n : String} {a b : Bool} (h1 : kitB n "list" = some a) (h2 : kitB n "tuple" = some b) : PySem.W.kitAny K (.type n) [.type "list", .type "tuple"] = some (a || b) := by
  refine kitAny_cons (kit_ty h1) (fun e => ?_) (fun e => by rw [e]; rfl)
  rw [e, Bool.false_or]
  exact kitAny_cons (kit_ty h2) (fun e => by rw [e]; exact kitAny_nil) (fun e => e)
theorem isl_q {K : PySem.W.Frag} {H : Hp} {a : Addr} {xs : List V} (h : SqQ K H a xs) : ∃ n, TyX K H (.ref a) (.type n) ∧ PySem.W.kitAny K (.type n) [.type "list", .type "tuple"] = some true := by
  rcases h with h | h
  · exact ⟨_, tyL h, kit_at (a := true) (b := false) (by decide +kernel) (by decide +kernel)⟩
  · exact ⟨_, tyT h, kit_at (a := false) (b := true) (by decide +kernel) (by decide +kernel)⟩
theorem ix_q {K : PySem.W.Frag} {H : Hp} {a : Addr} {xs : List V} {i : Int} {v : V} {Q : VK} (h : SqQ K H a xs) (hv : atI xs i = some v) (q : Q v H) : rIx K (.ref a) (.int i) H Q := by
  rcases h with h | h
  · exact .inl ⟨a, xs, i, v, rfl, rfl, h, hv, q⟩
  · exact .inr (.inl ⟨a, xs, i, v, rfl, rfl, h, hv, q⟩)
/-- is it data of this form, whatever tracks it -/
theorem dp_same {K : PySem.W.Frag} {H H' : Hp} (e : Same H H') : ∀ (d : PyData) (v : V), Dp K H v d → Dp K H' v d := by
  intro d v h
  exact Dp.rec (motive_1 := fun v d _ => Dp K H' v d) (motive_2 := fun vs ds _ => DpAll K H' vs ds) .non .bl .int .str (fun h _ i => .lst (e.seq h) i) (fun h _ i => .tup (Same.t e h) i) .nil (fun _ _ a b => .cons a b) h
end Kx
namespace Kx
open PySem PySem.Spec PyProof.Rows L2 SX
theorem iteC {c : Bool} {A B : Prop} (h1 : c = true → A) (h2 : c = false → B) : if c = true then A else B := by
  cases c with
  | true => exact iteT (h1 rfl)
  | false => exact iteF (h2 rfl)
/-! ### letters and signs -/
def low (c : Nat) : Bool := decide (97 ≤ c) && decide (c ≤ 122)
def lowB (l : List Nat) : Bool := !l.isEmpty && l.all low
def sg (c : Nat) : Bool := decide (c = 32) || low c
def textB (l : List Nat) : Bool := decide (l.length ≤ 200000) && l.all sg
theorem ascii1 : (List.range 128).all (fun c => (if Unicode.isAlpha c then (Unicode.isLower c && !(Unicode.isUpper c || Unicode.isTitle c)) == low c && ((Unicode.isLower c && !(Unicode.isUpper c || Unicode.isTitle c)) || (Unicode.isUpper c || Unicode.isTitle c)) else !low c)) = true := by decide +kernel
theorem ascii2 (c : Nat) (h : c < 128) : (Unicode.isAlpha c = true → ((Unicode.isUpper c || Unicode.isTitle c) = !low c) ∧ (low c = true → Unicode.isLower c = true)) ∧ (low c = true → Unicode.isAlpha c = true) := by
  have z := List.all_eq_true.mp ascii1 c (List.mem_range.mpr h)
  cases ha : Unicode.isAlpha c <;> cases hl : Unicode.isLower c <;> cases hu : (Unicode.isUpper c || Unicode.isTitle c) <;> cases hw : low c <;> simp_all
theorem low_lt {c : Nat} (h : low c = true) : c < 128 := by
  unfold low at h
  simp only [Bool.and_eq_true, decide_eq_true_eq] at h
  omega
theorem letters_S (l : List Nat) : (Txt.isascii (S l) && (Txt.isalpha (S l) && Txt.islower (S l))) = lowB l := by
  have ea : ∀ p : Nat → Bool, (S l).cps.all p = l.all p := fun p => by simp
  have ey : ∀ p : Nat → Bool, (S l).cps.any p = l.any p := fun p => by simp
  unfold Txt.isascii Txt.isalpha Txt.islower lowB
  rw [ea, ea, ey, ey, S_len]
  cases l with
  | nil => rfl
  | cons d r =>
    have e0 : decide ((d :: r).length > 0) = true := by simp
    rw [e0, Bool.true_and]
    rw [Bool.eq_iff_iff]
    simp only [Bool.and_eq_true, List.all_eq_true, decide_eq_true_eq, List.any_eq_true, Bool.not_eq_true', List.isEmpty_cons, Bool.not_false, true_and]
    constructor
    · rintro ⟨h1, h2, _, h4⟩ c hc
      have k := (ascii2 c (h1 c hc)).1 (h2 c hc)
      have n : (Unicode.isUpper c || Unicode.isTitle c) = false := by
        cases q : (Unicode.isUpper c || Unicode.isTitle c) with
        | false => rfl
        | true =>
          rw [List.any_eq_false] at h4
          exact absurd q (h4 c hc)
      rw [n] at k
      simpa using k.1
    · intro h
      refine ⟨fun c hc => low_lt (h c hc), fun c hc => (ascii2 c (low_lt (h c hc))).2 (h c hc), ⟨d, List.mem_cons_self, ?_⟩, ?_⟩
      · have hd := h d List.mem_cons_self
        exact ((ascii2 d (low_lt hd)).1 ((ascii2 d (low_lt hd)).2 hd)).2 hd
      · rw [List.any_eq_false]
        intro c hc q
        have hd := h c hc
        have k := ((ascii2 c (low_lt hd)).1 ((ascii2 c (low_lt hd)).2 hd)).1
        rw [q, hd] at k
        cases k
end Kx
namespace Kx
open PySem PySem.Spec PyProof.Rows L2 SX
/-! ### an exception that a name keeps behind the suite -/
/-- at a: an exception of the class cls, its own dict at d -/
def exT (a : Addr) (cls : Value) (d : Option Addr) : HO := .ext fun h => ∃ (oe : Obj) (vs : Array Value), h.get? a = some oe ∧ Zc cls d oe ∧ oe.data = .fields vs
section
variable {X : Cx} {pn0 : List (Addr × Obj)} {σ : L2.St} {H : Hp} {s : Shared} {a : Addr} {oe : Obj} {cls : Value} {d : Option Addr}
theorem exT_ne (o : HO) (h : ∀ φ, o ≠ .ext φ) : exT a cls d ≠ o := fun z => h _ z.symm
/-- what stands pinned in the suite is tracked behind it -/
theorem Inv.track {vs : Array Value} (I : Inv X pn0 σ H s) (ha : s.heap.get? a = some oe) (hz : Zc cls d oe) (hd : oe.data = .fields vs) (na : H a = none) (new0 : X.s_0.heap.get? a = none) (nL : a ≠ X.env.locals)
    (np : ∀ p ∈ X.pn ++ pn0, p.1 ≠ a) : Inv X pn0 σ (upd H a (exT a cls d)) s := by
  have off : ∀ {b : Addr} {u : HO}, H b = some u → upd H a (exT a cls d) b = some u := fun {b u} e => by
    rw [upd_ne (ne_of_none e na)]
    exact e
  have un : ∀ {b : Addr}, b ≠ a → H b = none → upd H a (exT a cls d) b = none := fun {b} n e => by
    rw [upd_ne n]
    exact e
  have old : ∀ {b : Addr} {o : Obj}, X.s_0.heap.get? b = some o → b ≠ a := fun {b o} e z => by
    rw [z, new0] at e
    cases e
  exact
    { ok := I.ok
      os := I.os
      bare := I.bare
      base :=
        { keep := I.base.keep
          slot := I.base.slot
          free := fun b o e n x => un (old e) (I.base.free b o e n x)
          there := I.base.there
          tups := fun b xs e => off (I.base.tups b xs e)
          frzs := fun b o u e => off (I.base.frzs b o u e)
          tbls := fun b ps e => by
            obtain ⟨m, q⟩ := I.base.tbls b ps e
            exact ⟨m, off q⟩ }
      loc := I.loc
      cell := I.cell
      free := un (Ne.symm nL) I.free
      freeC := fun y c e => by
        refine un (fun z => ?_) (I.freeC y c e)
        obtain ⟨v, o, e1, e2⟩ := I.cell y c e
        rw [z, ha] at e1
        cases e1
        rw [hd] at e2
        cases e2
      pin := fun p hp => by
        obtain ⟨e, n, r⟩ := I.pin p hp
        exact ⟨e, un (np p hp) n, r⟩
      hok := HOk.laidN (P := X.prog) (w := X.w) I.hok (fun _ _ e => e) na ⟨⟨oe, vs, ha, hz, hd⟩, ⟨oe, ha⟩, fun h1 h2 z k => by
        obtain ⟨o, v, e1, e2⟩ := z
        exact ⟨o, v, k _ e1, e2⟩⟩
      len := I.len }
end
/-- what «try: .. except x as n: y = n» wishes of an exception: it is one of x's; y keeps it -/
def wKeep (K : PySem.W.Frag) (n : Nat) (c : Value) (i j : Nat) (D : Ends) : WX := fun cls d σ H =>
  PySem.W.exmOne K cls c = some true ∧ ∀ a, H a = none → σ.length = n → D.nx ((((σ.set i (some (.ref a))).set j (some (.ref a)))).set i none) (upd H a (exT a cls d))
section
variable {X : Cx} {x n y : Str} {c : Value} {i j : Nat} {body : List Stmt} {p1 p2 p3 np pos pos' : Pos} {tb : WX → TS}
theorem ps_keep (hs : X.stack = X.env :: X.outer) (hex : X.ex = []) (hf : X.env.frame = some X.env.locals) (hN : X.N.Nodup) (hi : X.N[i]? = some n) (hln : X.env.kindOf n = some .local) (hlv : X.env.scope.names.lookup n = some .local)
    (hj : X.N[j]? = some y) (hlj : X.env.scope.names.lookup y = some .local) (hc : Names X x c) (hdb : (n == ("__debug__" : Str)) = false) (hdc : (n == ("__classdict__" : Str)) = false)
    (hb : ∀ (W : WX) (pn : List (Addr × Obj)) (xe : Value → Shared → Prop), Takes (X.tr pn xe) W → PassesOwn (model X.prog X.w) X.A X.env xe → PSs (X.tr pn xe) body (tb W)) :
    PS X (.Try body [.ExceptHandler (some (.Name x np)) (some n) [.Assign [.Name y p1] (.Name n p2) p3] pos'] [] [] pos) (fun D σ H => tb (wKeep X.K X.N.length c i j D) D σ H) := by
  refine ⟨fun pn0 s σ H D I h => ?_⟩
  have ok := I.ok
  have fr : X.A.frames = some (X.env :: X.outer) := by rw [ok.frames, hs]
  apply wpAny_Try_except
  have run := hb (wKeep X.K X.N.length c i j D) (X.pn ++ pn0)
    (fun e t1 => wpAny (model X.prog X.w) X.A (noteFrame e X.env)
      (fun _ t2 => wpAny (model X.prog X.w) X.A (setFlight e none)
        (fun _ t3 => wpAny (model X.prog X.w) X.A (handleBy e X.env [.ExceptHandler (some (.Name x np)) (some n) [.Assign [.Name y p1] (.Name n p2) p3] pos']) (SP X pn0 D) X.xe t3) X.xe t2) X.xe t1) ?take PassesOwn.looking
  case take =>
    rintro u t ⟨a, B, sI, pins', σ', H', cls, d, rfl, J', nb, up, sky, na, os, ag, isOne, hend⟩
    have Jb : Inv X pn0 σ' H' sI := J'.ofTry ok
    rw [show (X.tr (X.pn ++ pn0) _).stack = X.env :: X.outer from hs] at sky
    show wpAny (model X.prog X.w) X.A (noteFrame (.ref a) X.env) _ _ _
    refine Sky.land Zc.steady fr hf sky (fun h3 fl up3 => ?_)
    have J3 : Inv X pn0 σ' H' { t with heap := h3 } := Jb.landed nb fl.1 (up.trans up3) os ag
    have Bn := fl.2.1
    obtain ⟨oz3, vz3, at3, zc3, dt3⟩ := fl.there
    have out : a ∉ frs (X.env :: X.outer) := by
      intro hm
      obtain ⟨_, o', e', hnf⟩ := fl.2.2.1.mem hm
      rw [at3] at e'
      cases e'
      exact hnf _ dt3
    have nL : a ≠ X.env.locals := fun z => out (List.mem_filterMap.mpr ⟨X.env, List.mem_cons_self, by rw [hf, z]⟩)
    have nF : a ∉ X.fs := by
      intro hm
      obtain ⟨e, hme, q⟩ := List.mem_filterMap.mp hm
      exact out (List.mem_filterMap.mpr ⟨e, List.mem_cons_of_mem _ hme, q⟩)
    have gone : ∀ {b : Addr} {o : Obj}, sI.heap.get? b = some o → b ≠ a := by
      intro b o e z
      rw [z] at e
      have q := nb a o e (by rw [hs]; exact out)
      rw [Bn] at q
      cases q
    have new0 : X.s_0.heap.get? a = none := by
      cases q : X.s_0.heap.get? a with
      | none => rfl
      | some o =>
        obtain ⟨o', e'⟩ := Jb.base.there a o q (by rw [hex]; exact List.not_mem_nil)
        exact absurd rfl (gone e')
    have np0 : ∀ p ∈ X.pn ++ pn0, p.1 ≠ a := fun p hp => gone (Jb.pin p hp).1
    have In3 := J3.suite at3 dt3 na nL nF
    refine wpAny_handleBy_cons (codeAny_handlers_test ?_) (by intro q; cases q)
    have lookT : PySem.W.Looks (model X.prog X.w) h3 (typeOf (.ref a)) cls := fun A Q E s k q => wpAny_typeOf_ref (k _ _ at3) (by rw [zc3.1]; exact q)
    have LM := PySem.W.exm_one (M := model X.prog X.w) J3.kIn lookT isOne
    have named : ∀ {Q E : Value → Shared → Prop}, Q c { t with heap := h3 } → wpAny (model X.prog X.w) (X.A.mark (some (.ref a))) (eval (.Name x np) X.env) Q E { t with heap := h3 } := by
      intro Q E q
      obtain ⟨g, gd, g2⟩ := hc
      rcases g2 with m | ⟨m, v, nn⟩
      · exact ld_glob (X := X.suite a ((a, oz3) :: (X.pn ++ pn0))) In3 g m q gd
      · exact ld_blt (X := X.suite a ((a, oz3) :: (X.pn ++ pn0))) In3 g m v q nn gd
    refine named (LM.here ?_)
    refine codeAny_handlers_suite_as (HandSPX.lands_againZ fl fun h4 flr up4 => ?_)
    have J4 : Inv X pn0 σ' H' { t with heap := h4 } := Jb.landed nb flr.1 ((up.trans up3).trans up4) os ag
    obtain ⟨oz4, vz4, at4, zc4, dt4⟩ := flr.there
    have In4 := J4.suite at4 dt4 na nL nF
    refine store_ok (X := X.suite a ((a, oz4) :: (X.pn ++ pn0))) (v := .ref a) In4 hN hi (.inl hlv) rfl (fun s5 S5 => ?_) (.inr hlv)
    have il : i < σ'.length := by
      rw [In4.len]
      exact (List.getElem?_eq_some_iff.mp hi).1
    have suite : PSs (X.suite a ((a, oz4) :: (X.pn ++ pn0))) [.Assign [.Name y p1] (.Name n p2) p3] (tAsg (tVar i) (gName j)) :=
      pss_one (ps_set hN hj (.inl hlj) (pe_var hi (.inl hlv) hdb hdc) rfl (.inr hlj))
    refine wpAny_mono (suite.run [] s5 _ H' { nx := fun σ6 H6 => σ6 = (σ'.set i (some (.ref a))).set j (some (.ref a)) ∧ H6 = H', rt := fun _ _ => False, bk := fun _ _ => False, ct := fun _ _ => False } S5 ⟨_, List.getElem?_set_self il, rfl, rfl⟩) (fun f s6 q => ?_) (fun _ _ z => False.elim z)
    match f, q with
    | .ret _, q =>
      obtain ⟨_, _, _, _, _, z⟩ := q
      exact False.elim z
    | .brk, q =>
      obtain ⟨_, _, _, z⟩ := q
      exact False.elim z
    | .cont, q =>
      obtain ⟨_, _, _, z⟩ := q
      exact False.elim z
    | .next, q =>
      obtain ⟨σ6, H6, S6, rfl, rfl⟩ := q
      have pin := S6.pin (a, oz4) List.mem_cons_self
      have J6 : Inv X pn0 _ _ s6 := S6.unsuite ok
      have J7 := Kx.Inv.track J6 pin.1 zc4 dt4 na new0 nL np0
      refine gone_ok J7 hN hi hln fun s8 J8 => ⟨_, _, J8, hend a na Jb.len⟩
  refine wpAny_mono (run.run [] s σ H D (I.toTry _) h) (fun f s1 q => ?_) fun _ _ z => z
  match f, q with
  | .next, q =>
    obtain ⟨σ', H', J', z⟩ := q
    exact wpAny_execs_nil ⟨σ', H', J'.ofTry ok, z⟩
  | .brk, q =>
    obtain ⟨σ', H', J', z⟩ := q
    exact ⟨σ', H', J'.ofTry ok, z⟩
  | .cont, q =>
    obtain ⟨σ', H', J', z⟩ := q
    exact ⟨σ', H', J'.ofTry ok, z⟩
  | .ret u, q =>
    obtain ⟨v, σ', H', J', r, z⟩ := q
    exact ⟨v, σ', H', J'.ofTry ok, r, z⟩
end
end Kx
namespace Kx
open PySem PySem.Spec PyProof.Rows L2 SX LamX
section
variable {X : Cx} {pn0 : List (Addr × Obj)} {σ : L2.St} {H HZ : Hp} {s sB : Shared}
abbrev lamQ (X : Cx) : Str := X.env.qual ++ "<lambda>"
/-- the lambda as an object, its defaults at dV -/
abbrev lamObj (X : Cx) (params : Arguments) (body : Expr) (scp : Scope) (dV doc pm : Value) (c' : Addr) (ctv : Value) : Obj := PySem.W.kdv_obj "<lambda>" (lamQ X) params (.expr body) scp (cloFrom X.env.cells scp.names []) dV doc pm c' ctv
/-- what the making leaves -/
def Made (X : Cx) (pn0 : List (Addr × Obj)) (σ : L2.St) (H : Hp) (T : List (Addr × Str)) (params : Arguments) (body : Expr) (scp : Scope) (dV : Value) (s0 : Shared) (v : Value) (s' : Shared) : Prop :=
  ∃ (f c' : Addr) (doc pm ctv : Value) (H1 : Hp), v = .ref f ∧ Inv X pn0 σ H1 s' ∧ ExtN H H1 ∧ Tabs T H1 ∧ s'.heap.get? f = some (lamObj X params body scp dV doc pm c' ctv) ∧ H1 f = none ∧ f ∉ frs X.stack ∧ H1 c' = some (CodeO c' (lamQ X)) ∧
    (∀ b o, s0.heap.get? b = some o → (∀ pz, H b ≠ some (.tbl pz)) → s'.heap.get? b = some o) ∧ (∀ b, b < s0.heap.objs.size → H b = none → H1 b = none)
theorem lam_tail {T : List (Addr × Str)} {c P : Addr} {params : Arguments} {body : Expr} {scp : Scope} {pos : Pos} {ln : Nat} {dV : Value} {E : Value → Shared → Prop} (I : Inv X pn0 σ H s) (TB : TabB X.base X.mg c P) (hcode : X.env.code = .ref c)
    (hm : (P, lamQ X) ∈ T) (onlyP : ∀ p ∈ T, p.1 = P → p.2 = lamQ X) (hT : Tabs T H) (hfree : ∀ y ∈ scp.names, y.2 = .free → ∃ c, X.env.cells.lookup y.1 = some c) :
    wpAny (model X.prog X.w) X.A (makeTail "<lambda>" (lamQ X) params (.expr body) scp X.env dV .none none pos ln) (Made X pn0 σ H T params body scp dV s) E s := by
  obtain ⟨pz, eP, tr3, amg⟩ := hT _ hm
  have btP : s.heap.BuiltinsAt X.mg P := TB.bm.keeps I.bk
  have hP' : s.heap.get? P = some { cls := .none, data := .fields pz } := I.hok P _ eP
  have nofr : ∀ f, s.heap.objs.size ≤ f → f ∉ frs X.stack := by
    intro f hf z
    rcases List.mem_cons.mp (I.stkSub _ z) with e | e
    · have h1 := I.lt
      rw [← e] at h1
      exact absurd (Nat.lt_of_lt_of_le h1 hf) (Nat.lt_irrefl _)
    · exact I.nofs hf e
  cases fnd : codeAmong pos pz.toList with
  | none =>
    refine PySem.W.kdv_makeTail (mg := X.mg) (c := c) (P := P) (ps := pz) (closure_ok hfree) I.ok.glob (I.mod.glob.keeps I.bk) hcode (TB.code.keeps I.bk) hP' tr3 fnd TB.gP btP fun c' ctv doc h' tk stP gec ltc rcc tbb => ?_
    obtain ⟨cc2, oc, vs, t, e2, ocE, hd, ovE⟩ := rcc
    cases e2
    have szle : s.heap.objs.size ≤ h'.objs.size := Nat.le_trans gec (Nat.le_of_lt ltc)
    have ncn : H c' = none := I.hok.fresh gec
    have up : ∀ b o, b ≠ P → s.heap.get? b = some o → (h'.push (lamObj X params body scp dV doc ((X.mg "__name__").getD .none) c' ctv)).get? b = some o := fun b o hb e => Heap.get?_push_of_some _ (stP b o hb e)
    have I1 := inv_table (t' := tk) (more := #[rawInt pos.line, rawInt pos.col, .ref c']) (h' := h'.push (lamObj X params body scp dV doc ((X.mg "__name__").getD .none) c' ctv)) I eP up (Heap.get?_push_of_some _ tbb) gec ⟨oc, vs, t, Heap.get?_push_of_some _ ocE, hd, ovE⟩
    have exE : ExtN H (upd (upd H P (.tbl (pz ++ #[rawInt pos.line, rawInt pos.col, .ref c']))) c' (CodeO c' (lamQ X))) := by
      intro b o e n
      rw [upd_ne (ne_of_none e ncn), upd_ne (fun z => n pz (Option.some.inj (e.symm.trans (by rw [z]; exact eP))))]
      exact e
    have ell : (pz ++ #[rawInt pos.line, rawInt pos.col, .ref c']).toList = pz.toList ++ [rawInt pos.line, rawInt pos.col, .ref c'] := by simp
    refine ⟨h'.objs.size, c', doc, _, ctv, _, rfl, I1, exE, fun p hp => ?_, Heap.get?_push_size _ rfl, ?_, nofr _ szle, upd_same, fun b o e n => up b o (fun z => n pz (by rw [z]; exact eP)) e, fun b hb n => ?_⟩
    · by_cases hb : p.1 = P
      · rw [onlyP p hp hb, hb]
        refine ⟨_, by rw [upd_ne (ne_of_none eP ncn), upd_same], by rw [ell]; exact PySem.TriplesOk_snoc _ _ _ _ tr3, fun p' cwv cvE => ?_⟩
        rw [ell] at cvE
        rcases among_app _ tr3 cvE with z | z
        · obtain ⟨cq, e1, e2⟩ := amg p' cwv z
          exact ⟨cq, e1, exE _ _ e2 codeO_ne⟩
        · exact ⟨c', z, upd_same⟩
      · obtain ⟨ps', a1, a2, a3⟩ := hT p hp
        refine ⟨ps', by rw [upd_ne (ne_of_none a1 ncn), upd_ne hb]; exact a1, a2, fun p' cwv cvE => ?_⟩
        obtain ⟨cq, e1, e2⟩ := a3 p' cwv cvE
        exact ⟨cq, e1, exE _ _ e2 codeO_ne⟩
    · rw [upd_ne (Nat.ne_of_gt ltc), upd_ne (Nat.ne_of_gt (Nat.lt_of_lt_of_le (Heap.lt_size hP') szle))]
      exact I.hok.fresh szle
    · have n1 : b ≠ c' := Nat.ne_of_lt (Nat.lt_of_lt_of_le hb gec)
      have n2 : b ≠ P := fun z => by
        rw [z, eP] at n
        cases n
      rw [upd_ne n1, upd_ne n2]
      exact n
  | some cwv =>
    obtain ⟨c', e, hco⟩ := amg pos cwv fnd
    subst e
    refine PySem.W.kdv_makeTailHit (mg := X.mg) (c := c) (P := P) (ps := pz) (closure_ok hfree) I.ok.glob (I.mod.glob.keeps I.bk) hcode (TB.code.keeps I.bk) hP' tr3 fnd btP fun ctv doc h' tk stP szle => ?_
    refine ⟨h'.objs.size, c', doc, (X.mg "__name__").getD .none, ctv, H, rfl, I.kept fun b o e => Heap.get?_push_of_some _ (stP b o e), ExtN.refl H, hT, Heap.get?_push_size _ rfl, I.hok.fresh szle, nofr _ szle, hco, fun b o e _ => Heap.get?_push_of_some _ (stP b o e), fun _ _ n => n⟩
/-- .. with one default, 0 -/
theorem lam_makeD {T : List (Addr × Str)} {c P : Addr} {params : Arguments} {body : Expr} {scp : Scope} {pos cp : Pos} {j : Nat} {E : Value → Shared → Prop} {Qw : Value → Shared → Prop} (I : Inv X pn0 σ H s) (TB : TabB X.base X.mg c P) (hcode : X.env.code = .ref c)
    (hm : (P, lamQ X) ∈ T) (onlyP : ∀ p ∈ T, p.1 = P → p.2 = lamQ X) (hT : Tabs T H) (hfree : ∀ y ∈ scp.names, y.2 = .free → ∃ c, X.env.cells.lookup y.1 = some c)
    (hp : params.defaults = [.Constant (.int 0) j cp]) (hk : params.kw_defaults = [])
    (h : ∀ (t f c' : Addr) (tk : Tok) (doc pm ctv : Value) (H1 : Hp) (s' : Shared), Inv X pn0 σ H1 s' → ExtN H H1 → Tabs T H1 → s'.heap.get? t = some (PySem.W.kdv_tup [.int 0 tk]) → H1 t = none → t ∉ frs X.stack →
      s'.heap.get? f = some (lamObj X params body scp (.ref t) doc pm c' ctv) → H1 f = none → f ∉ frs X.stack → H1 c' = some (CodeO c' (lamQ X)) → Qw (.ref f) s') :
    wpAny (model X.prog X.w) X.A (eval (.Lambda params body scp pos) X.env) Qw E s := by
  refine PySem.W.kdv_lam (by rw [hp]; rfl) hk ?_
  rw [hp]
  refine PySem.W.kdv_all1 (thn ((pe_int (X := X) (i := 0) (j := j) (pos := cp)).run pn0 s σ H (fun v H1 => v = .int 0 ∧ H1 = H) I ⟨rfl, rfl⟩) fun u sB ⟨v, H1, I1, r, e1, e2⟩ => ?_)
  subst e1 e2
  obtain ⟨tk, rfl⟩ := r
  refine PySem.W.kdv_all0 ?_
  rw [makeFunction_eq]
  simp only [List.zip_nil_right, List.filterMap_nil, List.isEmpty_nil, if_true, pure_bind, List.isEmpty_cons, Bool.false_eq_true, if_false]
  refine wpAny_bind (wpAny_newTextTuple ?_)
  have fresh : H1 sB.heap.objs.size = none := I1.hok.fresh (Nat.le_refl _)
  have off : sB.heap.objs.size ∉ frs X.stack := by
    intro z
    rcases List.mem_cons.mp (I1.stkSub _ z) with e | e
    · exact absurd I1.lt (by rw [← e]; exact Nat.lt_irrefl _)
    · exact I1.nofs (Nat.le_refl _) e
  have I2 : Inv X pn0 σ H1 { sB with heap := sB.heap.push (PySem.W.kdv_tup [.int 0 tk]) } := I1.kept (t' := sB.toks) fun b o e => Heap.get?_push_of_some _ e
  refine thn (lam_tail I2 TB hcode hm onlyP hT hfree) fun v s2 ⟨f, c', doc, pm, ctv, H2, ev, I3, eN, T3, hf, nf, off2, hco, keep, fr⟩ => ?_
  subst ev
  refine h sB.heap.objs.size f c' tk doc pm ctv H2 s2 I3 eN T3 (keep _ _ (Heap.get?_push_size _ rfl) fun pz z => ?_) (fr _ ?_ fresh) off hf nf off2 hco
  · rw [fresh] at z
    cases z
  · show sB.heap.objs.size < (sB.heap.push _).objs.size
    rw [Heap.size_push]
    exact Nat.lt_succ_self _
/-! ### its body -/
/-- one parameter, z, with a default; else captured names and globals -/
structure LamP (sc scp : Scope) (z : Str) : Prop where
  kind : scp.kind = .function
  co : scp.isCoroutine = false
  gen : scp.isGenerator = false
  own : ∀ y ∈ scp.names, y.2 ≠ .cell ∧ (y.2 = .local → y.1 = z)
  par : scp.names.lookup z = some .local
  free : ∀ y ∈ scp.names, y.2 = .free → sc.names.lookup y.1 = some .cell ∨ sc.names.lookup y.1 = some .free
theorem LamP.has {X : Cx} {scp : Scope} {z : Str} (L : LamP X.env.scope scp z) (ok : X.Ok) : ∀ y ∈ scp.names, y.2 = .free → ∃ c, X.env.cells.lookup y.1 = some c := fun y hy e => ok.has _ ((L.free y hy e).imp id id)
/-- the slots' names without z -/
def hideN (z : Str) (N : List Str) : List Str := N.map fun y => if y = z then ("%" : Str) else y
/-- the context of such a body -/
def lamCxD (X : Cx) (A : Around) (outer : List Env) (s : Shared) (H : Hp) (E : XK) (scp : Scope) (z : Str) (f c' : Addr) : Cx := { lamCx X A outer s H E scp f c' with N := hideN z X.N }
theorem lam_startD {A : Around} {outer : List Env} {E : XK} {scp : Scope} {z : Str} {f c' : Addr} {h₁ : Heap} {tk : Nat} {u : Value} (I : Inv X pn0 σ H s) (L : LamP X.env.scope scp z) (hz : scp.names.lookup ("%" : Str) = none) (e0 : Env0 X.prog X.w X.K X.mg X.base A outer sB HZ)
    (hd : A.handled = none) (un : Un (frs X.stack) [] H HZ s.heap sB.heap) (hns : h₁.Ns sB.heap.objs.size fun y => ([(z, u)] : List (Str × Value)).reverse.lookup y) (kp : ∀ b o, sB.heap.get? b = some o → h₁.get? b = some o) :
    Inv (lamCxD X A outer sB HZ E scp z f c') [] σ HZ { sB with heap := h₁, toks := tk } := by
  have hfree := L.has I.ok
  have back : ∀ {y c}, (cloFrom X.env.cells scp.names []).lookup y = some c → X.env.cells.lookup y = some c := by
    intro y c e
    rcases cloFrom_mem (PySem.mem_of_lookup e) with hm | ⟨h1, h2⟩
    · cases hm
    · obtain ⟨cc1, fnd⟩ := hfree _ h1 rfl
      have hc' : X.env.cells.lookup y = some cc1 := fnd
      have e2 : c = cc1 := by
        rw [h2]
        show (X.env.cells.lookup y).getD 0 = cc1
        rw [hc'] <;> rfl
      rw [e2]
      exact hc'
  have there : ∀ {y}, scp.names.lookup y = some .free → ∃ c, (cloFrom X.env.cells scp.names []).lookup y = some c := fun {y} hl => mem_lookup (cloFrom_has (cells := X.env.cells) (acc := []) (PySem.mem_of_lookup hl))
  have cellK : ∀ {c : Addr} {v : Option Value}, H c = none → s.heap.IsCell c v → h₁.IsCell c v := by
    rintro c v n ⟨o, ho, hdat⟩
    obtain ⟨sl, q⟩ := un.any ho n List.not_mem_nil
    exact ⟨_, kp _ _ q, hdat⟩
  have noEx : ∀ b : Addr, b ∉ (lamCxD X A outer sB HZ E scp z f c').ex := fun b => List.not_mem_nil
  refine
    { ok :=
        { mod := e0.mod
          kind := L.kind
          glob := rfl
          blt := rfl
          above := Nat.le_refl _
          inj := fun y y2 c e1 e2 => I.ok.inj y y2 c (back e1) (back e2)
          has := fun y hy => ?has
          cab := fun y c q _ => absurd (show false = true from q) Bool.false_ne_true
          hd := fun _ => hd
          frames := Around.frames_deeper e0.frames
          stk := .inr ⟨rfl, rfl⟩
          exf := fun b q => absurd q (noEx b)
          bs := e0.bs
          bsz := e0.bsz
          noex := fun b _ _ => noEx b
          exfs := fun b q => absurd q (noEx b)
          funs := e0.funs
          frf := e0.frf }
      os := rfl
      bare := e0.bare
      base := Un.kept kp
      loc := ⟨_, hns, fun i y v e1 e2 e3 => ?loc⟩
      cell := fun y c e => ?cell
      free := e0.hok.fresh (Nat.le_refl _)
      freeC := fun y c e => ?freeC
      pin := fun q hq => absurd (show q ∈ ([] : List (Addr × Obj)) ++ [] from hq) List.not_mem_nil
      hok := e0.hok.kept kp
      len := ?len }
  case has =>
    rcases (show scp.names.lookup y = some .cell ∨ scp.names.lookup y = some .free from hy) with q | q
    · exact absurd rfl (L.own _ (PySem.mem_of_lookup q)).1
    · exact there q
  case loc =>
    have e3 : Vis scp y := e3
    have e1' : (hideN z X.N)[i]? = some y := e1
    rcases e3 with k | k | k
    · exfalso
      have ez : y = z := (L.own _ (PySem.mem_of_lookup k)).2 rfl
      unfold hideN at e1'
      rw [List.getElem?_map] at e1'
      cases q : X.N[i]? with
      | none =>
        rw [q] at e1'
        cases e1'
      | some n =>
        rw [q] at e1'
        have e4 : (if n = z then ("%" : Str) else n) = y := Option.some.inj e1'
        by_cases hn : n = z
        · rw [if_pos hn] at e4
          rw [← e4, hz] at k
          cases k
        · rw [if_neg hn] at e4
          exact hn (e4.trans ez)
    · exact absurd rfl (L.own _ (PySem.mem_of_lookup k)).1
    · have eN : X.N[i]? = some y := by
        unfold hideN at e1'
        rw [List.getElem?_map] at e1'
        cases q : X.N[i]? with
        | none =>
          rw [q] at e1'
          cases e1'
        | some n =>
          rw [q] at e1'
          have e4 : (if n = z then ("%" : Str) else n) = y := Option.some.inj e1'
          by_cases hn : n = z
          · rw [if_pos hn] at e4
            rw [← e4, hz] at k
            cases k
          · rw [if_neg hn] at e4
            rw [e4]
      obtain ⟨m, hn, hl⟩ := I.loc
      have vis : Vis X.env.scope y := (L.free _ (PySem.mem_of_lookup k) rfl).elim (fun q => .inr (.inl q)) fun q => .inr (.inr q)
      obtain ⟨w', r, q⟩ := hl i y v eN e2 vis
      obtain ⟨cc2, h2⟩ := there k
      refine ⟨w', r, .inr ⟨.inr k, cc2, h2, ?_⟩⟩
      have cc1 := back h2
      rcases q with ⟨k', _⟩ | ⟨_, c3, e', q3⟩
      · have k' : X.env.scope.names.lookup y = some .local := k'
        rcases L.free _ (PySem.mem_of_lookup k) rfl with kk2 | kk2 <;> rw [show X.env.scope.names.lookup y = _ from kk2] at k' <;> cases k'
      · rw [cc1] at e'
        cases e'
        exact cellK (I.freeC y _ cc1) q3
  case cell =>
    obtain ⟨w', q⟩ := I.cell y c (back e)
    exact ⟨w', cellK (I.freeC y c (back e)) q⟩
  case freeC =>
    obtain ⟨v, o, ho, _⟩ := I.cell y c (back e)
    exact un.free c o ho (I.freeC y c (back e)) List.not_mem_nil
  case len =>
    show σ.length = (hideN z X.N).length
    unfold hideN
    rw [List.length_map]
    exact I.len
end
end Kx
namespace Kx
open PySem PySem.Spec PyProof.Rows L2 SX LamX
section
variable {X : Cx} {pn0 : List (Addr × Obj)} {σ : L2.St} {Hm : Hp} {st : Shared}
/-- how the lambda's one default binds -/
def BindD (params : Arguments) (body : Expr) (scp : Scope) (z : Str) : Prop := ∀ (q : Str) (cl : List (Str × Addr)) (t : Addr) (doc pm cv ctv : Value) (tk : Tok), ∃ k,
  bindArgs (PySem.W.kdv_fn "<lambda>" q params (.expr body) scp cl (.ref t) doc pm cv ctv) ⟨[], []⟩ = seqItems? (.ref t) >>= k ∧ k (some #[.int 0 tk]) = pure [(z, .int 0 tk)]
theorem pe_actD {CXg : CXT} {Eg : XK} {Ng : List Str} {qg : Str} {sg : Scope} {g f c' t : Addr} {tk : Tok} {cdg doc pm ctv : Value} {params : Arguments} {body : Expr} {scp : Scope} {z : Str} {k i : Nat} {a : Str} {pn : List (Addr × Obj)} {xe : Value → Shared → Prop} {W : WX} {E : XK} {tb : TE} {p1 p2 : Pos}
    (I : Inv X pn0 σ Hm st) (L : LamP X.env.scope scp z) (hz : scp.names.lookup ("%" : Str) = none)
    (ht : st.heap.get? t = some (PySem.W.kdv_tup [.int 0 tk])) (htn : Hm t = none) (htr : t ∉ frs X.stack)
    (hf : st.heap.get? f = some (lamObj X params body scp (.ref t) doc pm c' ctv)) (hfn : Hm f = none) (hfr : f ∉ frs X.stack) (hbind : BindD params body scp z)
    (tk' : Takes ((cxOf CXg X.prog X.w X.K X.mg X.base Ng qg sg g cdg X.A X.stack st Hm Eg).tr pn xe) W) (hW : ∀ cls d σ' H', E cls d H' → W cls d σ' H') (hr : Room (k + 1) (X.A.deeper (envOfC qg sg st.heap.objs.size g cdg)))
    (hbody : ∀ (A : Around) (outer : List Env) (st : Shared) (Hm : Hp), Room k (A.deeper (lamEnv X scp st.heap.objs.size f c')) → PE (lamCxD X A outer st Hm E scp z f c') body tb)
    (ixN1 : Ng[i]? = some a) (visN : Vis sg a) (dbgN : (a == ("__debug__" : Str)) = false := by decide) (clsN : (a == ("__classdict__" : Str)) = false := by decide) :
    PE ((cxOf CXg X.prog X.w X.K X.mg X.base Ng qg sg g cdg X.A X.stack st Hm Eg).tr pn xe) (.Call (.Name a p1) [] [] p2)
      (fun σZ HZ Q => σZ[i]? = some (some (.ref f)) ∧ HZ c' = some (CodeO c' (lamQ X)) ∧ tb σ HZ Q) := by
  refine ⟨fun pnZ tZ σZ HZ Q IZ h => ?_⟩
  obtain ⟨hs, hc, hq⟩ := h
  refine wpAny_Call_Name_kw (thn ((pe_var (pos := p1) (i := i) ixN1 visN dbgN clsN).run pnZ tZ σZ HZ (fun v H1 => v = .ref f ∧ H1 = HZ) IZ ⟨.ref f, hs, rfl, rfl⟩) fun u s1 hh => ?_)
  obtain ⟨v, H1, I1, r1, rfl, rfl⟩ := hh
  obtain rfl : u = Value.ref f := r1
  have none_ex : ∀ {b : Addr}, b ∉ ([] : List Addr) := fun {b} => List.not_mem_nil
  have f1 := I1.base.keep f _ hf hfn hfr none_ex
  have t1 := I1.base.keep t _ ht htn htr none_ex
  refine PySem.W.callWith_F0 ⟨_, _, _, _, f1⟩ ?_
  have un : Un (frs X.stack) [] Hm H1 st.heap s1.heap := I1.base
  obtain ⟨⟨oc, vs, tq, e1, e2, e3⟩, _, _⟩ := I1.hok c' _ hc
  have run : codeAny (model X.prog X.w) (X.A.deeper (envOfC qg sg st.heap.objs.size g cdg)) (.call (.ref f) ⟨[], []⟩) (CR (L2.CX X.prog X.w) (envOfC qg sg st.heap.objs.size g cdg :: X.stack) X.prog X.w H1 s1 Q E) s1 := by
    refine PySem.W.kla_callFunE hr.depth f1 rfl L.co L.gen rfl ⟨c', oc, vs, tq, rfl, e1, e2, e3⟩ ?_
    obtain ⟨k2, b1, b2⟩ := hbind (lamQ X) (cloFrom X.env.cells scp.names []) t doc pm (.ref c') ctv tk
    refine BindsTo.of_defaults rfl t1 rfl b1 b2 _ _ _ _ ?_
    refine wpAny_newFunctionEnv (fun y hy => (L.own y hy).1) (fun y hy => ?_) (fun h₁ hns sbt => ⟨I1.nolimit.fresh _ sbt, ?_⟩) L.kind
    · obtain rfl := List.mem_singleton.mp hy
      exact L.par
    show codeAny _ _ (.expr body (lamEnv X scp s1.heap.objs.size f c')) _ _
    have kpt : ∀ b o, s1.heap.get? b = some o → h₁.get? b = some o := fun b o e => sbt.extBut b o (Nat.ne_of_lt (Heap.lt_size e)) (Heap.get?_push_of_some _ e)
    have J := lam_startD (E := E) (f := f) (c' := c') (tk := s1.toks + 1) I L hz I1.env0 hr.hd un hns kpt
    refine PySem.W.kla_codeExpr (wpAny_mono ((hbody _ _ s1 H1 (hr.deeper _)).run [] _ _ H1 Q J hq) (fun v s' q => ?_) fun _ _ q => q)
    obtain ⟨w', H', J', rv, q⟩ := q
    exact ⟨w', H', J'.os, J'.bare, J'.base, J'.hok, rv, q⟩
  have pass : Passes (L2.CX X.prog X.w) ((cxOf CXg X.prog X.w X.K X.mg X.base Ng qg sg g cdg X.A X.stack st Hm Eg).tr pn xe) E := passes_call tk' hW
  refine wpAny_call (codeAny_mono run fun r s' q => ?_)
  match r, q with
  | .error e, q => exact pass pnZ σZ H1 s1 e s' I1 q
  | .ok (.ret u), q => exact I1.after q
  | .ok .next, q => exact False.elim q
  | .ok .brk, q => exact False.elim q
  | .ok .cont, q => exact False.elim q
/-- x(lambda z=0: body) -/
theorem pe_lamcallD {T : List (Addr × Str)} {TT : (XK → Hp → VK → Prop) → Hp → VK → Prop} {x a z : Str} {g c P : Addr} {k : Nat} {pg : Arguments} {bg : List Stmt} {sg : Scope} {dV kV doc pm cdw ct oc : Value} {an od : Option Addr} {slg : Array (Option Value)} {Ng : List Str}
    {params : Arguments} {body : Expr} {scp : Scope} {t : XK → TE} {p lps pos cp : Pos} {j : Nat} (hg : Gl X x) (mgx : X.mg x = some (.ref g)) (hk : PySem.W.keepIn X.K (.ref g) = true)
    (lkg : X.K.lookup g = some ⟨oc, od, .func (PySem.W.fnOf x x pg bg sg dV kV doc pm an cdw ct), slg⟩) (cdg2 : PySem.W.codeIn X.K cdw x = true) (bdg : L2.Binds X.K (PySem.W.fnOf x x pg bg sg dV kV doc pm an cdw ct) [a] []) (Sg : FnScope Ng [a] sg) (hNg : Ng[0]? = some a) (hva : Vis sg a)
    (hG : GivesTo X Ng x sg g cdw bg a (lamQ X) TT) (TB : TabB X.base X.mg c P) (hcode : X.env.code = .ref c) (hmT : (P, lamQ X) ∈ T) (hu : ∀ p ∈ T, p.1 = P → p.2 = lamQ X) (hr : Room (k + 2) X.A)
    (L : LamP X.env.scope scp z) (hz : scp.names.lookup ("%" : Str) = none) (hp : params.defaults = [.Constant (.int 0) j cp]) (hkw : params.kw_defaults = []) (hbind : BindD params body scp z)
    (hbody : ∀ (A : Around) (outer : List Env) (st : Shared) (Hm : Hp) (E : XK) (f c' : Addr), Room k (A.deeper (lamEnv X scp st.heap.objs.size f c')) → PE (lamCxD X A outer st Hm E scp z f c') body (t E))
    (dbgX : (x == ("__debug__" : Str)) = false := by decide) (dbgN : (a == ("__debug__" : Str)) = false := by decide) (clsN : (a == ("__classdict__" : Str)) = false := by decide) :
    PE X (.Call (.Name x p) [.Lambda params body scp lps] [] pos) (tLam T TT t) := by
  refine ⟨fun pn0 st σ Hm Q I h => ?_⟩
  obtain ⟨hT, hq⟩ := h
  refine wpAny_Call_Name_kw (ld_glob I hg mgx ?_ dbgX)
  refine PySem.W.callWith_K (h₀ := X.base) I.ok.mod.kin hk ?_ (by rfl) (by rfl)
  show wpAny _ _ (spliced ((false, eval (.Lambda params body scp lps) X.env) :: backTo pos (starEach [] X.env))) _ _ st
  refine Calls.spliced_cons (lam_makeD I TB hcode hmT hu hT (L.has I.ok) hp hkw ?_)
  intro tt f c' tk doc' pm' ctv H1 s' I1 eN T1 ht nt ot hf nf of_ hco
  refine Calls.spliced_nil ⟨I1.kIn, ?_⟩
  have called : codeAny (model X.prog X.w) X.A (.call (.ref g) ⟨[.ref f], []⟩) (CR C8.CX0 X.stack X.prog X.w H1 s' Q C8.E0) s' := by
    refine run_ofS (N := Ng) (ps := [a]) (us := [.ref f]) (vs := [.ref f]) lkg cdg2 Sg hr I1.env0 (bdg s' [.ref f] I1.kIn rfl) (.cons rfl .nil) rfl fun hr' => ?_
    obtain ⟨t', d', q'⟩ := hG f c' s' H1 Q (fun E H' Q' => t E σ H' Q') (fun W pn xe E p1 p2 tk2 hW => pe_actD (i := 0) I1 L hz ht nt ot hf nf of_ hbind tk2 hW hr' (fun A outer st Hm hr2 => hbody A outer st Hm E f c' hr2) hNg hva dbgN clsN) hco (hq H1 eN T1)
    exact ⟨t', d'.nox, q'⟩
  refine wpAny_call (codeAny_mono called fun r s2 q => ?_)
  match r, q with
  | .error e, q => exact (show False from q).elim
  | .ok (.ret u), q => exact I1.after q
  | .ok .next, q => exact False.elim q
  | .ok .brk, q => exact False.elim q
  | .ok .cont, q => exact False.elim q
end
end Kx
namespace Kx
open PySem PySem.Spec PyProof.Rows L2 SX LamX
/-! ### the law's own call: guards told, tables of code objects known -/
section
variable {P : Program} {w : World} {K : PySem.W.Frag} {mg mb : Str → Option Value} {k : Nat} {fa a : Addr} {fd : FuncData} {x : Str} {sp : Sp} {s : Shared} {vs : List Value} {ns : List Int} {cs : List (Addr × Addr)}
abbrev tab0 : Obj := { cls := .none, data := .fields #[] }
abbrev scriptObj (vs : List Value) : Obj := { cls := .type "list", data := .seq vs.toArray }
/-- what is tracked when the law begins: the script, perhaps, and the tables -/
inductive Tr (cs : List (Addr × Addr)) (K : PySem.W.Frag) (a : Addr) (b : Addr) (u : HO) : Prop where
  | script (o : Obj) (xs : List V) (e : b = a) (k : K.lookup a = none) (h : u = .frz o (.lst xs))
  | table (p : Addr × Addr) (m : p ∈ cs) (e : b = p.2) (h : u = .tbl #[])
theorem lawT_of (KX : K.In s.heap) (G : s.heap.Ns mainGlobals mg) (B : s.heap.Ns builtinsNs mb) (BB : ∀ y : Str, y ≠ "__name__" → mb y = bootBuiltins y) (NL : s.heap.NoLimit) (g0 : s.gens = #[])
    (hT : ∀ p ∈ cs, s.heap.get? p.2 = some tab0 ∧ K.lookup p.2 = none ∧ PySem.W.CodeHd s.heap p.1 p.2)
    (bm : ∃ (m : Addr) (ob : Obj), mg "__builtins__" = some (.ref m) ∧ m ≠ builtinsNs ∧ s.heap.get? m = some ob ∧ ob.cls = .type "module" ∧ ob.dict = some builtinsNs ∧ ob.data = .plain)
    (ha : s.heap.get? a = some (scriptObj vs)) (hr : Room k callerA) (F : ∀ base : Heap, K.In base → base.Ns mainGlobals mg → (∀ p ∈ cs, TabB base mg p.1 p.2) → FnG P w K mg base CX0 k fa fd [x] sp)
    (bd : ∀ (t : Shared) (u : Value), BindsTo t fd ⟨[u], []⟩ [(x, u)]) (H : Hp) (tr : ∀ b u, H b = some u → Tr cs K a b u) (ok : HOk P w H s.heap) (all : ∀ p ∈ cs, H p.2 = some (.tbl #[]))
    (pr : sp [.ref a] H (fun v _ => v = .bl true) fun _ _ _ => False) : codeAny (model P w) callerA (.call (.ref fa) ⟨[.ref a], []⟩) (LawEnd s) s := by
  have stay : ∀ {b : Addr} {o : Obj}, s.heap.get? b = some o → H b = none → (hidT s.heap H).get? b = some o := fun e n => hidT_get e n
  -- what is neither a list nor an empty table is not tracked
  have off : ∀ {b : Addr} {o : Obj}, s.heap.get? b = some o → (∀ l n, o.data ≠ .seq l n) → o.data ≠ .fields #[] → H b = none := by
    intro b o e h1 h2
    cases q : H b with
    | none => rfl
    | some u =>
      exfalso
      cases tr b u q with
      | script ob xs eb _ _ =>
        rw [eb, ha] at e
        cases e
        exact h1 _ _ rfl
      | table p m eb _ =>
        rw [eb, (hT p m).1] at e
        cases e
        exact h2 rfl
  have nsK : ∀ {b : Addr} {m : Str → Option Value}, s.heap.Ns b m → (hidT s.heap H).Ns b m := by
    rintro b m ⟨o, es, ep, e, d, r⟩
    exact ⟨o, es, ep, stay e (off e (fun l n z => by rw [d] at z; cases z) (fun z => by rw [d] at z; cases z)), d, r⟩
  have Kb : K.In (hidT s.heap H) := by
    intro b o e
    refine stay (KX b o e) ?_
    cases q : H b with
    | none => rfl
    | some u =>
      exfalso
      cases tr b u q with
      | script ob xs eb kn _ =>
        rw [eb, kn] at e
        cases e
      | table p m eb _ =>
        rw [eb, (hT p m).2.1] at e
        cases e
  obtain ⟨ml, l1, l2⟩ := NL
  have TB : ∀ p ∈ cs, TabB (hidT s.heap H) mg p.1 p.2 := by
    intro p hp
    obtain ⟨t0, _, cd⟩ := hT p hp
    refine { code := ?_, bm := ?_, gP := ?_ }
    · obtain ⟨o, us, fl, tf, fg, tg, iF, tx, tt, e1, r1, r2, r3, r⟩ := cd
      refine ⟨o, us, fl, tf, fg, tg, iF, tx, tt, stay e1 (off e1 (fun l n z => by rw [r2] at z; cases z) fun z => ?_), r1, r2, r3, r⟩
      rw [r2] at z
      cases z
      simp at r3
    · obtain ⟨m, ob, b1, b2, b3, b4, b5, b6⟩ := bm
      have pl : ∀ d : Data, d = .plain → (∀ l n, d ≠ .seq l n) ∧ d ≠ .fields #[] := by
        rintro d rfl
        exact ⟨fun l n z => (by cases z), fun z => (by cases z)⟩
      refine ⟨m, ob, b1, b2, fun q => ?_, fun q => ?_, stay b3 (off b3 (pl _ b6).1 (pl _ b6).2), b4, b5, b6⟩
      · obtain ⟨o, es, ep, e, hd, _⟩ := G
        rw [q, e] at b3
        cases b3
        rw [hd] at b6
        cases b6
      · rw [q, t0] at b3
        cases b3
        cases b6
    · intro z
      obtain ⟨o, es, ep, e, hd, _⟩ := G
      rw [z, t0] at e
      cases e
      cases hd
  have E0 : Env0 P w K mg (hidT s.heap H) callerA [] s H :=
    { frames := rfl
      mod := { kin := Kb, glob := nsK G, blt := ⟨mb, nsK B, BB⟩, nolimit := ⟨ml, nsK l1, l2⟩ }
      bs := fun b o e => of_hidT e
      bsz := Nat.le_of_eq (hidT_size _ _)
      funs := trivial
      frf := fun b hb => absurd hb (List.not_mem_nil)
      hok := ok
      bare := .of_eq g0 }
  refine codeAny_mono ((F _ Kb (nsK G) TB).go callerA [] s H ⟨[.ref a], []⟩ [.ref a] [.ref a] _ _ rfl hr E0 (bd s (.ref a)) (.cons rfl .nil) pr) ?_
  intro r t h
  match r, h with
  | .error e, h =>
    exact (show False from h).elim
  | .ok .next, h => exact False.elim h
  | .ok .brk, h => exact False.elim h
  | .ok .cont, h => exact False.elim h
  | .ok (.ret u), h =>
    obtain ⟨v, H', h1, h2, un, ok', rv, rfl⟩ := h
    cases rv
    have grown : ∀ p ∈ cs, ∃ more : Array Value, t.heap.get? p.2 = some { cls := .none, data := .fields more } := by
      intro p hp
      obtain ⟨more, q⟩ := un.tbls p.2 #[] (all p hp)
      exact ⟨_, ok' p.2 _ q⟩
    have kept : ∀ b o, (∀ p ∈ cs, b ≠ p.2) → s.heap.get? b = some o → t.heap.get? b = some o := by
      intro b o nb e
      cases q : H b with
      | none => exact un.keep b o e q List.not_mem_nil List.not_mem_nil
      | some u =>
        cases tr b u q with
        | script ob xs eb _ eu =>
          rw [eu] at q
          have e1 := (ok b _ q).1
          have e2 := (ok' b _ (un.frzs b ob _ q)).1
          rw [e] at e1
          cases e1
          exact e2
        | table p m eb _ => exact absurd eb (nb p m)
    refine ⟨rfl, ⟨fun b o e => ?_, fun b o e => ?_⟩, h1, h2⟩
    · by_cases hb : ∃ p ∈ cs, b = p.2
      · obtain ⟨p, hp, rfl⟩ := hb
        obtain ⟨t0, _, cd⟩ := hT p hp
        obtain ⟨more, q⟩ := grown p hp
        rw [t0] at e
        cases e
        exact .inr (.inl ⟨(cd.tab t0).isCodeTable, rfl, #[], more, rfl, by rw [Array.empty_append]; exact q⟩)
      · exact .inl (kept b o (fun p hp z => hb ⟨p, hp, z⟩) e)
    · by_cases hb : ∃ p ∈ cs, b = p.2
      · obtain ⟨p, hp, rfl⟩ := hb
        obtain ⟨more, q⟩ := grown p hp
        exact ⟨_, q⟩
      · exact ⟨o, kept b o (fun p hp z => hb ⟨p, hp, z⟩) e⟩
theorem lawT (KX : K.In s.heap) (G : s.heap.Ns mainGlobals mg) (B : s.heap.Ns builtinsNs mb) (BB : ∀ y : Str, y ≠ "__name__" → mb y = bootBuiltins y) (NL : s.heap.NoLimit) (g0 : s.gens = #[])
    (hT : ∀ p ∈ cs, s.heap.get? p.2 = some tab0 ∧ K.lookup p.2 = none ∧ PySem.W.CodeHd s.heap p.1 p.2)
    (bm : ∃ (m : Addr) (ob : Obj), mg "__builtins__" = some (.ref m) ∧ m ≠ builtinsNs ∧ s.heap.get? m = some ob ∧ ob.cls = .type "module" ∧ ob.dict = some builtinsNs ∧ ob.data = .plain)
    (ha : s.heap.get? a = some (scriptObj vs)) (hi : IntsAre vs ns) (hl : ns.length ≤ sizeLine) (hr : Room k callerA)
    (F : ∀ base : Heap, K.In base → base.Ns mainGlobals mg → (∀ p ∈ cs, TabB base mg p.1 p.2) → FnG P w K mg base CX0 k fa fd [x] sp) (bd : ∀ (t : Shared) (u : Value), BindsTo t fd ⟨[u], []⟩ [(x, u)])
    (pr : ∀ H : Hp, (∀ p ∈ cs, H p.2 = some (.tbl #[])) → SqL K H a (ns.map V.int) → (∀ b u, H b = some u → Tr cs K a b u) → sp [.ref a] H (fun v _ => v = .bl true) fun _ _ _ => False) :
    codeAny (model P w) callerA (.call (.ref fa) ⟨[.ref a], []⟩) (LawEnd s) s := by
  have rv := vals_ints hi
  have na : ∀ p ∈ cs, p.2 ≠ a := by
    intro p hp z
    have e := (hT p hp).1
    rw [z, ha] at e
    cases e
  let tabs : Hp := fun b => if b ∈ cs.map (·.2) then some (.tbl #[]) else none
  have isT : ∀ p ∈ cs, tabs p.2 = some (.tbl #[]) := fun p hp => if_pos (List.mem_map.mpr ⟨p, hp, rfl⟩)
  have ofT : ∀ b u, tabs b = some u → ∃ p ∈ cs, b = p.2 ∧ u = .tbl #[] := by
    intro b u q
    by_cases hb : b ∈ cs.map (·.2)
    · obtain ⟨p, hp, e⟩ := List.mem_map.mp hb
      have q' : some (HO.tbl #[]) = some u := (if_pos hb).symm.trans q
      exact ⟨p, hp, e.symm, (Option.some.inj q').symm⟩
    · have q' : (none : Option HO) = some u := (if_neg hb).symm.trans q
      cases q'
  cases hk : K.lookup a with
  | some o =>
    have e := KX a o hk
    rw [ha] at e
    cases e
    have tr : ∀ b u, tabs b = some u → Tr cs K a b u := fun b u q => by
      obtain ⟨p, hp, e1, e2⟩ := ofT b u q
      exact .table p hp e1 e2
    refine lawT_of KX G B BB NL g0 hT bm ha hr F bd tabs tr (fun b u q => ?_) isT (pr tabs isT (.inr ⟨_, vs.toArray, _, hk, rfl, rfl, rfl, ?_, by simpa using rv⟩) tr)
    · obtain ⟨p, hp, rfl, rfl⟩ := ofT b u q
      exact (hT p hp).1
    · rw [List.size_toArray, hi.length]
      exact hl
  | none =>
    let Ha : Hp := fun b => if b = a then some (.frz (scriptObj vs) (.lst (ns.map V.int))) else tabs b
    have at_a : Ha a = some (.frz (scriptObj vs) (.lst (ns.map V.int))) := if_pos rfl
    have but : ∀ b, b ≠ a → Ha b = tabs b := fun b hb => if_neg hb
    have tr : ∀ b u, Ha b = some u → Tr cs K a b u := by
      intro b u q
      by_cases hb : b = a
      · rw [hb, at_a] at q
        exact .script _ _ hb hk (Option.some.inj q).symm
      · rw [but b hb] at q
        obtain ⟨p, hp, e1, e2⟩ := ofT b u q
        exact .table p hp e1 e2
    have isH : ∀ p ∈ cs, Ha p.2 = some (.tbl #[]) := fun p hp => (but _ (na p hp)).trans (isT p hp)
    refine lawT_of KX G B BB NL g0 hT bm ha hr F bd Ha tr (fun b u q => ?_) isH (pr Ha isH (.inl (.inr ⟨scriptObj vs, at_a⟩)) tr)
    by_cases hb : b = a
    · subst hb
      rw [at_a] at q
      cases q
      exact ⟨ha, by rw [List.length_map]; exact hl, vs, _, rv, ha⟩
    · rw [but b hb] at q
      obtain ⟨p, hp, rfl, rfl⟩ := ofT b u q
      exact (hT p hp).1
end
open PySem.W in
/-- the goal that the head leaves; cs: the defs that make lambdas, each with its code object and its table -/
theorem walkT {l : OpenLaw} {n k : Nat} {q : Program} {loose : List Str} {XP : (Str → Option Value) → Heap → Prop} {YP : World → Heap → Prop} {d : DefRec} {K : Params → Frag} {sp : Frag → Sp} {x : Str} {cs : Params → List (Str × Addr × Addr)}
    (hn : l.most = some n) (hz : n ≤ sizeLine) (h0 : d.params.defaults = []) (hr : Room k callerA) (hY : ∀ (w : World) (h : Heap), YP w h → (K w.params).In h)
    (hc : ∀ p, ∀ e ∈ cs p, (∃ r, (recsOf q).find? (fun r => r.name == e.1) = some r) ∧ tabIn (K p) e.1 = some e.2 ∧ (K p).lookup e.2.2 = none)
    (F : ∀ (w : World) (mg : Str → Option Value) (fa : Addr) (h : Heap), (K w.params).In h → h.Ns mainGlobals mg → mg d.name = some (.ref fa) → ∃ fd : FuncData,
      (∀ (t : Shared) (u : Value), BindsTo t fd ⟨[u], []⟩ [(x, u)]) ∧ ∀ base : Heap, (K w.params).In base → base.Ns mainGlobals mg → (∀ e ∈ cs w.params, TabB base mg e.2.1 e.2.2) → FnG l.prog w (K w.params) mg base CX0 k fa fd [x] (sp (K w.params)))
    (pr : ∀ (p : Params) (H : Hp) (a : Addr) (ns : List Int), ns.length ≤ n → (∀ e ∈ cs p, H e.2.2 = some (.tbl #[])) → SqL (K p) H a (ns.map V.int) → (∀ b u, H b = some u → Tr ((cs p).map (·.2)) (K p) a b u) → sp (K p) [.ref a] H (fun v _ => v = .bl true) fun _ _ _ => False) :
    WalkO q loose XP YP l.row.toRowW d [] (fun f us => PySem.call f us) := by
  refine Att.attach_call hn h0 ?_
  intro w s₀ s₁ mg mb fa o pm cd doc a us ns G Y ho hd hcd hm hobj hints hlen hg
  have KX := hY w _ Y
  obtain ⟨fd, hb, hF⟩ := F w mg fa _ KX G.T.g hm
  have lift : ∀ {φ : Addr × Addr → Prop}, (∀ p ∈ (cs w.params).map (·.2), φ p) ↔ ∀ e ∈ cs w.params, φ e.2 := by
    intro φ
    constructor
    · intro h e he
      exact h _ (List.mem_map.mpr ⟨e, he, rfl⟩)
    · intro h p hp
      obtain ⟨e, he, rfl⟩ := List.mem_map.mp hp
      exact h e he
  refine lawT (cs := (cs w.params).map (·.2)) KX G.T.g G.T.b G.T.builtins G.T.nolimit hg (lift.mpr fun e he => ?_) G.T.bmain hobj hints (Nat.le_trans hlen hz) hr (fun base h1 h2 h3 => hF base h1 h2 (lift.mp h3)) hb fun H h1 h2 h3 => pr _ H a ns hlen (lift.mp h1) h2 h3
  obtain ⟨⟨r, e1⟩, e2, e3⟩ := hc w.params e he
  obtain ⟨t1, t2⟩ := tab_of G.T KX e1 e2
  exact ⟨t2, e3, t1⟩
end Kx
namespace Kx
open PySem PySem.Spec PyProof.Rows L2 SX LamX
section
variable {X : Cx}
/-! ### repr of data -/
def rRepr (K : PySem.W.Frag) : List V → Hp → VK → Prop := fun xs H Q => ∃ (a : Addr) (d : PyData), xs = [.ref a] ∧ Dp K H (.ref a) d ∧ d.showable = true ∧ d.hasDict = false ∧ d.depth ≤ 60 ∧ d.shown.length ≤ sizeLine ∧ Q (.str d.shown) H
theorem call_reprD (hg : X.A.guards = some []) (hu : X.A.units + 64 < cLine) : CallR X (.builtin "repr") (rRepr X.K) := by
  intro pins s σ H xs us Q I r h
  obtain ⟨a, d, rfl, hd, hs, hn, hp, hl, q⟩ := h
  cases r with
  | cons r0 rr =>
    cases rr
    obtain ⟨as, rd⟩ := Dp.reads I d _ _ hd r0
    cases r0
    refine repr_of_reads' rd hs (PyData.noDict_hsm hn) hg (by omega) (fun _ _ e => e) (fun h' u tk k => ?_) hl
    exact ⟨.str d.shown, H, I.kept k, ⟨u, rfl⟩, q⟩
/-! ### f(k = v, ..): keywords alone -/
theorem pe_callK0 {CX : CXT} {k : Nat} {f : Addr} {fd : FuncData} {ps ks : List Str} {sp : Sp} {E : XK} {x : Str} {p pos : Pos} {kws : List Keyword} {tk : TA} {g : List Value → List Value → List Value} {gV : List V → List V → List V}
    (F : FnOk X.prog X.w X.K X.mg X.base CX k f fd ps sp) (hr : Room k X.A) (hg : Gl X x) (hm : X.mg x = some (.ref f)) (hk : PySem.W.keepIn X.K (.ref f) = true) (hb : KBinds X.K fd ps ks g gV) (hx : Passes CX X E) (hkw : PK X kws tk)
    (hall : (backToKw pos (keywordEach kws X.env)).all (·.1.isSome) = true := by rfl) (hks : (backToKw pos (keywordEach kws X.env)).filterMap (·.1) = ks := by rfl) (hdb : (x == ("__debug__" : Str)) = false := by decide)
    (hpl : ((backTo pos (starEach [] X.env)).any (·.1) || (backToKw pos (keywordEach kws X.env)).any (·.1.isNone)) = false := by rfl) : PE X (.Call (.Name x p) [] kws pos) (tCallK sp gV E tNil tk) := by
  refine ⟨fun pins s σ H Q I h => ?_⟩
  apply wpAny_Call_Name_kw
  refine ld_glob I hg hm ?_ hdb
  refine PySem.W.callWith_KW0 (h₀ := X.base) I.ok.mod.kin hk hall (thn (hkw.run pos pins s σ H _ I h) fun ws s2 hh => ?_) hpl
  obtain ⟨zs, H2, I2, rz, q2⟩ := hh
  refine ⟨I2.kIn, ?_⟩
  rw [hks]
  exact run_fnk (us := []) F hr hb hx I2 .nil rz q2
/-! ### an exception that a name holds -/
/-- isinstance of it -/
def rIsX (K : PySem.W.Frag) : List V → Hp → VK → Prop := fun xs H Q => ∃ (a D dd : Addr) (fs : List (Str × V)) (c : V) (cv : Value) (b : Bool), xs = [.ref a, c] ∧ H a = some (exT a (.ref D) (some dd)) ∧ H dd = some (.xd fs) ∧ ExcC K D ∧
  (∀ u, RelV c u → u = cv) ∧ PySem.W.kitOne K (.ref D) cv = some b ∧ Q (.bl b) H
theorem exT_at {P : Program} {w : World} {H : Hp} {h : Heap} {a : Addr} {cls : Value} {d : Option Addr} (hok : HOk P w H h) (e : H a = some (exT a cls d)) : ∃ (oe : Obj) (vs : Array Value), h.get? a = some oe ∧ Zc cls d oe ∧ oe.data = .fields vs := by
  have q : ObjOk P w H h a (exT a cls d) := hok a _ e
  exact q.1
theorem inst_at {pins : List (Addr × Obj)} {σ : L2.St} {H : Hp} {s : Shared} {a D dd : Addr} {fs : List (Str × V)} (I : Inv X pins σ H s) (e : H a = some (exT a (.ref D) (some dd))) (ed : H dd = some (.xd fs)) :
    ∃ (oe od : Obj) (mA : Str → Option Value), PySem.W.InstAt s.heap a oe D (some od) ∧ (∀ n, PySem.W.lookIn n od = some (mA n)) ∧ ∀ n, RelO (fs.lookup n) (mA n) := by
  obtain ⟨oe, vs, h1, h2, h3⟩ := exT_at I.hok e
  have hx : ObjOk X.prog X.w H s.heap dd (.xd fs) := I.hok dd _ ed
  obtain ⟨mA, hns, hr⟩ := hx
  obtain ⟨od, ho, hl⟩ := lookIn_ns hns
  refine ⟨oe, od, mA, { at_ := h1, cls := h2.1, no := ?_, dict := ?_ }, hl, hr⟩
  · unfold PySem.W.notCls
    rw [h3] <;> rfl
  · rw [h2.2]
    exact ho
theorem call_isX : CallR X (.builtin "isinstance") (rIsX X.K) := by
  intro pins s σ H xs us Q I r h
  obtain ⟨a, D, dd, fs, c, cv, b, rfl, e, ed, C, hc, hk, q⟩ := h
  obtain ⟨u1, u2, rfl, r1, r2⟩ := vals2 r
  obtain rfl : u1 = Value.ref a := r1
  obtain rfl := hc _ r2
  obtain ⟨oe, od, mA, J, _, _⟩ := inst_at I e ed
  have cls : (PySem.W.clsIn X.K D).isSome = true := by
    obtain ⟨cd, hcd, _⟩ := PySem.W.any_some C.hd
    rw [hcd]
    rfl
  exact PySem.W.kia_one (PySem.W.kitx_exc cls C.hg C.hk C.hs C.ha C.hn C.ht C.hm) I.kIn J hk (fun z => nomatch z) fun tk => ⟨.bl b, H, I.kept (t' := tk) fun _ _ z => z, rfl, q⟩
def rIsiX (K : PySem.W.Frag) : List V → Hp → VK → Prop := fun xs H Q => rIsi K xs H Q ∨ rIsX K xs H Q
theorem call_isiX : CallR X (.builtin "isinstance") (rIsiX X.K) := fun pins s σ H xs us Q I r h => h.elim (call_isi pins s σ H xs us Q I r) (call_isX pins s σ H xs us Q I r)
/-- e.n, e's value such an exception -/
def tXp (K : PySem.W.Frag) (n : Str) (te : TE) : TE := fun σ H Q => te σ H fun x H1 => ∃ (a D dd : Addr) (fs : List (Str × V)) (v : V), x = .ref a ∧ H1 a = some (exT a (.ref D) (some dd)) ∧ H1 dd = some (.xd fs) ∧ XfC K D ∧ PySem.W.findIn K (.ref D) n = some none ∧ fs.lookup n = some v ∧ Q v H1
theorem pe_xp {e : Expr} {te : TE} {n : Str} {pos : Pos} (he : PE X e te) (hb : attributeBase e n X.env (eval e X.env) = eval e X.env := by rfl) : PE X (.Attribute e n pos) (tXp X.K n te) := by
  refine ⟨fun pins s σ H Q I h => ?_⟩
  refine attr_of hb (thn (he.run pins s σ H _ I h) fun u s1 hh => ?_)
  obtain ⟨x, H1, I1, rx, a, D, dd, fs, v, rfl, e1, e2, T, hno, hl, q⟩ := hh
  obtain rfl : u = Value.ref a := rx
  obtain ⟨oe, od, mA, J, look, rel⟩ := inst_at I1 e1 e2
  obtain ⟨w, hw, rw'⟩ := RelO.some_of (v := v) (o := mA n) (by rw [← hl]; exact rel n)
  exact HandSPX.exc_get I1.kIn J T.ga T.gg T.exC (PySem.W.findObj_own T.hdC hno rfl (by rw [look, hw])) (handed_of rw') ⟨v, H1, I1.tok _, rw', q⟩
end
end Kx
namespace Kx
open PySem PySem.Spec PyProof.Rows L2 SX LamX
/-! ### an error class of the program: one field, part -/
structure Er (K : PySem.W.Frag) (mg : Str → Option Value) (x qual : Str) (st : Stmt) (base : Str) where
  C : Addr
  L : Addr
  fI : Addr
  fd : FuncData
  gC : mg x = some (.ref C)
  gL : mg base = some (.ref L)
  oex : OexC K C
  iC : PySem.W.findIn K (.ref C) "__init__" = some (some (.ref fI))
  tI : PySem.W.typeIn K (.ref fI) = some (.type "function")
  F : Fun K "__init__" qual st fI fd
  b : Binds K fd ["self", "part"] []
  np : PySem.W.findIn K (.ref C) "part" = some none
  exc : ExcC K C
  xf : XfC K C
  em : PySem.W.exmOne K (.ref C) (.ref L) = some true
/-- its making, out of what the top left -/
def er_mk {K : PySem.W.Frag} {h : Heap} {mg : Str → Option Value} (X : K.In h) (G : h.Ns mainGlobals mg) {x qual : Str} {st : Stmt} {base : Str} {C L fI N : Addr} {nm q : Str} {bs bm : List Value} {sn : List Str} {sub : List Value} {ab : Bool} {col : Option Bool} {dd : Option Addr} {m0 m1 m2 m3 m5 : Option Value}
    {od an : Option Addr} {sl : Array (Option Value)} {oc kV dc pm cd ct : Value} (aC : PySem.W.nsIn K mainGlobals x = some (some (.ref C))) (aL : PySem.W.nsIn K mainGlobals base = some (some (.ref L)))
    (xL : K.lookup C = some (excClassObj nm q C N bs bm true sn sub ab col dd m0 m1 m2 m3 m5 "ValueError.__new__")) (hbm : PySem.HandSPX.refsVE bm = true)
    (sa : PySem.W.findIn K (.ref C) "__setattr__" = some (some (.builtin "object.__setattr__"))) (eC : PySem.W.subIn K (.ref C) (.type "BaseException") = some true) (tC : PySem.W.typeIn K (.ref C) = some (.type "type")) (kC : PySem.W.keepIn K (.ref C) = true)
    (a1 : PySem.W.findIn K (.ref C) "__init__" = some (some (.ref fI))) (t1 : PySem.W.typeIn K (.ref fI) = some (.type "function"))
    (l1 : K.lookup fI = some ⟨oc, od, .func (PySem.W.fnOf "__init__" qual (defArgs st) (defBody st) (defScope st) .none kV dc pm an cd ct), sl⟩) (c1 : PySem.W.codeIn K cd qual = true) (k1 : PySem.W.keepIn K (.ref fI) = true)
    (b1 : ∀ (kV doc pm : Value) (an : Option Addr) (cdv ct : Value) (us : List Value), us.length = (["self", "part"] : List Str).length → bindArgs (PySem.W.fnOf "__init__" qual (defArgs st) (defBody st) (defScope st) .none kV doc pm an cdv ct) ⟨us, []⟩ = pure ((["self", "part"] : List Str).zip us))
    (nb : PySem.W.findIn K (.ref C) "part" = some none) (ga : PySem.W.findIn K (.ref C) "__getattribute__" = some (some (.builtin "BaseException.__getattribute__"))) (gg : PySem.W.findIn K (.ref C) "__getattr__" = some none) (hd : PySem.W.hasDictIn K C = true)
    (hc : PySem.W.findIn K (.ref C) "__class__" = some (some (.builtin "object.__class__"))) (hn : PySem.W.specialIn K (.builtin "object.__class__") "__get__" = some (some (.builtin "getset_descriptor.__get__"))) (ht : PySem.W.takesIn K (.builtin "object.__class__") = some true)
    (hm : PySem.W.mroIn K C (.type "object") = some true) (eL : PySem.W.subIn K (.ref L) (.type "BaseException") = some true) (dL : PySem.W.hasDictIn K L = true) (tL : PySem.W.typeIn K (.ref L) = some (.type "type")) (sCL : PySem.W.subIn K (.ref C) (.ref L) = some true) : Er K mg x qual st base where
  C := C
  L := L
  fI := fI
  fd := _
  gC := PySem.W.mg_of X G aC
  gL := PySem.W.mg_of X G aL
  oex := ⟨⟨nm, q, N, bs, bm, sn, sub, ab, col, dd, m0, m1, m2, m3, m5, xL, hbm⟩, sa, eC, tC, kC⟩
  iC := a1
  tI := t1
  F := fun_mk (st := st) l1 c1 k1
  b := (fun_mk (st := st) l1 c1 k1).binds (ps := ["self", "part"]) b1
  np := nb
  exc := ⟨ga, gg, eC, hd, hc, hn, ht, hm⟩
  xf := ⟨ga, gg, eC, hd⟩
  em := PySem.W.exm_ref eL dL tL sCL
theorem passF {X : Cx} : Passes (L2.CX X.prog X.w) X (fun _ _ _ => False) := fun _ _ _ _ _ _ _ z => by
  obtain ⟨_, _, _, _, _, _, _, _, _, _, _, _, f⟩ := z
  exact f.elim
/-- the promise of such an __init__: self.part = part -/
def sp_init (K : PySem.W.Frag) : Sp := fun vs H Q _ => ∃ (a C : Addr) (y : V), vs = [.ref a, y] ∧ OexC K C ∧ PySem.W.findIn K (.ref C) "part" = some none ∧ H a = some (exo a C none) ∧
  ∀ dx, H dx = none → dx ≠ a → Q .non (upd (upd H dx (exd dx [("part", y)])) a (exo a C (some dx)))
section
variable {P : Program} {w : World} {K : PySem.W.Frag} {mg : Str → Option Value} {base : Heap}
/-- the body of such an __init__ -/
def IsInit (st : Stmt) : Prop := ∃ p1 p2 p3 p4, defBody st = [.Assign [.Attribute (.Name "self" p1) "part" p2] (.Name "part" p3) p4] ∧ FnScope ["self", "part"] ["self", "part"] (defScope st) ∧ (defScope st).names.lookup ("self" : Str) = some .local ∧ (defScope st).names.lookup ("part" : Str) = some .local
theorem ok_init {x qual : Str} {st : Stmt} {bs : Str} (e : Er K mg x qual st bs) (h : IsInit st) : FnOk P w K mg base CX0 1 e.fI e.fd ["self", "part"] (sp_init K) := by
  obtain ⟨p1, p2, p3, p4, hb, sc, v1, v2⟩ := h
  refine e.F.ok sc (fun vs H Q E h => ?_) (fun cdv A outer s H vs Q E hr h => ?_)
  · obtain ⟨a, C, y, rfl, _⟩ := h
    rfl
  · obtain ⟨a, C, y, rfl, o, n, ha, q⟩ := h
    rw [hb]
    refine ⟨_, pss_one (ps_ost (pv 0 rfl (.inl v1)) (pv 1 rfl (.inl v2))), ?_⟩
    exact ⟨y, rfl, .ref a, rfl, a, C, rfl, o, n, .inl ⟨ha, q⟩⟩
end
/-! ### a choice of rules -/
section
variable {X : Cx}
theorem pi_either {tg it : Expr} {w1 w2 : TI} (h1 : PI X tg it w1) (h2 : PI X tg it w2) : PI X tg it (fun σ H R => w1 σ H R ∨ w2 σ H R) := ⟨fun pins s σ H R I h => h.elim (h1.run pins s σ H R I) (h2.run pins s σ H R I)⟩
theorem pe_either {e : Expr} {t1 t2 : TE} (h1 : PE X e t1) (h2 : PE X e t2) : PE X e (fun σ H Q => t1 σ H Q ∨ t2 σ H Q) := ⟨fun pins s σ H Q I h => h.elim (h1.run pins s σ H Q I) (h2.run pins s σ H Q I)⟩
theorem pi_seq {tg it : Expr} {tl : TE} (h : PE X it tl) : PI X tg it (fun σ H R => iList X.K tl σ H R ∨ iTup X.K tl σ H R) := pi_either (pi_list h) (pi_tup h)
end
end Kx
namespace Kx
open PySem PySem.Spec PyProof.Rows L2 SX LamX
theorem tyx_same {K : PySem.W.Frag} {H H' : Hp} {x : V} {n : String} (e : Same H H') (h : TyX K H x (.type n)) : TyX K H' x (.type n) := by
  cases h with
  | base b =>
    cases b with
    | non => exact .base .non
    | bl y => exact .base (.bl y)
    | int i => exact .base (.int i)
    | str z => exact .base (.str z)
    | flt z => exact .base (.flt z)
    | lst h => exact .base (.lst (e _ _ h))
    | frz h => exact .base (.frz (e _ _ h))
    | tup h => exact .base (.tup (e _ _ h))
    | dK h => exact .base (.dK (e _ _ h))
    | dT h => exact .base (.dT (e _ _ h))
  | byt b => exact .byt b
  | set h => exact .set (e _ _ h)
  | kList h c => exact .kList h c
  | kTuple h c => exact .kTuple h c
  | kDict h c => exact .kDict h c
  | fTuple h => exact .fTuple (e _ _ h)
  | fDict h => exact .fDict (e _ _ h)
/-! ### integers with bounds, of any value -/
def isIntV : V → Bool
  | .int _ => true
  | _ => false
/-- what the checks ask of a value's type -/
def HasInt (K : PySem.W.Frag) (H : Hp) (x : V) : Prop := ∃ (n : String) (a b : Bool), TyX K H x (.type n) ∧ kitB n "int" = some a ∧ kitB n "bool" = some b ∧ (a && !b) = isIntV x
theorem HasInt.same {K : PySem.W.Frag} {H H' : Hp} {x : V} (e : Same H H') (h : HasInt K H x) : HasInt K H' x := by
  obtain ⟨n, a, b, t, r⟩ := h
  exact ⟨n, a, b, tyx_same e t, r⟩
theorem hasInt_int {K : PySem.W.Frag} {H : Hp} (i : Int) : HasInt K H (.int i) := ⟨"int", true, false, .base (.int i), by decide +kernel, by decide +kernel, rfl⟩
theorem hasInt_bl {K : PySem.W.Frag} {H : Hp} (i : Bool) : HasInt K H (.bl i) := ⟨"bool", true, true, .base (.bl i), by decide +kernel, by decide +kernel, rfl⟩
theorem hasInt_str {K : PySem.W.Frag} {H : Hp} (i : Str) : HasInt K H (.str i) := ⟨"str", false, false, .base (.str i), by decide +kernel, by decide +kernel, rfl⟩
theorem hasInt_non {K : PySem.W.Frag} {H : Hp} : HasInt K H .non := ⟨"NoneType", false, false, .base .non, by decide +kernel, by decide +kernel, rfl⟩
theorem hasInt_lst {K : PySem.W.Frag} {H : Hp} {a : Addr} {xs : List V} (h : SqL K H a xs) : HasInt K H (.ref a) := ⟨"list", false, false, tyL h, by decide +kernel, by decide +kernel, rfl⟩
theorem hasInt_tup {K : PySem.W.Frag} {H : Hp} {a : Addr} {xs : List V} (h : SqT K H a xs) : HasInt K H (.ref a) := ⟨"tuple", false, false, tyT h, by decide +kernel, by decide +kernel, rfl⟩
/-- a bound: none, or an int -/
def bdV : Option Int → V
  | none => .non
  | some i => .int i
def loB (i : Int) : Option Int → Bool
  | none => true
  | some l => decide (l ≤ i)
def hiB (i : Int) : Option Int → Bool
  | none => true
  | some h => decide (i ≤ h)
def withinB (i : Int) (lo hi : Option Int) : Bool := loB i lo && hiB i hi
def withinV (x : V) (lo hi : Option Int) : Bool := match x with
  | .int i => withinB i lo hi
  | _ => false
end Kx
namespace Kx
open PySem PySem.Spec PyProof.Rows L2 SX LamX
/-! ### the draws' wheel: cells, how many were begun, what is left -/
def Wh (H : Hp) (a c : Addr) (n : Nat) : Prop := ∃ (cs : List Int) (t l : Int), H a = some (.lst [.ref c, .int t, .int l]) ∧ H c = some (.lst (cs.map V.int)) ∧ cs.length ≤ 60 ∧ 0 ≤ t ∧ t ≤ n
/-- all that was tracked, but for what stands at a, is as it was -/
def Mv (a : Addr) (H H' : Hp) : Prop := ∀ b o, b ≠ a → H b = some o → H' b = some o
theorem Mv.refl (a : Addr) (H : Hp) : Mv a H H := fun _ _ _ h => h
theorem Mv.trans {a : Addr} {H H1 H2 : Hp} (x : Mv a H H1) (y : Mv a H1 H2) : Mv a H H2 := fun b o n h => y b o n (x b o n h)
theorem Mv.of {a : Addr} {H H1 : Hp} (x : Same H H1) : Mv a H H1 := fun b o _ h => x b o h
theorem Mv.upd (a : Addr) (H : Hp) (o : HO) : Mv a H (upd H a o) := fun b p n h => by rw [upd_ne n]; exact h
theorem Mv.same {a : Addr} {H H1 : Hp} (x : Mv a H H1) (h : H a = none) : Same H H1 := fun b o e => x b o (fun z => by rw [z, h] at e; cases e) e
theorem Wh.lt {H : Hp} {a c : Addr} {n m : Nat} (h : Wh H a c n) (l : n ≤ m) : Wh H a c m := by
  obtain ⟨cs, t, l', h1, h2, h3, h4, h5⟩ := h
  exact ⟨cs, t, l', h1, h2, h3, h4, by omega⟩
theorem Wh.same {H H' : Hp} {a c : Addr} {n : Nat} (h : Wh H a c n) (e : Same H H') : Wh H' a c n := by
  obtain ⟨cs, t, l', h1, h2, h3⟩ := h
  exact ⟨cs, t, l', e _ _ h1, e _ _ h2, h3⟩
theorem wh_set {H : Hp} {a c : Addr} {cs : List Int} {t l : Int} {n : Nat} {u : List V} (h1 : H a = some (.lst u)) (h2 : H c = some (.lst (cs.map V.int))) (hac : a ≠ c) (h3 : cs.length ≤ 60) (h4 : 0 ≤ t) (h5 : t ≤ n) : Wh (upd H a (.lst [.ref c, .int t, .int l])) a c n :=
  ⟨cs, t, l, upd_same, by rw [upd_ne (fun e => hac e.symm)]; exact h2, h3, h4, h5⟩
theorem wh_ac {H : Hp} {a c : Addr} {cs : List Int} {t l : Int} (h1 : H a = some (.lst [.ref c, .int t, .int l])) (h2 : H c = some (.lst (cs.map V.int))) : a ≠ c := by
  intro e
  rw [← e, h1] at h2
  injection h2 with h2
  injection h2 with h2
  cases cs with
  | nil => cases h2
  | cons x xs => injection h2 with h2 _; cases h2
/-! ### data: lists that are laid, compared -/
theorem canLayAll_of : ∀ (ds : List PyData), (∀ d ∈ ds, d.canLay0 = true) → PyData.canLayAll0 ds = true
  | [], _ => rfl
  | d :: ds, h => by
    have h1 := h d (List.mem_cons_self ..)
    have h2 := canLayAll_of ds fun e m => h e (List.mem_cons_of_mem _ m)
    show (d.canLay0 && PyData.canLayAll0 ds) = true
    rw [h1, h2]
    rfl
theorem depthAll_of {k : Nat} : ∀ (ds : List PyData), (∀ d ∈ ds, d.depth ≤ k) → PyData.depthAll ds ≤ k
  | [], _ => Nat.zero_le _
  | d :: ds, h => by
    have h1 := h d (List.mem_cons_self ..)
    have h2 := depthAll_of ds fun e m => h e (List.mem_cons_of_mem _ m)
    show max d.depth (PyData.depthAll ds) ≤ k
    omega
/-- plain data of a depth -/
def Pl (k : Nat) (d : PyData) : Prop := d.canLay0 = true ∧ d.depth ≤ k
theorem Pl.lst {k : Nat} {ds : List PyData} (h : ∀ d ∈ ds, Pl k d) : Pl (k + 1) (.list ds) :=
  ⟨canLayAll_of ds fun d m => (h d m).1, Nat.succ_le_succ (depthAll_of ds fun d m => (h d m).2)⟩
theorem Pl.tup {k : Nat} {ds : List PyData} (h : ∀ d ∈ ds, Pl k d) : Pl (k + 1) (.tuple ds) :=
  ⟨canLayAll_of ds fun d m => (h d m).1, Nat.succ_le_succ (depthAll_of ds fun d m => (h d m).2)⟩
theorem Pl.shaped {k : Nat} {d : PyData} (h : Pl k d) (hk : k ≤ 64) : SeqAt.shaped d = true := by
  show (d.canLay0 && decide (d.depth ≤ 64)) = true
  rw [h.1, decide_eq_true (Nat.le_trans h.2 hk)]
  rfl
theorem pl_int (k : Nat) (i : Int) : Pl k (.int i) := ⟨rfl, Nat.zero_le _⟩
theorem pl_ints (xs : List Int) : Pl 1 (.list (xs.map PyData.int)) := Pl.lst fun d m => by
  obtain ⟨i, _, rfl⟩ := List.mem_map.mp m
  exact pl_int 0 i
theorem dpAll_map {K : PySem.W.Frag} {H : Hp} {α : Type} {f : α → V} {g : α → PyData} : ∀ (xs : List α), (∀ x ∈ xs, Dp K H (f x) (g x)) → DpAll K H (xs.map f) (xs.map g)
  | [], _ => .nil
  | x :: xs, h => .cons (h x (List.mem_cons_self ..)) (dpAll_map xs fun y m => h y (List.mem_cons_of_mem _ m))
theorem dp_ints {K : PySem.W.Frag} {H : Hp} {a : Addr} {xs : List Int} (h : SqL K H a (xs.map V.int)) : Dp K H (.ref a) (.list (xs.map PyData.int)) := .lst h (dpAll_map xs fun x _ => .int x)
theorem eqvAll_map {α : Type} [DecidableEq α] {g : α → PyData} (hg : ∀ x y, PyData.eqv (g x) (g y) = decide (x = y)) : ∀ (xs ys : List α), PyData.eqvAll (xs.map g) (ys.map g) = decide (xs = ys)
  | [], [] => rfl
  | [], _ :: _ => rfl
  | _ :: _, [] => rfl
  | x :: xs, y :: ys => by
    show (PyData.eqv (g x) (g y) && PyData.eqvAll (xs.map g) (ys.map g)) = _
    rw [hg, eqvAll_map hg xs ys]
    by_cases e : x = y
    · by_cases e2 : xs = ys
      · subst e e2; simp
      · simp [e, e2]
    · simp [e]
theorem eqv_int (x y : Int) : PyData.eqv (.int x) (.int y) = decide (x = y) := by
  show (x == y) = _
  by_cases e : x = y <;> simp [e]
theorem eqv_ints (xs ys : List Int) : PyData.eqv (.list (xs.map PyData.int)) (.list (ys.map PyData.int)) = decide (xs = ys) := eqvAll_map eqv_int xs ys
/-- «xs != []» -/
theorem ne_nil {K : PySem.W.Frag} {H : Hp} {a p : Addr} {xs : List Int} {Q : VK} (h1 : SqL K H a (xs.map V.int)) (h2 : H p = some (.lst [])) (q : Q (.bl (!decide (xs = []))) H) : rNeD K (.ref a) (.ref p) H Q :=
  ⟨_, _, dp_ints h1, dp_ints (xs := []) (.inl (.inl h2)), (pl_ints xs).shaped (by decide), (pl_ints []).shaped (by decide), by rw [eqv_ints]; exact q⟩
/-! ### places -/
theorem at_nat {α : Type} {xs : List α} {i : Nat} (h : i < xs.length) : atI xs (i : Int) = some xs[i] := by
  unfold atI ixN
  rw [if_pos (by omega), if_pos (by omega)]
  show xs[(i : Int).toNat]? = _
  rw [Int.toNat_natCast, List.getElem?_eq_getElem h]
theorem at_lt {α : Type} {xs : List α} {i : Int} (h0 : 0 ≤ i) (h : i < xs.length) : ∃ v, v ∈ xs ∧ atI xs i = some v := by
  obtain ⟨k, rfl⟩ : ∃ k : Nat, i = k := ⟨i.toNat, by omega⟩
  exact ⟨_, List.getElem_mem (by omega), at_nat (by omega)⟩
theorem at_last {α : Type} {xs : List α} {x : α} : atI (xs ++ [x]) (-1) = some x := by
  unfold atI ixN
  rw [if_neg (by omega), if_pos (by simp; omega)]
  show (xs ++ [x])[_]? = _
  rw [show (-1 + ((xs ++ [x]).length : Int)).toNat = xs.length by simp; omega]
  simp
/-- one way on from two branches, for all values that they leave -/
theorem cutI {c : Bool} {A B : Prop} {R : Int → Prop} (y : Int) (h2 : c = false → R y → B) (h1 : (∀ z, R z) → c = true → A) (key : ∀ z, R z) : if c = true then A else B := iteC (h1 key) fun e => h2 e (key y)
theorem genI {P : V → Prop} {x : Int} (h : ∀ z : Int, P (.int z)) : P (.int x) := h x
theorem genIB {P : V → Prop} {x M : Int} (hM : 0 < M) (h : ∀ z : Int, 0 ≤ z → z < M → P (.int z)) : P (.int (x.fmod M)) := h _ (Int.fmod_nonneg_of_pos _ hM) (Int.fmod_lt_of_pos _ hM)
theorem cutP {c : Bool} {X Y B : Prop} (h2 : c = false → B → Y) (h1 : B → c = true → X) (b : B) : if c = true then X else Y := iteC (h1 b) fun e => h2 e b
theorem mul_bnd {a b A B : Int} (a0 : 0 ≤ a) (a1 : a ≤ A) (b0 : 0 ≤ b) (b1 : b ≤ B) : 0 ≤ a * b ∧ a * b ≤ A * B :=
  ⟨Int.mul_nonneg a0 b0, Int.mul_le_mul a1 b1 b0 (Int.le_trans a0 a1)⟩
theorem bnd5 {c M k t l : Int} (hM : 0 < M) (hM2 : M ≤ 1099511627776) (t0 : 0 ≤ t) (t1 : t ≤ 1000000) (k0 : 0 ≤ k) (k1 : k ≤ 8388608) (l0 : 0 ≤ l) (l1 : l ≤ 1099511627776) : (c.fmod M + k * t + l).natAbs < 2 ^ 64 := by
  have h1 := Int.fmod_nonneg_of_pos c hM
  have h2 := Int.fmod_lt_of_pos c hM
  obtain ⟨h3, h4⟩ := mul_bnd k0 k1 t0 t1
  omega
theorem bnd3 {m t a k l : Int} (m0 : 0 ≤ m) (m1 : m ≤ 4294967296) (t0 : 0 ≤ t) (t1 : t ≤ 1000000) (a0 : 0 ≤ a) (a1 : a ≤ 8388608) (k0 : 0 ≤ k) (k1 : k ≤ 8388608) (l0 : 0 ≤ l) (l1 : l ≤ 1099511627776) : (m * (2 * t + a) + k * t * t + l).natAbs < 2 ^ 64 := by
  obtain ⟨h1, h2⟩ := mul_bnd (b := 2 * t + a) (B := 10388608) m0 m1 (by omega) (by omega)
  obtain ⟨h3, h4⟩ := mul_bnd k0 k1 t0 t1
  obtain ⟨h5, h6⟩ := mul_bnd h3 h4 t0 t1
  omega
/-! ### slices -/
theorem cut_to (xs : List V) (k : Nat) : cutV xs none (some (k : Int)) = xs.take k := by
  unfold cutV
  rw [HT.sIx_none, HT.sIx_nat, List.drop_zero, Nat.sub_zero]
  by_cases h : k ≤ xs.length
  · rw [Nat.min_eq_left h]
  · rw [Nat.min_eq_right (by omega), List.take_of_length_le (Nat.le_refl _), List.take_of_length_le (by omega)]
theorem cut_from (xs : List V) (k : Nat) : cutV xs (some (k : Int)) none = xs.drop k := by
  unfold cutV
  rw [HT.sIx_none, HT.sIx_nat]
  by_cases h : k ≤ xs.length
  · rw [Nat.min_eq_left h, List.take_of_length_le (by rw [List.length_drop]; omega)]
  · rw [Nat.min_eq_right (by omega), Nat.sub_self, List.take_zero, List.drop_eq_nil_of_le (by omega)]
/-! ### comprehensions, item by item -/
section
variable {K : PySem.W.Frag} {a : Addr} {xs : List V} {g : TG} {tt : TT} {te : TE} {vs : List Nat} {σ : L2.St} {H1 : Hp} {D : Addr} {Qd : Hp → Prop}
theorem lc_mapL (f : V → V) (hq : SqL K H1 a xs) (nD : H1 D = none) (len : xs.length ≤ 100000)
    (turn : ∀ (i : Nat) (x : V) (Hc : Hp) (Q' : VK) (R' : Hp → Prop), xs[i]? = some x → Same H1 Hc → (∀ H4, Same Hc H4 → Q' (f x) H4) → g x (wipe σ vs) Hc fun σ2 H2 => wipe σ2 vs = wipe σ vs ∧ tt σ2 H2 fun b H3 => if b = true then te σ2 H3 Q' else R' H3)
    (fin : ∀ Hc, Same H1 Hc → Hc D = some (.lst (xs.map f)) → Qd Hc) :
    ∃ W : Nat → Nat → Hp → Prop, (∃ m, W 0 m (upd H1 D (.lst []))) ∧ ∀ i m H, W i m H →
      ((Itl K a).stop i H ∧ Qd H) ∨ ((Itl K a).go i H ∧ ∃ Nx : Hp → Prop, (∀ H', Nx H' → ∃ m', m' < m ∧ W (i + 1) m' H') ∧ ∀ x H', (Itl K a).yld i H x H' → g x (wipe σ vs) H' fun σ2 H2 => wipe σ2 vs = wipe σ vs ∧ tt σ2 H2 fun b H3 =>
        if b = true then te σ2 H3 fun y H4 => ∃ acc, H4 D = some (.lst acc) ∧ acc.length < sizeLine ∧ Nx (upd H4 D (.lst (acc ++ [y]))) else Nx H3) := by
  refine lc_list (fun i Hc => Same H1 Hc ∧ Hc D = some (.lst ((xs.take i).map f))) ⟨same_new nD, upd_same⟩ (fun i H _ p => p.1.seq hq) (fun i x Hc hx p => ?_) (fun Hc p => ?_)
  · refine turn i x Hc _ _ hx p.1 (fun H4 e4 => ⟨_, e4 _ _ p.2, ?_, ?_⟩)
    · rw [List.length_map, List.length_take]
      exact Nat.lt_of_le_of_lt (Nat.min_le_right _ _) (Nat.lt_of_le_of_lt len (by decide))
    · refine ⟨fun b o z => ?_, ?_⟩
      · rw [upd_ne (ne_of_none z nD)]
        exact e4 _ _ (p.1 b o z)
      · rw [upd_same, List.take_add_one, hx, List.map_append]
        rfl
  · rw [List.take_length] at p
    exact fin Hc p.1 p.2
theorem lc_mapT (f : V → V) (hq : SqT K H1 a xs) (nD : H1 D = none) (len : xs.length ≤ 100000)
    (turn : ∀ (i : Nat) (x : V) (Hc : Hp) (Q' : VK) (R' : Hp → Prop), xs[i]? = some x → Same H1 Hc → (∀ H4, Same Hc H4 → Q' (f x) H4) → g x (wipe σ vs) Hc fun σ2 H2 => wipe σ2 vs = wipe σ vs ∧ tt σ2 H2 fun b H3 => if b = true then te σ2 H3 Q' else R' H3)
    (fin : ∀ Hc, Same H1 Hc → Hc D = some (.lst (xs.map f)) → Qd Hc) :
    ∃ W : Nat → Nat → Hp → Prop, (∃ m, W 0 m (upd H1 D (.lst []))) ∧ ∀ i m H, W i m H →
      ((Itt K a).stop i H ∧ Qd H) ∨ ((Itt K a).go i H ∧ ∃ Nx : Hp → Prop, (∀ H', Nx H' → ∃ m', m' < m ∧ W (i + 1) m' H') ∧ ∀ x H', (Itt K a).yld i H x H' → g x (wipe σ vs) H' fun σ2 H2 => wipe σ2 vs = wipe σ vs ∧ tt σ2 H2 fun b H3 =>
        if b = true then te σ2 H3 fun y H4 => ∃ acc, H4 D = some (.lst acc) ∧ acc.length < sizeLine ∧ Nx (upd H4 D (.lst (acc ++ [y]))) else Nx H3) := by
  refine lc_tup (fun i Hc => Same H1 Hc ∧ Hc D = some (.lst ((xs.take i).map f))) ⟨same_new nD, upd_same⟩ (fun i H _ p => Same.t p.1 hq) (fun i x Hc hx p => ?_) (fun Hc p => ?_)
  · refine turn i x Hc _ _ hx p.1 (fun H4 e4 => ⟨_, e4 _ _ p.2, ?_, ?_⟩)
    · rw [List.length_map, List.length_take]
      exact Nat.lt_of_le_of_lt (Nat.min_le_right _ _) (Nat.lt_of_le_of_lt len (by decide))
    · refine ⟨fun b o z => ?_, ?_⟩
      · rw [upd_ne (ne_of_none z nD)]
        exact e4 _ _ (p.1 b o z)
      · rw [upd_same, List.take_add_one, hx, List.map_append]
        rfl
  · rw [List.take_length] at p
    exact fin Hc p.1 p.2
end
end Kx
namespace Kx
open PySem PySem.Spec PyProof.Rows L2 SX LamX
theorem paired_get {α β : Type} {F : α → β → Prop} : ∀ {l : List α} {m : List β}, Paired F l m → ∀ {i : Nat} {a : α}, l[i]? = some a → ∃ b, m[i]? = some b ∧ F a b
  | _, _, .cons h t, 0, a, e => by
    simp at e
    subst e
    exact ⟨_, rfl, h⟩
  | _, _, .cons h t, i + 1, a, e => paired_get t (i := i) (by simpa using e)
theorem paired_split {α β : Type} {F : α → β → Prop} : ∀ {l : List α} (m : List β) {b : β}, Paired F l (m ++ [b]) → ∃ l' a, l = l' ++ [a] ∧ Paired F l' m ∧ F a b
  | _, [], _, .cons h .nil => ⟨[], _, rfl, .nil, h⟩
  | _, _ :: m, b, .cons h t => by
    obtain ⟨l', a, rfl, p, f⟩ := paired_split m t
    exact ⟨_ :: l', a, rfl, .cons h p, f⟩
theorem paired_nil {α β : Type} {F : α → β → Prop} {l : List α} (h : Paired F l []) : l = [] := by
  cases h
  rfl
theorem nil_or_snoc {α : Type} (l : List α) : l = [] ∨ ∃ l' a, l = l' ++ [a] := by
  rcases List.eq_nil_or_concat l with h | ⟨l', a, h⟩
  · exact .inl h
  · exact .inr ⟨l', a, by rw [h, List.concat_eq_append]⟩
theorem paired_map {α β γ : Type} {F : α → γ → Prop} {G : α → β → Prop} (f : β → γ) (h : ∀ a b, G a b → F a (f b)) : ∀ {l : List α} {m : List β}, Paired G l m → Paired F l (m.map f)
  | _, _, .nil => .nil
  | _, _, .cons x t => .cons (h _ _ x) (paired_map f h t)
theorem paired_of_map {α β γ : Type} {F : α → γ → Prop} (f : β → α) (g : β → γ) : ∀ {m : List β}, (∀ b ∈ m, F (f b) (g b)) → Paired F (m.map f) (m.map g)
  | [], _ => .nil
  | b :: m, h => .cons (h b (List.mem_cons_self ..)) (paired_of_map f g fun c hc => h c (List.mem_cons_of_mem _ hc))
theorem dpAll_of {K : PySem.W.Frag} {H : Hp} : ∀ {vs : List V} {ds : List PyData}, Paired (fun v d => Dp K H v d) vs ds → DpAll K H vs ds
  | _, _, .nil => .nil
  | _, _, .cons h t => .cons h (dpAll_of t)
/-- «xs != []», any laid items -/
theorem ne_nilD {K : PySem.W.Frag} {H : Hp} {a p : Addr} {vs : List V} {ds : List PyData} {k : Nat} {Q : VK} (h1 : SqL K H a vs) (hd : Paired (fun v d => Dp K H v d) vs ds) (hp : ∀ d ∈ ds, Pl k d) (hk : k ≤ 60) (h2 : H p = some (.lst [])) (q : Q (.bl (!decide (ds = []))) H) : rNeD K (.ref a) (.ref p) H Q :=
  ⟨_, _, .lst h1 (dpAll_of hd), dp_ints (xs := []) (.inl (.inl h2)), (Pl.lst hp).shaped (by omega), (pl_ints []).shaped (by decide), by
    have e : PyData.eqv (.list ds) (.list (([] : List Int).map PyData.int)) = decide (ds = []) := by
      cases ds with
      | nil => rfl
      | cons d t => rfl
    rw [e]
    exact q⟩
/-- a pair of ints -/
def Pr2 (H : Hp) (v : V) (r : Int × Int) : Prop := ∃ t, v = V.ref t ∧ H t = some (.tup [.int r.1, .int r.2])
theorem Pr2.same {H H' : Hp} {v : V} {r : Int × Int} (e : Same H H') (h : Pr2 H v r) : Pr2 H' v r := by
  obtain ⟨t, rfl, h⟩ := h
  exact ⟨t, rfl, e _ _ h⟩
def pr2D (r : Int × Int) : PyData := .tuple [.int r.1, .int r.2]
theorem Pr2.dp {K : PySem.W.Frag} {H : Hp} {v : V} {r : Int × Int} (h : Pr2 H v r) : Dp K H v (pr2D r) := by
  obtain ⟨t, rfl, h⟩ := h
  exact .tup (.inl (.inl h)) (.cons (.int _) (.cons (.int _) .nil))
theorem pl_pr2 (r : Int × Int) : Pl 1 (pr2D r) := Pl.tup fun d m => by
  rcases List.mem_cons.mp m with rfl | m
  · exact pl_int 0 _
  · rcases List.mem_cons.mp m with rfl | m
    · exact pl_int 0 _
    · cases m
/-! ### stretches of like numbers -/
def stepR (rs : List (Int × Int)) (n : Int) : List (Int × Int) :=
  match rs.reverse with
  | [] => [(n, 1)]
  | (m, k) :: t => if m = n then t.reverse ++ [(n, k + 1)] else rs ++ [(n, 1)]
theorem stepR_nil (n : Int) : stepR [] n = [(n, 1)] := rfl
theorem stepR_snoc (rs : List (Int × Int)) (m k n : Int) : stepR (rs ++ [(m, k)]) n = if m = n then rs ++ [(n, k + 1)] else rs ++ [(m, k)] ++ [(n, 1)] := by
  unfold stepR
  simp
def runs (row : List Int) : List (Int × Int) := row.foldl stepR []
theorem runs_snoc (row : List Int) (n : Int) : runs (row ++ [n]) = stepR (runs row) n := by
  unfold runs
  rw [List.foldl_append]
  rfl
theorem stepR_length (rs : List (Int × Int)) (n : Int) : (stepR rs n).length ≤ rs.length + 1 := by
  rcases nil_or_snoc rs with rfl | ⟨rs', ⟨m, k⟩, rfl⟩
  · simp [stepR_nil]
  · rw [stepR_snoc]
    split <;> simp
theorem fold_length : ∀ (row : List Int) (rs : List (Int × Int)), (row.foldl stepR rs).length ≤ rs.length + row.length
  | [], _ => Nat.le_refl _
  | x :: row, rs => by
    have h1 := fold_length row (stepR rs x)
    have h2 := stepR_length rs x
    show (row.foldl stepR (stepR rs x)).length ≤ rs.length + (row.length + 1)
    omega
theorem runs_length (row : List Int) : (runs row).length ≤ row.length := by
  have h := fold_length row []
  rw [List.length_nil, Nat.zero_add] at h
  exact h
/-! ### for and comprehension over a list or a tuple, held by a name -/
section
variable {K : PySem.W.Frag} {a : Addr} {xs : List V} {g : TG} {σ : L2.St} {H : Hp} {k : Nat}
theorem for_seq {tb : TS} {D : Ends} {H0 : Hp} (hi : σ[k]? = some (some (.ref a))) (hq : SqQ K H0 a xs) (e0 : Same H0 H) (Pv : Nat → L2.St → Hp → Prop) (h0 : Pv 0 σ H) (stay : ∀ i σ' H', i ≤ xs.length → Pv i σ' H' → Same H0 H')
    (hs : ∀ i x σ H, xs[i]? = some x → Pv i σ H → g x σ H fun σ2 H2 => tb { D with nx := Pv (i + 1), ct := Pv (i + 1), bk := D.nx } σ2 H2) (hd : ∀ σ H, Pv xs.length σ H → D.nx σ H) :
    tFor (fun σ H R => iList K (tVar k) σ H R ∨ iTup K (tVar k) σ H R) g tb D σ H := by
  rcases hq with h | h
  · exact .inl ⟨_, hi, a, rfl, ⟨_, e0.seq h⟩, for_list Pv h0 (fun i σ' H' l p => (stay i σ' H' l p).seq h) hs hd⟩
  · exact .inr ⟨_, hi, a, rfl, ⟨_, Same.t e0 h⟩, for_tup Pv h0 (fun i σ' H' l p => Same.t (stay i σ' H' l p) h) hs hd⟩
theorem lc_seqmap {tt : TT} {te : TE} {vs : List Nat} {Q : VK} (f : V → V) (hi : σ[k]? = some (some (.ref a))) (hq : SqQ K H a xs) (len : xs.length ≤ 100000)
    (turn : ∀ (i : Nat) (x : V) (Hc : Hp) (Q' : VK) (R' : Hp → Prop), xs[i]? = some x → Same H Hc → (∀ H4, Same Hc H4 → Q' (f x) H4) → g x (wipe σ vs) Hc fun σ2 H2 => wipe σ2 vs = wipe σ vs ∧ tt σ2 H2 fun b H3 => if b = true then te σ2 H3 Q' else R' H3)
    (fin : ∀ (D : Addr) (Hc : Hp), Same H Hc → Hc D = some (.lst (xs.map f)) → Q (.ref D) Hc) :
    tLc (fun σ H R => iList K (tVar k) σ H R ∨ iTup K (tVar k) σ H R) g tt te vs σ H Q := by
  rcases hq with h | h
  · exact .inl ⟨_, hi, a, rfl, ⟨_, h⟩, fun D nD => lc_mapL f h nD len turn (fin D)⟩
  · exact .inr ⟨_, hi, a, rfl, ⟨_, h⟩, fun D nD => lc_mapT f h nD len turn (fin D)⟩
theorem lc_lstmap {tt : TT} {te : TE} {vs : List Nat} {Q : VK} (f : V → V) (hi : σ[k]? = some (some (.ref a))) (hq : SqL K H a xs) (len : xs.length ≤ 100000)
    (turn : ∀ (i : Nat) (x : V) (Hc : Hp) (Q' : VK) (R' : Hp → Prop), xs[i]? = some x → Same H Hc → (∀ H4, Same Hc H4 → Q' (f x) H4) → g x (wipe σ vs) Hc fun σ2 H2 => wipe σ2 vs = wipe σ vs ∧ tt σ2 H2 fun b H3 => if b = true then te σ2 H3 Q' else R' H3)
    (fin : ∀ (D : Addr) (Hc : Hp), Same H Hc → Hc D = some (.lst (xs.map f)) → Q (.ref D) Hc) :
    tLc (iList K (tVar k)) g tt te vs σ H Q := ⟨_, hi, a, rfl, ⟨_, hq⟩, fun D nD => lc_mapL f hq nD len turn (fin D)⟩
end
theorem Pr2.set {H : Hp} {p : Addr} {us : List V} {v : V} {r : Int × Int} {o : HO} (hp : H p = some (.lst us)) (h : Pr2 H v r) : Pr2 (upd H p o) v r := by
  obtain ⟨t, rfl, h⟩ := h
  refine ⟨t, rfl, ?_⟩
  rw [upd_ne (fun e => by rw [e, hp] at h; cases h)]
  exact h
theorem same_set {H Hd : Hp} {p : Addr} {o : HO} (e : Same H Hd) (np : H p = none) : Same H (upd Hd p o) := fun b u h => by
  rw [upd_ne (ne_of_none h np)]
  exact e b u h
theorem Pr2.new {H : Hp} {t : Addr} {x y : Int} : Pr2 (upd H t (.tup [.int x, .int y])) (.ref t) (x, y) := ⟨t, rfl, upd_same⟩
theorem sz1 {x : V} : [x].length ≤ sizeLine := by
  show 1 ≤ sizeLine
  decide
theorem sz2 {x y : V} : [x, y].length ≤ sizeLine := by
  show 2 ≤ sizeLine
  decide
theorem sz3 {x y z : V} : [x, y, z].length ≤ sizeLine := by
  show 3 ≤ sizeLine
  decide
theorem sz4 {x y z u : V} : [x, y, z, u].length ≤ sizeLine := by
  show 4 ≤ sizeLine
  decide
theorem ix_last {n : Nat} : ixN (n + 1) (-1) = some n := by
  unfold ixN
  rw [if_neg (by omega), if_pos (by omega)]
  congr 1
  omega
/-- xs[-1] = y, what is set -/
theorem set_last {H : Hp} {p : Addr} {xs : List V} {x y : V} {Q : Hp → Prop} (hp : H p = some (.lst (xs ++ [x]))) (q : Q (upd H p (.lst (xs ++ [y])))) : rSetL (.ref p) (.int (-1)) y H Q :=
  ⟨p, _, -1, xs.length, rfl, rfl, hp, by rw [List.length_append]; exact ix_last, by rw [show (xs ++ [x]).set xs.length y = xs ++ [y] by simp]; exact q⟩
end Kx
namespace Kx
open PySem PySem.Spec PyProof.Rows L2 SX LamX
/-! ### rules that name the frame, within a comprehension -/
section
variable {X : Cx} {K : PySem.W.Frag}
theorem inK_ix_list (e : X.K = K) : IxR X (rIxL K) := e ▸ ix_list
theorem inK_ix_tup (e : X.K = K) : IxR X (rIxT K) := e ▸ ix_tup
theorem inK_call_len_seq (e : X.K = K) : CallR X (.builtin "len") (fun xs H Q => ∃ p ys, xs = [.ref p] ∧ (SqL K H p ys ∨ SqT K H p ys) ∧ Q (.int ys.length) H) := e ▸ call_len_seq
theorem inK_sl_list (e : X.K = K) : SlR X (rSlL K) := e ▸ sl_list
theorem inK_op_eqD (e : X.K = K) (hu : X.A.units + 64 < cLine) : OpR X (compareOp .Eq) (rEqD K) := e ▸ op_eqD hu
theorem inK_op_neD (e : X.K = K) (hu : X.A.units + 64 < cLine) : OpR X (compareOp .NotEq) (rNeD K) := e ▸ op_neD hu
theorem inK_pg_tup {es : List Expr} {k : Nat} {t : TGs} {n : Nat} {pos : Pos} (e : X.K = K) (hc : X.calm = true) (h : PGs X es t) (hn : (assignEach es X.env).length = n := by rfl) (hst : (assignEach es X.env).findIdx? (·.1) = none := by rfl) : PG X (.Tuple es k pos) (gTup K n t) := e ▸ pg_tup hc h hn hst
end
end Kx
namespace Kx
open PySem PySem.Spec PyProof.Rows L2 SX LamX
/-- an error is made with its part -/
theorem mk_part {K : PySem.W.Frag} {C : Addr} {σ : L2.St} {H : Hp} {Q : XK} {v : V} (o : OexC K C) (n : PySem.W.findIn K (.ref C) "part" = some none)
    (q : ∀ d H', Same H H' → H' d = some (.xd [("part", v)]) → Q (.ref C) (some d) H') : tMkO C (sp_init K) [] (tCons (tC v) tNil) σ H Q := by
  refine ⟨by show 1 ≤ 1000; decide, fun a na => ⟨a, C, v, rfl, o, n, upd_same, fun dx nd hne => ⟨rfl, dx, [("part", v)], upd_same, ?_, ?_, q dx _ ?_ upd_same⟩⟩⟩
  · rw [upd_ne hne, upd_same]
  · rw [upd_ne hne] at nd
    exact nd
  · rw [upd_ne hne] at nd
    intro b u h
    rw [upd_ne (ne_of_none h nd)]
    show (if b = a then none else _) = some u
    rw [if_neg (ne_of_none h na), upd_ne (ne_of_none h na), upd_ne (ne_of_none h nd), upd_ne (ne_of_none h na)]
    exact h
end Kx
namespace Kx
open PySem PySem.Spec PyProof.Rows L2 SX LamX
section
variable {K : PySem.W.Frag} {J : It} {n : Nat} {G : Hp → Prop} {Y : Nat → Hp → V → Hp → Prop} {g : TG} {tt : TT} {te : TE} {vs : List Nat} {σ : L2.St} {H1 : Hp} {D : Addr} {Qd : Hp → Prop}
/-- a comprehension whose items are told ahead -/
theorem lc_out (w : Walk J n G Y) (zs : List V) (hz : zs.length = n) (nD : H1 D = none) (len : n ≤ 100000) (hG : ∀ Hc, Same H1 Hc → G Hc)
    (turn : ∀ (i : Nat) (x z : V) (Hc Hx : Hp) (Q' : VK) (R' : Hp → Prop), i < n → zs[i]? = some z → Same H1 Hc → Y i Hc x Hx → (∀ H4, Same Hc H4 → Q' z H4) → g x (wipe σ vs) Hx fun σ2 H2 => wipe σ2 vs = wipe σ vs ∧ tt σ2 H2 fun b H3 => if b = true then te σ2 H3 Q' else R' H3)
    (fin : ∀ Hc, Same H1 Hc → Hc D = some (.lst zs) → Qd Hc) :
    ∃ W : Nat → Nat → Hp → Prop, (∃ m, W 0 m (upd H1 D (.lst []))) ∧ ∀ i m H, W i m H →
      (J.stop i H ∧ Qd H) ∨ (J.go i H ∧ ∃ Nx : Hp → Prop, (∀ H', Nx H' → ∃ m', m' < m ∧ W (i + 1) m' H') ∧ ∀ x H', J.yld i H x H' → g x (wipe σ vs) H' fun σ2 H2 => wipe σ2 vs = wipe σ vs ∧ tt σ2 H2 fun b H3 =>
        if b = true then te σ2 H3 fun y H4 => ∃ acc, H4 D = some (.lst acc) ∧ acc.length < sizeLine ∧ Nx (upd H4 D (.lst (acc ++ [y]))) else Nx H3) := by
  refine lc_it w (fun i Hc => Same H1 Hc ∧ Hc D = some (.lst (zs.take i))) ⟨same_new nD, upd_same⟩ (fun i H _ p => hG H p.1) (fun i x Hc Hx hi p y => ?_) (fun Hc p => ?_)
  · have hzi : zs[i]? = some (zs[i]'(by omega)) := List.getElem?_eq_getElem (by omega)
    refine turn i x _ Hc Hx _ _ hi hzi p.1 y (fun H4 e4 => ⟨_, e4 _ _ p.2, ?_, ?_⟩)
    · rw [List.length_take]
      exact Nat.lt_of_le_of_lt (Nat.min_le_right _ _) (Nat.lt_of_le_of_lt (by omega) (by decide : 100000 < sizeLine))
    · refine ⟨fun b o z => ?_, ?_⟩
      · rw [upd_ne (ne_of_none z nD)]
        exact e4 _ _ (p.1 b o z)
      · rw [upd_same, List.take_add_one, hzi]
        rfl
  · rw [← hz, List.take_length] at p
    exact fin Hc p.1 p.2
end
section
variable {K : PySem.W.Frag} {a b : Addr} {xs ys : List V} {g : TG} {tt : TT} {te : TE} {vs : List Nat} {σ : L2.St} {H : Hp} {k l : Nat} {Q : VK}
/-- [e for x in NAME], NAME a list: the items told ahead -/
theorem lc_lst (zs : List V) (hz : zs.length = xs.length) (hi : σ[k]? = some (some (.ref a))) (hq : SqL K H a xs) (len : xs.length ≤ 100000)
    (turn : ∀ (i : Nat) (x z : V) (Hc : Hp) (Q' : VK) (R' : Hp → Prop), xs[i]? = some x → zs[i]? = some z → Same H Hc → (∀ H4, Same Hc H4 → Q' z H4) → g x (wipe σ vs) Hc fun σ2 H2 => wipe σ2 vs = wipe σ vs ∧ tt σ2 H2 fun b H3 => if b = true then te σ2 H3 Q' else R' H3)
    (fin : ∀ (D : Addr) (Hc : Hp), Same H Hc → Hc D = some (.lst zs) → Q (.ref D) Hc) :
    tLc (iList K (tVar k)) g tt te vs σ H Q := ⟨_, hi, a, rfl, ⟨_, hq⟩, fun D nD => lc_out walk_list zs hz nD len (fun Hc e => e.seq hq) (fun i x z Hc Hx Q' R' _ hzi e y q => by
      obtain ⟨rfl, hx⟩ := y
      exact turn i x z _ Q' R' hx hzi e q) (fin D)⟩
/-- [e for x, y in zip(NAME, NAME)], both lists -/
theorem lc_zip (zs : List V) (hz : zs.length = min xs.length ys.length) (hi : σ[k]? = some (some (.ref a))) (hj : σ[l]? = some (some (.ref b))) (hq : SqL K H a xs) (hp : SqL K H b ys) (len : xs.length ≤ 100000)
    (turn : ∀ (i : Nat) (x y z : V) (t : Addr) (Hc : Hp) (Q' : VK) (R' : Hp → Prop), xs[i]? = some x → ys[i]? = some y → zs[i]? = some z → Same H Hc → Hc t = some (.tup [x, y]) → (∀ H4, Same Hc H4 → Q' z H4) → g (.ref t) (wipe σ vs) Hc fun σ2 H2 => wipe σ2 vs = wipe σ vs ∧ tt σ2 H2 fun b H3 => if b = true then te σ2 H3 Q' else R' H3)
    (fin : ∀ (D : Addr) (Hc : Hp), Same H Hc → Hc D = some (.lst zs) → Q (.ref D) Hc) :
    tLc (iZip K (tCons (tVar k) (tCons (tVar l) tNil))) g tt te vs σ H Q := ⟨_, hi, _, hj, a, b, xs, ys, rfl, hq, hp, fun D nD => lc_out (walk_zip rfl) zs hz nD (by omega) (fun Hc e => ⟨e.seq hq, e.seq hp⟩) (fun i x z Hc Hx Q' R' _ hzi e y q => by
      obtain ⟨t, x', y', rfl, nt, rfl, hx, hy⟩ := y
      exact turn i x' y' z t _ Q' R' hx hy hzi (e.trans (same_new nt)) upd_same (fun H4 e4 => q H4 ((same_new nt).trans e4))) (fin D)⟩
end
/-- «xs != ys», ints -/
theorem ne_ints {K : PySem.W.Frag} {H : Hp} {a b : Addr} {xs ys : List Int} {Q : VK} (h1 : SqL K H a (xs.map V.int)) (h2 : SqL K H b (ys.map V.int)) (q : Q (.bl (!decide (xs = ys))) H) : rNeD K (.ref a) (.ref b) H Q :=
  ⟨_, _, dp_ints h1, dp_ints h2, (pl_ints xs).shaped (by decide), (pl_ints ys).shaped (by decide), by rw [eqv_ints]; exact q⟩
theorem paired_at {α β : Type} {F : α → β → Prop} {l : List α} {m : List β} (h : Paired F l m) {i : Nat} {a : α} {b : β} (ha : l[i]? = some a) (hb : m[i]? = some b) : F a b := by
  obtain ⟨b', e, f⟩ := paired_get h ha
  rw [hb] at e
  cases e
  exact f
theorem map_at {α β : Type} {f : α → β} {l : List α} {i : Nat} {z : β} (h : (l.map f)[i]? = some z) : ∃ x, l[i]? = some x ∧ z = f x := by
  rw [List.getElem?_map] at h
  cases e : l[i]? with
  | none => rw [e] at h; cases h
  | some x => rw [e] at h; exact ⟨x, rfl, (Option.some.inj h).symm⟩
/-! ### one step into a reading -/
section
variable {D : Ends} {σ : L2.St} {H : Hp}
theorem go_seq {t u : TS} (h : t { D with nx := u D } σ H) : tSeq t u D σ H := h
theorem go_if {c : TT} {t u : TS} (h : c σ H fun b H1 => if b = true then t D σ H1 else u D σ H1) : tIfS c t u D σ H := h
theorem go_test {te : TE} {Q : Bool → Hp → Prop} (h : te σ H fun x H' => ∃ k, x = .bl k ∧ Q k H') : tTest te σ H Q := h
theorem go_op {r : R2} {ta tb : TE} {Q : VK} (h : ta σ H fun x H1 => tb σ H1 fun y H2 => r x y H2 Q) : tOp r ta tb σ H Q := h
theorem go_ret {te : TE} (h : te σ H D.rt) : tRet te D σ H := h
theorem go_asg {te : TE} {g : TG} (h : te σ H fun x H1 => g x σ H1 D.nx) : tAsg te g D σ H := h
theorem go_cb {r : List V → Hp → VK → Prop} {t : TA} {Q : VK} (h : t σ H fun vs H1 => r vs H1 Q) : tCB r t σ H Q := h
theorem go_cons {te : TE} {t : TA} {Q : List V → Hp → Prop} (h : te σ H fun x H1 => t σ H1 fun xs H2 => Q (x :: xs) H2) : tCons te t σ H Q := h
end
theorem cut_toI {xs : List Int} {k : Int} (h : 0 ≤ k) : cutV (xs.map V.int) none (some k) = (xs.take k.toNat).map V.int := by
  obtain ⟨n, rfl⟩ : ∃ n : Nat, k = n := ⟨k.toNat, by omega⟩
  rw [cut_to, List.map_take, Int.toNat_natCast]
theorem cut_fromI {xs : List Int} {k : Int} (h : 0 ≤ k) : cutV (xs.map V.int) (some k) none = (xs.drop k.toNat).map V.int := by
  obtain ⟨n, rfl⟩ : ∃ n : Nat, k = n := ⟨k.toNat, by omega⟩
  rw [cut_from, List.map_drop, Int.toNat_natCast]
theorem ne_of_two {H : Hp} {a b : Addr} {o u : HO} (ha : H a = some o) (hb : H b = some u) (h : o ≠ u) : a ≠ b := fun e => by
  rw [e, hb] at ha
  exact h (Option.some.inj ha).symm
theorem Wh.held {H : Hp} {a c : Addr} {n : Nat} (h : Wh H a c n) : ∃ o, H a = some o := by
  obtain ⟨cs, t, l, h1, _⟩ := h
  exact ⟨_, h1⟩
theorem Wh.ne {H : Hp} {a c p : Addr} {n : Nat} (h : Wh H a c n) (np : H p = none) : p ≠ a := fun e => by
  obtain ⟨o, h⟩ := h.held
  rw [← e, np] at h
  cases h
theorem Wh.new {H : Hp} {a c p : Addr} {n : Nat} {o : HO} (h : Wh H a c n) (np : H p = none) : Wh (upd H p o) a c n := h.same (same_new np)
theorem Mv.new {H H' : Hp} {a p : Addr} {o : HO} (h : Mv a H H') (np : H' p = none) : Mv a H (L2.upd H' p o) := h.trans (Mv.of (same_new np))
theorem Wh.cell {H : Hp} {a c : Addr} {n : Nat} (h : Wh H a c n) : ∃ o, H c = some o := by
  obtain ⟨cs, t, l, _, h2, _⟩ := h
  exact ⟨_, h2⟩
/-- a list of the law's own is written: the wheel stays -/
theorem Wh.set {H : Hp} {a c p : Addr} {n : Nat} {o : HO} (h : Wh H a c n) (h1 : p ≠ a) (h2 : p ≠ c) : Wh (upd H p o) a c n := by
  obtain ⟨cs, t, l, g1, g2, g3⟩ := h
  exact ⟨cs, t, l, by rw [upd_ne h1.symm]; exact g1, by rw [upd_ne h2.symm]; exact g2, g3⟩
theorem Wh.nc {H : Hp} {a c p : Addr} {n : Nat} (h : Wh H a c n) (np : H p = none) : p ≠ c := fun e => by
  obtain ⟨o, h⟩ := h.cell
  rw [← e, np] at h
  cases h
end Kx
namespace Kx
open PySem
/-- other can be cut into pieces, none empty, one for each number of row -/
inductive Th : List Int → List Int → Prop
  | nil : Th [] []
  | more {r o : List Int} (x : Int) (k : Nat) : Th r o → Th (r ++ [x]) (o ++ List.replicate (k + 1) x)
def LeR (p q : Int × Int) : Prop := p.1 = q.1 ∧ p.2 ≤ q.2
theorem snoc_inj {α : Type} {l m : List α} {a b : α} (h : l ++ [a] = m ++ [b]) : l = m ∧ a = b := by
  have h2 := List.append_inj' h rfl
  exact ⟨h2.1, by simpa using h2.2⟩
theorem snoc_ne {α : Type} {l : List α} {a : α} : l ++ [a] ≠ [] := by
  intro h
  have := congrArg List.length h
  simp at this
theorem stepR_le {rs ss : List (Int × Int)} (h : Paired LeR rs ss) (x : Int) : Paired LeR (stepR rs x) (stepR ss x) := by
  rcases nil_or_snoc ss with rfl | ⟨ss', ⟨m, d⟩, rfl⟩
  · cases paired_nil h
    exact .cons ⟨rfl, Int.le_refl _⟩ .nil
  · obtain ⟨rs', ⟨m', c⟩, rfl, h1, h2, h3⟩ := paired_split ss' h
    have e : m' = m := h2
    subst e
    rw [stepR_snoc, stepR_snoc]
    by_cases e : m' = x
    · rw [if_pos e, if_pos e]
      exact Paired.snoc h1 ⟨rfl, by have : c ≤ d := h3; show c + 1 ≤ d + 1; omega⟩
    · rw [if_neg e, if_neg e]
      exact Paired.snoc (Paired.snoc h1 ⟨rfl, h3⟩) ⟨rfl, Int.le_refl _⟩
theorem stepR_up (rs : List (Int × Int)) (x : Int) : ∃ rs' c, stepR rs x = rs' ++ [(x, c)] := by
  rcases nil_or_snoc rs with rfl | ⟨rs', ⟨m, d⟩, rfl⟩
  · exact ⟨[], 1, rfl⟩
  · rw [stepR_snoc]
    by_cases e : m = x
    · exact ⟨rs', d + 1, by rw [if_pos e]⟩
    · exact ⟨rs' ++ [(m, d)], 1, by rw [if_neg e]⟩
theorem more_le {rs ss : List (Int × Int)} {x c : Int} (h : Paired LeR (rs ++ [(x, c)]) ss) : Paired LeR (rs ++ [(x, c)]) (stepR ss x) := by
  rcases nil_or_snoc ss with rfl | ⟨ss', ⟨m, d⟩, rfl⟩
  · exact absurd (paired_nil h) snoc_ne
  · obtain ⟨rs', ⟨m', c'⟩, e, h1, h2, h3⟩ := paired_split ss' h
    obtain ⟨rfl, e2⟩ := snoc_inj e
    cases e2
    have e : x = m := h2
    subst e
    rw [stepR_snoc, if_pos rfl]
    exact Paired.snoc h1 ⟨rfl, by have : c ≤ d := h3; show c ≤ d + 1; omega⟩
theorem runs_rep (o : List Int) (x : Int) : ∀ k : Nat, runs (o ++ List.replicate (k + 1) x) = stepR (runs (o ++ List.replicate k x)) x := fun k => by
  rw [List.replicate_succ', ← List.append_assoc, runs_snoc]
theorem th_le {r o : List Int} (h : Th r o) : Paired LeR (runs r) (runs o) := by
  induction h with
  | nil => exact .nil
  | @more r o x k _ ih =>
    rw [runs_snoc]
    induction k with
    | zero =>
      rw [runs_rep]
      simp only [List.replicate_zero, List.append_nil]
      exact stepR_le ih x
    | succ k ihk =>
      rw [runs_rep]
      obtain ⟨rs', c, e⟩ := stepR_up (runs r) x
      rw [e] at ihk ⊢
      exact more_le ihk
theorem fold_pos : ∀ (o : List Int) (rs : List (Int × Int)), (∀ p ∈ rs, 1 ≤ p.2) → ∀ p ∈ o.foldl stepR rs, 1 ≤ p.2
  | [], _, h => h
  | x :: o, rs, h => by
    refine fold_pos o (stepR rs x) fun p m => ?_
    rcases nil_or_snoc rs with rfl | ⟨rs', ⟨y, d⟩, rfl⟩
    · rcases List.mem_singleton.mp m with rfl
      exact Int.le_refl _
    · have hd : (1 : Int) ≤ d := h (y, d) (by simp)
      rw [stepR_snoc] at m
      by_cases e : y = x
      · rw [if_pos e] at m
        rcases List.mem_append.mp m with m | m
        · exact h p (List.mem_append_left _ m)
        · rcases List.mem_singleton.mp m with rfl
          show (1 : Int) ≤ d + 1
          omega
      · rw [if_neg e] at m
        rcases List.mem_append.mp m with m | m
        · exact h p m
        · rcases List.mem_singleton.mp m with rfl
          exact Int.le_refl _
theorem runs_pos (o : List Int) : ∀ p ∈ runs o, 1 ≤ p.2 := fold_pos o [] (fun _ m => by cases m)
theorem runs_nil {o : List Int} (h : runs o = []) : o = [] := by
  rcases nil_or_snoc o with rfl | ⟨o', x, rfl⟩
  · rfl
  · rw [runs_snoc] at h
    obtain ⟨rs', c, e⟩ := stepR_up (runs o') x
    rw [e] at h
    exact absurd h snoc_ne
theorem runs_last {o : List Int} {ss : List (Int × Int)} {x d : Int} (h : runs o = ss ++ [(x, d)]) : ∃ o', o = o' ++ [x] ∧ ((d = 1 ∧ runs o' = ss) ∨ (2 ≤ d ∧ runs o' = ss ++ [(x, d - 1)])) := by
  rcases nil_or_snoc o with rfl | ⟨o', y, rfl⟩
  · exact absurd h.symm snoc_ne
  · rw [runs_snoc] at h
    rcases nil_or_snoc (runs o') with e | ⟨rs', ⟨m, c⟩, e⟩
    · rw [e] at h
      obtain ⟨h1, h2⟩ := snoc_inj (l := []) h
      cases h2
      exact ⟨o', rfl, .inl ⟨rfl, by rw [e, h1]⟩⟩
    · have hc : (1 : Int) ≤ c := runs_pos o' (m, c) (by rw [e]; simp)
      rw [e, stepR_snoc] at h
      by_cases em : m = y
      · rw [if_pos em] at h
        obtain ⟨h1, h2⟩ := snoc_inj h
        cases h2
        subst em h1
        exact ⟨o', rfl, .inr ⟨by omega, by rw [e, Int.add_sub_cancel]⟩⟩
      · rw [if_neg em] at h
        obtain ⟨h1, h2⟩ := snoc_inj h
        cases h2
        exact ⟨o', rfl, .inl ⟨rfl, by rw [e, h1]⟩⟩
theorem runs_piece {x : Int} {ss : List (Int × Int)} : ∀ (n : Nat) {o : List Int}, runs o = ss ++ [(x, (n : Int) + 1)] → ∃ o', o = o' ++ List.replicate (n + 1) x ∧ runs o' = ss
  | 0, o, h => by
    obtain ⟨o', e, h1 | h1⟩ := runs_last h
    · exact ⟨o', e, h1.2⟩
    · omega
  | n + 1, o, h => by
    obtain ⟨o', rfl, h1 | h1⟩ := runs_last h
    · omega
    · rw [show ((n + 1 : Nat) : Int) + 1 - 1 = (n : Int) + 1 by omega] at h1
      obtain ⟨o2, rfl, e2⟩ := runs_piece n h1.2
      exact ⟨o2, by rw [List.replicate_succ' (n := n + 1), List.append_assoc], e2⟩
theorem le_th : ∀ (n : Nat) {r o : List Int}, r.length = n → Paired LeR (runs r) (runs o) → Th r o
  | 0, r, o, hn, h => by
    cases r with
    | nil =>
      have e : runs o = [] := by
        cases h' : runs o with
        | nil => rfl
        | cons p t => rw [h'] at h; cases h
      rw [runs_nil e]
      exact .nil
    | cons _ _ => simp at hn
  | n + 1, r, o, hn, h => by
    rcases nil_or_snoc r with rfl | ⟨r', x, rfl⟩
    · simp at hn
    · have hn' : r'.length = n := by simpa using hn
      rw [runs_snoc] at h
      obtain ⟨rs', c, e⟩ := stepR_up (runs r') x
      rw [e] at h
      rcases nil_or_snoc (runs o) with eo | ⟨ss, ⟨y, d⟩, eo⟩
      · rw [eo] at h
        exact absurd (paired_nil h) snoc_ne
      · rw [eo] at h
        obtain ⟨q', ⟨x', c'⟩, e1, h1, h2, h3⟩ := paired_split ss h
        obtain ⟨e3, e2⟩ := snoc_inj e1
        cases e2
        subst e3
        have e4 : x = y := h2
        subst e4
        have h3 : c ≤ d := h3
        have hpos : (1 : Int) ≤ d := runs_pos o (x, d) (by rw [eo]; simp)
        rcases nil_or_snoc (runs r') with er | ⟨ts, ⟨m, c2⟩, er⟩
        · rw [er] at e
          obtain ⟨e5, e6⟩ := snoc_inj (l := []) e
          subst e5
          obtain ⟨o', rfl, eo'⟩ := runs_piece (d - 1).toNat (o := o) (ss := ss) (x := x) (by rw [eo]; congr 3; omega)
          exact .more x _ (le_th n hn' (by rw [er, eo']; exact h1))
        · have hc2 : (1 : Int) ≤ c2 := runs_pos r' (m, c2) (by rw [er]; simp)
          rw [er, stepR_snoc] at e
          by_cases em : m = x
          · rw [if_pos em] at e
            obtain ⟨e5, e6⟩ := snoc_inj e
            cases e6
            subst e5 em
            obtain ⟨o', rfl, hh | ⟨_, hh⟩⟩ := runs_last eo
            · omega
            · exact .more m 0 (le_th n hn' (by rw [er, hh]; exact Paired.snoc h1 ⟨rfl, by show c2 ≤ d - 1; omega⟩))
          · rw [if_neg em] at e
            obtain ⟨e5, e6⟩ := snoc_inj e
            cases e6
            subst e5
            obtain ⟨o', rfl, eo'⟩ := runs_piece (d - 1).toNat (o := o) (ss := ss) (x := x) (by rw [eo]; congr 3; omega)
            exact .more x _ (le_th n hn' (by rw [er, eo']; exact h1))
theorem leR_iff : ∀ (rs ss : List (Int × Int)), (decide (rs.map Prod.fst = ss.map Prod.fst) && (rs.zip ss).all fun p => decide (p.1.2 ≤ p.2.2)) = true ↔ Paired LeR rs ss
  | [], [] => ⟨fun _ => .nil, fun _ => rfl⟩
  | [], q :: ss => ⟨fun h => by simp at h, fun h => by cases h⟩
  | p :: rs, [] => ⟨fun h => by simp at h, fun h => by cases h⟩
  | p :: rs, q :: ss => by
    have ih := leR_iff rs ss
    constructor
    · intro h
      simp only [List.map_cons, List.zip_cons_cons, List.all_cons, Bool.and_eq_true, decide_eq_true_eq, List.cons.injEq] at h
      obtain ⟨⟨h1, h2⟩, h3, h4⟩ := h
      refine .cons ⟨h1, h3⟩ (ih.mp ?_)
      simp only [Bool.and_eq_true, decide_eq_true_eq]
      exact ⟨h2, h4⟩
    · intro h
      cases h with
      | cons h1 h2 =>
        have h3 := ih.mpr h2
        simp only [Bool.and_eq_true, decide_eq_true_eq] at h3
        simp only [List.map_cons, List.zip_cons_cons, List.all_cons, Bool.and_eq_true, decide_eq_true_eq, List.cons.injEq]
        exact ⟨⟨h1.1, h3.1⟩, h1.2, h3.2⟩
theorem th_iff (r o : List Int) : (decide ((runs r).map Prod.fst = (runs o).map Prod.fst) && ((runs r).zip (runs o)).all fun p => decide (p.1.2 ≤ p.2.2)) = true ↔ Th r o :=
  (leR_iff _ _).trans ⟨le_th _ rfl, th_le⟩
end Kx
namespace Kx
open PySem PySem.Spec PyProof.Rows L2 SX LamX
/-- a def whose code object is known -/
def FunC (K : PySem.W.Frag) (x qual : Str) (st : Stmt) (f : Addr) (fd : FuncData) (c : Addr) : Prop :=
  ∃ (oc : Value) (od : Option Addr) (kV doc pm : Value) (an : Option Addr) (ct : Value) (osl : Array (Option Value)), fd = PySem.W.fnOf x qual (defArgs st) (defBody st) (defScope st) .none kV doc pm an (.ref c) ct ∧
    K.lookup f = some ⟨oc, od, .func (PySem.W.fnOf x qual (defArgs st) (defBody st) (defScope st) .none kV doc pm an (.ref c) ct), osl⟩ ∧ PySem.W.codeIn K (.ref c) qual = true
section
variable {P : Program} {w : World} {K : PySem.W.Frag} {mg : Str → Option Value} {base : Heap}
/-- the body's rule: guards told, the code object known -/
theorem okC {x qual : Str} {st : Stmt} {f c : Addr} {fd : FuncData} {N ps : List Str} {k : Nat} {sp : Sp} (F : FunC K x qual st f fd c) (S : FnScope N ps (defScope st)) (len : ∀ vs H Q E, sp vs H Q E → vs.length = ps.length)
    (hbody : ∀ (A : Around) (outer : List Env) (s : Shared) (H : Hp) (vs : List V) (Q : VK) (E : XK), A.guards = some [] → Room k (A.deeper (envOfC qual (defScope st) s.heap.objs.size f (.ref c))) → sp vs H Q E →
      ∃ t, PSs (cxOf CX0 P w K mg base N qual (defScope st) f (.ref c) A outer s H E).nox (defBody st) t ∧ t { nx := fun _ H' => Q .non H', rt := Q } (start N vs) H) :
    FnG P w K mg base CX0 (k + 1) f fd ps sp := by
  obtain ⟨oc, od, kV, doc, pm, an, ct, osl, rfl, lk, hcd⟩ := F
  refine ⟨len, fun A outer s H args us vs Q E hg hr e0 hb r hsp => ?_⟩
  refine LamX.run_ofS lk hcd S hr e0 hb r (len _ _ _ _ hsp) fun hr' => ?_
  obtain ⟨t, h, q⟩ := hbody A outer s H vs Q E hg hr' hsp
  exact ⟨t, h.nox, q⟩
theorem funC_mk {x qual : Str} {st : Stmt} {f c : Addr} {oc : Value} {od an : Option Addr} {osl : Array (Option Value)} {kV doc pm ct : Value} (l : K.lookup f = some ⟨oc, od, .func (PySem.W.fnOf x qual (defArgs st) (defBody st) (defScope st) .none kV doc pm an (.ref c) ct), osl⟩)
    (h : PySem.W.codeIn K (.ref c) qual = true) : FunC K x qual st f (PySem.W.fnOf x qual (defArgs st) (defBody st) (defScope st) .none kV doc pm an (.ref c) ct) c := ⟨oc, od, kV, doc, pm, an, ct, osl, rfl, l, h⟩
theorem funC_of {x qual : Str} {st : Stmt} {f c Pt : Addr} {fd : FuncData} (F : Fun K x qual st f fd) (g : PySem.W.nsIn K mainGlobals x = some (some (.ref f))) (t : PySem.W.tabIn K x = some (c, Pt)) : FunC K x qual st f fd c := by
  obtain ⟨oc, od, kV, doc, pm, an, cdv, ct, osl, rfl, lk, hcd⟩ := F.ex
  unfold PySem.W.tabIn at t
  rw [g] at t
  simp only [lk] at t
  have e : (PySem.W.fnOf x qual (defArgs st) (defBody st) (defScope st) .none kV doc pm an cdv ct).code = cdv := rfl
  clear e
  cases cdv with
  | ref c' =>
    simp only at t
    split at t
    · split at t
      · injection t with t
        injection t with t1 t2
        subst t1
        exact ⟨oc, od, kV, doc, pm, an, ct, osl, rfl, lk, hcd⟩
      · cases t
    · cases t
  | _ => simp at t
end
/-- no positional value, two by name: exchanged -/
def swapG {α : Type} (us ws : List α) : List α := match us, ws with | [], [v, u] => [u, v] | _, _ => []
/-- f(b = .., a = ..): two parameters, both by name, the other way round -/
theorem kb_swap {K : PySem.W.Frag} {x qual : Str} {st : Stmt} {f : Addr} {fd : FuncData} {a b : Str} (F : Fun K x qual st f fd)
    (h : ∀ (kV doc pm : Value) (an : Option Addr) (cdv ct : Value) (u v : Value), bindArgs (PySem.W.fnOf x qual (defArgs st) (defBody st) (defScope st) .none kV doc pm an cdv ct) ⟨[], [(b, v), (a, u)]⟩ = pure [(a, u), (b, v)]) :
    KBinds K fd [a, b] [b, a] swapG swapG := by
  obtain ⟨oc, od, kV, doc, pm, an, cdv, ct, osl, rfl, lk, hcd⟩ := F.ex
  refine ⟨fun s us ws X l => ?_, fun {vs us zs ws} r1 r2 => ?_⟩
  · match us, ws, l with
    | [], [v, u], _ => exact .of_eq (h kV doc pm an cdv ct u v)
    | [], [], l => cases l
    | [], [_], l => cases l
    | [], _ :: _ :: _ :: _, l => cases l
    | _ :: _, _, l => cases l
  · cases r1 with
    | cons _ _ => exact .nil
    | nil =>
      cases r2 with
      | nil => exact .nil
      | cons h1 r2 =>
        cases r2 with
        | nil => exact .nil
        | cons h2 r2 =>
          cases r2 with
          | nil => exact .cons h2 (.cons h1 .nil)
          | cons _ _ => exact .nil
/-! ### the scope of a lambda with one default, checked -/
def lamPB (sc scope : Scope) (z : Str) : Bool :=
  decide (scope.kind = .function) && !scope.isCoroutine && !scope.isGenerator && decide (scope.names.lookup z = some .local) && scope.names.all fun y => !decide (y.2 = .cell) && (!decide (y.2 = .local) || decide (y.1 = z)) && (!decide (y.2 = .free) || decide (sc.names.lookup y.1 = some .cell) || decide (sc.names.lookup y.1 = some .free))
theorem lamP_by {sc scope : Scope} {z : Str} (h : lamPB sc scope z = true) : LamP sc scope z := by
  unfold lamPB at h
  simp only [Bool.and_eq_true, Bool.or_eq_true, Bool.not_eq_true', decide_eq_true_eq, decide_eq_false_iff_not, List.all_eq_true] at h
  obtain ⟨⟨⟨⟨h1, h2⟩, h3⟩, h5⟩, h4⟩ := h
  refine { kind := h1, co := h2, gen := h3, own := fun y hy => ⟨(h4 y hy).1.1, fun e => ?_⟩, par := h5, free := fun y hy e => ?_ }
  · rcases (h4 y hy).1.2 with z | z
    · exact absurd e z
    · exact z
  · rcases (h4 y hy).2 with (z | z) | z
    · exact absurd e z
    · exact .inl z
    · exact .inr z
open PySem.W in
/-- the goal that the head leaves, of a law that makes lambdas: x its def's name, P its table -/
theorem walkL {l : OpenLaw} {n k : Nat} {q : Program} {loose : List Str} {XP : (Str → Option Value) → Heap → Prop} {YP : World → Heap → Prop} {d : DefRec} {K : Params → Frag} {x y : Str} (sp : Frag → Addr → Sp)
    (hn : l.most = some n) (hz : n ≤ sizeLine) (h0 : d.params.defaults = []) (hr : Room k callerA) (hY : ∀ (w : World) (h : Heap), YP w h → (K w.params).In h)
    (hc : ∀ p, (∃ r, (recsOf q).find? (fun r => r.name == y) = some r) ∧ ∃ c Pt, tabIn (K p) y = some (c, Pt) ∧ (K p).lookup Pt = none)
    (F : ∀ (w : World) (mg : Str → Option Value) (fa : Addr) (h : Heap), (K w.params).In h → h.Ns mainGlobals mg → mg d.name = some (.ref fa) → ∃ fd : FuncData,
      (∀ (t : Shared) (u : Value), BindsTo t fd ⟨[u], []⟩ [(x, u)]) ∧ ∀ (c Pt : Addr), tabIn (K w.params) y = some (c, Pt) → ∀ base : Heap, (K w.params).In base → base.Ns mainGlobals mg → TabB base mg c Pt → FnG l.prog w (K w.params) mg base CX0 k fa fd [x] (sp (K w.params) Pt))
    (pr : ∀ (K : Frag) (Pt : Addr) (H : Hp) (a : Addr) (ns : List Int), ns.length ≤ n → H Pt = some (.tbl #[]) → SqL K H a (ns.map V.int) → sp K Pt [.ref a] H (fun v _ => v = .bl true) fun _ _ _ => False) :
    WalkO q loose XP YP l.row.toRowW d [] (fun f us => PySem.call f us) := by
  refine walkT (x := x) (K := K) (cs := fun p => [(y, ((tabIn (K p) y).getD (0, 0)))]) (sp := fun K => sp K ((tabIn K y).getD (0, 0)).2) hn hz h0 hr hY (fun p e he => ?_) (fun w mg fa h KX G hmg => ?_) (fun p H a ns hl ht hS _ => pr _ _ H a ns hl (ht _ (List.mem_singleton.mpr rfl)) hS)
  · obtain ⟨h1, c, Pt, h2, h3⟩ := hc p
    cases List.mem_singleton.mp he
    refine ⟨h1, ?_, ?_⟩
    · rw [h2]
      rfl
    · rw [h2]
      exact h3
  · obtain ⟨fd, hb, hF⟩ := F w mg fa h KX G hmg
    obtain ⟨_, c, Pt, h2, _⟩ := hc w.params
    refine ⟨fd, hb, fun base hk hg ht => ?_⟩
    have hT := ht _ (List.mem_singleton.mpr rfl)
    simp only [h2, Option.getD_some] at hT ⊢
    exact hF c Pt h2 base hk hg hT
theorem useIt {α : Type} {P : Prop} (x : α) (h : α → P) : P := h x
theorem binds_one {K : PySem.W.Frag} {x qual a : Str} {st : Stmt} {f : Addr} {fd : FuncData} (F : Fun K x qual st f fd)
    (h : ∀ (kV doc pm : Value) (an : Option Addr) (cdv ct u : Value), bindArgs (PySem.W.fnOf x qual (defArgs st) (defBody st) (defScope st) .none kV doc pm an cdv ct) ⟨[u], []⟩ = pure [(a, u)]) : ∀ (t : Shared) (u : Value), BindsTo t fd ⟨[u], []⟩ [(a, u)] := by
  obtain ⟨oc, od, kV, doc, pm, an, cdv, ct, osl, rfl, lk, hcd⟩ := F.ex
  exact fun t u => .of_eq (h kV doc pm an cdv ct u)
theorem same_ref {mg : Str → Option Value} {x : Str} {a b : Addr} (h : mg x = some (.ref a)) (k : mg x = some (.ref b)) : a = b := by
  rw [h] at k
  injection k with k
  injection k
theorem tabIn_of {K : PySem.W.Frag} {x : Str} {f c Pt : Addr} {oc oc2 : Value} {od od2 : Option Addr} {osl osl2 : Array (Option Value)} {fd : FuncData} {vs : Array Value} (a : PySem.W.nsIn K mainGlobals x = some (some (.ref f)))
    (l : K.lookup f = some ⟨oc, od, .func fd, osl⟩) (e : fd.code = .ref c) (l2 : K.lookup c = some ⟨oc2, od2, .fields vs, osl2⟩) (v : (vs[11]? : Option Value) = some (.ref Pt)) (n : K.lookup Pt = none) :
    ∃ c Pt, PySem.W.tabIn K x = some (c, Pt) ∧ K.lookup Pt = none := by
  refine ⟨c, Pt, ?_, n⟩
  unfold PySem.W.tabIn
  rw [a]
  simp only [l, e, l2, v]
end Kx
namespace Kx
open PySem PySem.Spec PyProof.Rows L2 SX LamX
/-! ### what stays through draws and through the making of lambdas -/
/-- H without what stands at a and without tables -/
def core (a : Addr) (H : Hp) : Hp := fun b => if b = a then none else match H b with | some (.tbl _) => none | o => o
theorem core_at {a b : Addr} {H : Hp} {o : HO} (h : H b = some o) (n : b ≠ a) (t : ∀ ps, o ≠ .tbl ps) : core a H b = some o := by
  unfold core
  rw [if_neg n, h]
  cases o with
  | tbl ps => exact absurd rfl (t ps)
  | _ => rfl
theorem of_core {a b : Addr} {H : Hp} {o : HO} (h : core a H b = some o) : b ≠ a ∧ H b = some o ∧ ∀ ps, o ≠ .tbl ps := by
  unfold core at h
  by_cases e : b = a
  · rw [if_pos e] at h
    cases h
  · rw [if_neg e] at h
    cases q : H b with
    | none => rw [q] at h; cases h
    | some u =>
      rw [q] at h
      cases u with
      | tbl ps => cases h
      | _ =>
        have h' := Option.some.inj h
        subst h'
        exact ⟨e, rfl, fun ps z => by cases z⟩
theorem core_mv {a : Addr} {H H' : Hp} (m : Mv a H H') : Same (core a H) H' := fun b o h => m b o (of_core h).1 (of_core h).2.1
theorem core_ext {a : Addr} {H0 H H' : Hp} (s : Same (core a H0) H) (e : ExtN H H') : Same (core a H0) H' := fun b o h => e b o (s b o h) (of_core h).2.2
theorem Wh.ext {H H' : Hp} {a c : Addr} {n : Nat} (h : Wh H a c n) (e : ExtN H H') : Wh H' a c n := by
  obtain ⟨cs, t, l', h1, h2, h3⟩ := h
  exact ⟨cs, t, l', e _ _ h1 (fun ps z => by cases z), e _ _ h2 (fun ps z => by cases z), h3⟩
theorem Wh.tab {H : Hp} {a c P : Addr} {n : Nat} {ps : Array Value} (h : Wh H a c n) (t : H P = some (.tbl ps)) : P ≠ a := by
  obtain ⟨cs, x, l', h1, _⟩ := h
  exact ne_of_two t h1 (fun z => by cases z)
/-! ### what never is a list or tuple -/
theorem no_list {K : PySem.W.Frag} {n : String} (h1 : kitB n "list" = some false) (h2 : kitB n "tuple" = some false) : PySem.W.kitAny K (.type n) [.type "list", .type "tuple"] = some false := kit_at h1 h2
theorem flat_rep (n : Nat) (xs : List Int) : (List.replicate n (xs.map V.int)).flatten = ((List.replicate n xs).flatten).map V.int := by
  rw [List.map_flatten, List.map_replicate]
theorem rep_one (n : Nat) (x : Int) : (List.replicate n [V.int x]).flatten = (List.replicate n x).map V.int := by
  rw [List.map_replicate]
  induction n with
  | zero => rfl
  | succ j ih => rw [List.replicate_succ, List.flatten_cons, ih, List.replicate_succ]; rfl
theorem flat_length (n : Nat) (xs : List Int) : ((List.replicate n xs).flatten).length = n * xs.length := by
  induction n with
  | zero => simp
  | succ j ih => rw [List.replicate_succ, List.flatten_cons, List.length_append, ih, Nat.succ_mul, Nat.add_comm]
theorem flat_mem {n : Nat} {xs : List Int} {i : Int} (h : i ∈ (List.replicate n xs).flatten) : i ∈ xs := by
  obtain ⟨l, hl, hi⟩ := List.mem_flatten.mp h
  rw [List.eq_of_mem_replicate hl] at hi
  exact hi
/-- one and the same truth, twice -/
theorem dp_bb {K : PySem.W.Frag} {H : Hp} {p : Addr} {b : Bool} (h : H p = some (.lst [.bl b, .bl b])) : Dp K H (.ref p) (.list [.bool b, .bool b]) := .lst (.inl (.inl h)) (.cons (.bl b) (.cons (.bl b) .nil))
/-- [b, b] is shown -/
theorem bb1 (b : Bool) : (PyData.list [.bool b, .bool b]).showable = true := by cases b <;> rfl
theorem bb2 (b : Bool) : (PyData.list [.bool b, .bool b]).hasDict = false := by cases b <;> rfl
theorem bb3 (b : Bool) : (PyData.list [.bool b, .bool b]).depth ≤ 60 := by cases b <;> decide
theorem bb4 (b : Bool) : (PyData.list [.bool b, .bool b]).shown.length ≤ sizeLine := by cases b <;> decide +kernel
theorem bool_of {P : Prop} {a b : Bool} (h1 : a = true ↔ P) (h2 : b = true ↔ P) : a = b := Bool.eq_iff_iff.mpr (h1.trans h2.symm)
theorem ne_self {x : V} : (!decide (x = x)) = false := by simp
theorem th_refl : ∀ (n : Nat) (r : List Int), r.length = n → Th r r
  | 0, r, h => by
    cases r with
    | nil => exact .nil
    | cons _ _ => simp at h
  | n + 1, r, h => by
    rcases nil_or_snoc r with rfl | ⟨r', x, rfl⟩
    · simp at h
    · exact .more x 0 (th_refl n r' (by simpa using h))
end Kx
namespace Kx
open PySem PySem.Spec PyProof.Rows L2 SX LamX
/-! ### a def that calls replace: a token is out when it begins -/
section
variable {X : Cx}
theorem pst_set {i : Nat} {x : Str} {e : Expr} {te : TE} {pos pos' : Pos} (hN : X.N.Nodup) (hi : X.N[i]? = some x) (hx : Loc X.env.scope x) (he : PET X e te) (hs : swapsWith e (some (.Name x pos')) pos.line X.env = pure false := by rfl)
    (hf : X.fn x = true ∨ X.env.scope.names.lookup x = some .local := by first | exact .inl rfl | exact .inr rfl | assumption) : PST X (.Assign [.Name x pos'] e pos) (tAsg te (gName i)) := by
  intro pins s σ H D h0 I h
  refine wpAny_Assign_Name (thn (he pins s σ H _ h0 I h) fun v s1 hh => ?_) hs
  obtain ⟨y, H1, I1, r1, q1⟩ := hh
  exact store_ok I1 hN hi hx r1 (fun s2 I2 => ⟨_, H1, I2, q1⟩) hf
end
theorem okT {P : Program} {w : World} {K : PySem.W.Frag} {mg : Str → Option Value} {base : Heap} {x qual : Str} {st : Stmt} {f : Addr} {fd : FuncData} {N ps : List Str} {k : Nat} {sp : Sp} (F : Fun K x qual st f fd) (S : FnScope N ps (defScope st))
    (hnc : ((defScope st).names.all fun y => !decide (y.2 = .cell)) = true) (hps : 1 ≤ ps.length) (len : ∀ vs H Q E, sp vs H Q E → vs.length = ps.length)
    (hbody : ∀ (cdv : Value) (A : Around) (outer : List Env) (s : Shared) (H : Hp) (vs : List V) (Q : VK) (E : XK), Room k (A.deeper (envOfC qual (defScope st) s.heap.objs.size f cdv)) → sp vs H Q E →
      ∃ t, PSsT (cxOf CX0 P w K mg base N qual (defScope st) f cdv A outer s H E) (defBody st) t ∧ t { nx := fun _ H' => Q .non H', rt := Q } (start N vs) H) :
    FnOk P w K mg base CX0 (k + 1) f fd ps sp := by
  obtain ⟨oc, od, kV, doc, pm, an, cdv, ct, osl, rfl, lk, hcd⟩ := F.ex
  refine fn_ofT lk hcd S (fun y hy e => ?_) hps len fun A outer s H vs Q E hr hsp => hbody cdv A outer s H vs Q E hr hsp
  have h := List.all_eq_true.mp hnc y hy
  rw [e] at h
  exact absurd h (by decide)
/-! ### texts -/
theorem replace_S (l : List Nat) : Txt.replace (S l) ⟨#[32]⟩ ⟨#[]⟩ = S (l.filter (· != 32)) := by
  have h := PyProof.Rows.replace_strikes (S l) 32
  refine TL.ext_tl ?_
  show (Txt.replace (S l) ⟨#[32]⟩ ⟨#[]⟩).cps.toList = (S (l.filter (· != 32))).cps.toList
  rw [h]
theorem S_nil (l : List Nat) : decide (V.str (S l) = V.str "") = l.isEmpty := by
  cases l with
  | nil => rfl
  | cons c t =>
    rw [decide_eq_false]
    · rfl
    · intro e
      injection e with e
      have := congrArg (fun z : Str => z.cps.size) e
      have e0 : (Str.ofString "").cps.size = 0 := rfl
      simp [S] at this
      omega
/-- letters and blanks alone -/
theorem text_filter (l : List Nat) : ((l.filter (· != 32)).isEmpty || lowB (l.filter (· != 32))) = l.all sg := by
  have h : (l.filter (· != 32)).all low = l.all sg := by
    induction l with
    | nil => rfl
    | cons c t ih =>
      by_cases e : c = 32
      · subst e
        rw [List.filter_cons_of_neg (by simp), ih]
        rfl
      · rw [List.filter_cons_of_pos (by simpa using e), List.all_cons, List.all_cons, ih]
        have : sg c = low c := by
          unfold sg
          rw [decide_eq_false e, Bool.false_or]
        rw [this]
  unfold lowB
  rw [h]
  cases hE : (l.filter (· != 32)).isEmpty with
  | true =>
    have : l.filter (· != 32) = [] := List.isEmpty_iff.mp hE
    rw [← h, this]
    rfl
  | false => simp
/-- as an error with its part is raised -/
def RaisedPart (E : XK) (C : Addr) (H : Hp) (part : Str) : Prop := ∀ d H', Same H H' → H' d = some (.xd [("part", .str part)]) → E (.ref C) (some d) H'
/-! ### items between blanks -/
def itemsA (acc : List Nat) : List Nat → List (List Nat)
  | [] => [acc]
  | c :: r => if c = 32 then acc :: itemsA [] r else itemsA (acc ++ [c]) r
theorem pre_blank (c : Nat) (r : List Nat) : TL.pre [32] (c :: r) = decide (c = 32) := by
  by_cases h : c = 32
  · subst h
    simp [TL.pre]
  · have h' : ¬ 32 = c := fun e => h e.symm
    simp [TL.pre, h, h']
theorem spl_items : ∀ (l acc : List Nat), TL.spl [32] 0 acc l = itemsA acc l
  | [], acc => TL.spl_nil _ _ _
  | c :: r, acc => by
    by_cases h : c = 32
    · rw [TL.spl_hit (by rw [pre_blank, decide_eq_true h])]
      show acc :: TL.spl [32] 0 [] r = if c = 32 then acc :: itemsA [] r else itemsA (acc ++ [c]) r
      rw [if_pos h, spl_items r []]
    · rw [TL.spl_miss (by rw [pre_blank, decide_eq_false h])]
      show TL.spl [32] 0 (acc ++ [c]) r = if c = 32 then acc :: itemsA [] r else itemsA (acc ++ [c]) r
      rw [if_neg h, spl_items r (acc ++ [c])]
theorem split_items (l : List Nat) : Txt.split (S l) " " = (itemsA [] l).map S := by
  have h := SX.split_S (a := l) (b := [32]) (by simp) (by decide)
  rw [spl_items] at h
  exact h
def beginsA : Nat → List (List Nat) → List Nat
  | _, [] => []
  | p, x :: xs => p :: beginsA (p + x.length + 1) xs
/-- how far items reach -/
def reachA : Nat → List (List Nat) → Nat
  | p, [] => p
  | p, x :: xs => reachA (p + x.length + 1) xs
theorem beginsA_snoc : ∀ (xs : List (List Nat)) (p : Nat) (x : List Nat), beginsA p (xs ++ [x]) = beginsA p xs ++ [reachA p xs]
  | [], _, _ => rfl
  | y :: ys, p, x => by
    show p :: beginsA (p + y.length + 1) (ys ++ [x]) = p :: (beginsA (p + y.length + 1) ys ++ [reachA (p + y.length + 1) ys])
    rw [beginsA_snoc ys]
theorem reachA_snoc : ∀ (xs : List (List Nat)) (p : Nat) (x : List Nat), reachA p (xs ++ [x]) = reachA p xs + x.length + 1
  | [], _, _ => rfl
  | y :: ys, p, x => reachA_snoc ys _ x
theorem reach_items : ∀ (l acc : List Nat) (p : Nat), reachA p (itemsA acc l) = p + acc.length + l.length + 1
  | [], acc, p => rfl
  | c :: r, acc, p => by
    show reachA p (if c = 32 then acc :: itemsA [] r else itemsA (acc ++ [c]) r) = _
    by_cases h : c = 32
    · rw [if_pos h]
      show reachA (p + acc.length + 1) (itemsA [] r) = _
      rw [reach_items]
      simp
      omega
    · rw [if_neg h, reach_items]
      simp
      omega
theorem items_blank : ∀ (l acc : List Nat), itemsA acc (l ++ [32]) = itemsA acc l ++ [[]]
  | [], acc => rfl
  | c :: r, acc => by
    show (if c = 32 then acc :: itemsA [] (r ++ [32]) else itemsA (acc ++ [c]) (r ++ [32])) = (if c = 32 then acc :: itemsA [] r else itemsA (acc ++ [c]) r) ++ [[]]
    by_cases h : c = 32
    · rw [if_pos h, if_pos h, items_blank]
      rfl
    · rw [if_neg h, if_neg h, items_blank]
theorem items_sign {s : Nat} (hs : s ≠ 32) : ∀ (l acc : List Nat), ∃ xs x, itemsA acc l = xs ++ [x] ∧ itemsA acc (l ++ [s]) = xs ++ [x ++ [s]]
  | [], acc => ⟨[], acc, rfl, by show (if s = 32 then _ else itemsA (acc ++ [s]) []) = _; rw [if_neg hs]; rfl⟩
  | c :: r, acc => by
    by_cases h : c = 32
    · obtain ⟨xs, x, h1, h2⟩ := items_sign hs r []
      refine ⟨acc :: xs, x, ?_, ?_⟩
      · show (if c = 32 then acc :: itemsA [] r else _) = _
        rw [if_pos h, h1]
        rfl
      · show (if c = 32 then acc :: itemsA [] (r ++ [s]) else _) = _
        rw [if_pos h, h2]
        rfl
    · obtain ⟨xs, x, h1, h2⟩ := items_sign hs r (acc ++ [c])
      refine ⟨xs, x, ?_, ?_⟩
      · show (if c = 32 then _ else itemsA (acc ++ [c]) r) = _
        rw [if_neg h, h1]
      · show (if c = 32 then _ else itemsA (acc ++ [c]) (r ++ [s])) = _
        rw [if_neg h, h2]
theorem items_length : ∀ (l acc : List Nat), (itemsA acc l).length = l.count 32 + 1
  | [], acc => rfl
  | c :: r, acc => by
    show (if c = 32 then acc :: itemsA [] r else itemsA (acc ++ [c]) r).length = _
    by_cases h : c = 32
    · subst h
      rw [if_pos rfl, List.length_cons, items_length, List.count_cons_self]
    · rw [if_neg h, items_length, List.count_cons_of_ne h]
theorem join_items : ∀ (l acc : List Nat), TL.joinL [32] (itemsA acc l) = acc ++ l
  | [], acc => by simp [itemsA, TL.joinL]
  | c :: r, acc => by
    show TL.joinL [32] (if c = 32 then acc :: itemsA [] r else itemsA (acc ++ [c]) r) = _
    by_cases h : c = 32
    · subst h
      rw [if_pos rfl]
      have ih := join_items r []
      cases hi : itemsA [] r with
      | nil =>
        have := items_length r []
        rw [hi] at this
        simp at this
      | cons x xs =>
        rw [hi] at ih
        show acc ++ ([32] ++ TL.joinL [32] (x :: xs)) = _
        rw [ih]
        simp
    · rw [if_neg h, join_items]
      simp
theorem beginsA_length : ∀ (xs : List (List Nat)) (p : Nat), (beginsA p xs).length = xs.length
  | [], _ => rfl
  | x :: xs, p => by
    show (beginsA (p + x.length + 1) xs).length + 1 = xs.length + 1
    rw [beginsA_length xs]
theorem item_le : ∀ (l acc it : List Nat), it ∈ itemsA acc l → it.length ≤ acc.length + l.length
  | [], acc, it, h => by
    rw [List.mem_singleton.mp h]
    simp
  | c :: r, acc, it, h => by
    have h : it ∈ (if c = 32 then acc :: itemsA [] r else itemsA (acc ++ [c]) r) := h
    by_cases e : c = 32
    · rw [if_pos e] at h
      rcases List.mem_cons.mp h with rfl | h
      · simp
      · have := item_le r [] it h
        simp at this ⊢
        omega
    · rw [if_neg e] at h
      have := item_le r _ it h
      simp at this ⊢
      omega
end Kx
namespace Kx
open PySem PySem.Spec PyProof.Rows L2 SX LamX
/-! ### an int or a truth is (not) a truth -/
def rNotBI : R2 := fun x y H Q => ∃ b : Bool, y = .bl b ∧ ((∃ i : Int, x = .int i ∧ Q (.bl true) H) ∨ ∃ a : Bool, x = .bl a ∧ Q (.bl (!decide (a = b))) H)
section
variable {X : Cx}
theorem op_notBI : OpR X (compareOp .IsNot) rNotBI := by
  intro pins s σ H x y v u Q I rx ry h
  obtain ⟨b, rfl, h⟩ := h
  rcases h with ⟨i, rfl, q⟩ | ⟨a, rfl, q⟩
  · obtain ⟨t, rfl⟩ := rx
    obtain rfl : u = Value.bool b := ry
    exact wpAny_isNot_other rfl (fun z => nomatch z) ⟨.bl true, H, I, rfl, q⟩
  · exact op_notBl pins s σ H _ _ v u Q I rx ry ⟨a, b, rfl, rfl, q⟩
/-! ### list(text) -/
def signsV (l : List Nat) : List V := l.map fun c => V.str (S [c])
theorem vals_signs : ∀ {l : List Nat} {its : List Value}, l.length = its.length → (∀ (i : Nat) (c : Nat), l[i]? = some c → ∃ u : Tok, its[i]? = some (Value.str (S [c]) u)) → Vals (signsV l) its
  | [], [], _, _ => .nil
  | [], _ :: _, h, _ => by simp at h
  | _ :: _, [], h, _ => by simp at h
  | c :: l, v :: its, hl, h => by
    obtain ⟨u, e⟩ := h 0 c rfl
    have e' : v = .str (S [c]) u := by simpa using e
    exact .cons ⟨u, e'⟩ (vals_signs (by simpa using hl) fun i d hd => by
      have := h (i + 1) d (by simpa using hd)
      simpa using this)
theorem call_list_txt (hc : X.calm = true) : CallR X (.type "list") (fun xs H Q => ∃ l : List Nat, xs = [.str (S l)] ∧ l.length ≤ 1000000 ∧ ∀ p, H p = none → Q (.ref p) (upd H p (.lst (signsV l)))) := by
  intro pins s σ H xs us Q I r h
  obtain ⟨l, rfl, hl, q⟩ := h
  obtain ⟨u, rfl, t, rfl⟩ := vals1 r
  have hz : (S l).cps.size = l.length := by simp [S]
  have hn : (S l).cps.size ≤ sizeLine := by
    rw [hz]
    exact Nat.le_trans hl (by decide)
  refine call_list_str (hn := hn) (I.ok.hd hc) (S l) t fun h' tk acc' c' k e1 e2 => ?_
  obtain ⟨z1, z2⟩ := e2
  rw [hz] at z1
  have rv : Vals (signsV l) acc'.toList := by
    refine vals_signs (l := l) (by have e := Array.length_toList (xs := acc'); omega) fun i c hi => ?_
    have il : i < l.length := by
      rcases Nat.lt_or_ge i l.length with h | h
      · exact h
      · rw [List.getElem?_eq_none h] at hi
        cases hi
    have ia : i < acc'.size := by omega
    obtain ⟨d, u, h3, h4⟩ := z2 i acc'[i] (by simp [ia])
    have h5 : (S l).cps[i]? = l[i]? := by simp [S]
    rw [h5, hi] at h3
    cases h3
    refine ⟨u, ?_⟩
    have h6 : acc'.toList[i]? = some acc'[i] := by simp [ia]
    rw [h6, h4]
  exact ⟨.ref s.heap.objs.size, upd H s.heap.objs.size (.lst (signsV l)), I.laid (t' := tk) k (Nat.le_refl _) (show ObjOk X.prog X.w _ h' _ (.lst (signsV l)) from ⟨by unfold signsV; rw [List.length_map]; exact Nat.le_trans hl (by decide), acc'.toList, c', rv, by simpa using e1⟩), rfl, q _ (I.hok.fresh (Nat.le_refl _))⟩
end
/-! ### enumerate(text) -/
def IteS (x : Str) : It :=
  ⟨fun i _ => i < x.cps.size, fun i H v H' => ∃ T c, v = .ref T ∧ H T = none ∧ H' = upd H T (.tup [.int (i : Nat), .str ⟨#[c]⟩]) ∧ x.cps[i]? = some c, fun i _ => i = x.cps.size⟩
theorem draws_str {prog : Program} {w : World} {A : Around} (hh : A.handled = none) (it : Addr) (x : Str) (t : Tok) :
    Draws prog w A it [it] x.cps.size (fun i v => ∃ c u, x.cps[i]? = some c ∧ v = .str ⟨#[c]⟩ u) (fun i h => h.IsStrIter it (strIterType x) x t i) := by
  unfold strIterType
  cases x.cps.all (· < 128)
  · exact Draws.strWide hh it x t
  · exact Draws.strAscii hh it x t
theorem turn_enumS {P : Program} {w : World} {K : PySem.W.Frag} {elts : List Expr} {kk : Nat} {tpos : Pos} (x : Str) (t : Tok) (e it : Addr) :
    Turn P w K (.Tuple elts kk tpos) (IteS x) [e, it] e (fun i h => (∃ old, IsEnum h e it ((i : Nat) : Int) old) ∧ h.IsStrIter it (strIterType x) x t i ∧ e ≠ it) where
  mem := by simp
  obj := fun i h st b hb => by
    obtain ⟨⟨old, he⟩, ⟨o, ho, hc, hd⟩, _⟩ := st
    rcases (show b = e ∨ b = it by simpa using hb) with z | z
    · rw [z]
      exact ⟨_, he, fun v q => nomatch q⟩
    · rw [z]
      exact ⟨o, ho, fun v q => by rw [hd] at q; cases q⟩
  keep := fun i h h' st k => by
    obtain ⟨⟨old, he⟩, ⟨o, ho, r⟩, hne⟩ := st
    exact ⟨⟨old, k e (by simp) _ he⟩, ⟨o, k it (by simp) _ ho, r⟩, hne⟩
  item := by
    intro X hP hw hK hc i pins s σ H E I hf st hg
    subst hP hw hK
    obtain ⟨⟨old, he⟩, hit, hne⟩ := st
    have el : e < s.heap.objs.size := Heap.lt_size he
    have il : it < s.heap.objs.size := by
      obtain ⟨_, q, _⟩ := hit
      exact Heap.lt_size q
    have D := draws_str (prog := X.prog) (w := X.w) (A := X.A.in1) (I.ok.hd hc) it x t
    refine wpAny_pyNext_enum_itemD D he hit hg hne (by simpa using hne) fun u h' tk hu ho hit' hT hz hk => ?_
    obtain ⟨c, tu, hcx, rfl⟩ := hu
    refine ⟨_, rfl, wpAny_letOwnedTupleGo_enum (s := { s with heap := h', toks := tk + 1 }) ho fun h2 he' sb => ?_⟩
    have T2 := (sb.2 _ (Nat.ne_of_gt el)).trans hT
    have new : ObjOk X.prog X.w (upd H s.heap.objs.size (.tup [.int (i : Nat), .str ⟨#[c]⟩])) h2 s.heap.objs.size (.tup [.int (i : Nat), .str ⟨#[c]⟩]) :=
      ⟨by show 2 ≤ sizeLine; decide, [.int i tk, .str ⟨#[c]⟩ tu], .cons ⟨_, rfl⟩ (.cons ⟨_, rfl⟩ .nil), ⟨_, T2, rfl, _, rfl⟩⟩
    have I1 : Inv X pins σ (upd H s.heap.objs.size (.tup [.int (i : Nat), .str ⟨#[c]⟩])) { s with heap := h2, toks := tk + 1 } :=
      I.turnedNew (ch := [e, it]) (fun b ob hb q => (sb.2 b (fun z => hb (by simp [z]))).trans (hk b ob (fun z => hb (by simp [z])) (fun z => hb (by simp [z])) q)) hf (Nat.le_refl _) new
    refine ⟨.ref s.heap.objs.size, _, I1, rfl, ⟨_, c, rfl, I.hok.fresh (Nat.le_refl _), rfl, hcx⟩, ⟨⟨.str ⟨#[c]⟩ tu, ?_⟩, ?_, hne⟩, fun b hb => ?_⟩
    · rw [show ((i + 1 : Nat) : Int) = (i : Int) + 1 by omega]
      exact he'
    · obtain ⟨o, ho2, r⟩ := hit'
      exact ⟨o, (sb.2 it (Ne.symm hne)).trans ho2, r⟩
    · have hb' : b < s.heap.objs.size := by
        rcases (show b = e ∨ b = it by simpa using hb) with z | z
        · rw [z]
          exact el
        · rw [z]
          exact il
      rw [upd_ne (Nat.ne_of_lt hb')]
      exact (hf b hb).1
  done := by
    intro X hP hw hK hc i pins s σ H E I hf st hg
    subst hP hw hK
    obtain ⟨⟨old, he⟩, hit, hne⟩ := st
    obtain ⟨f0, f1, f2, f3, f4, f5⟩ := hf it (by simp)
    have hg : i = x.cps.size := hg
    subst hg
    have D := draws_str (prog := X.prog) (w := X.w) (A := X.A.in1) (I.ok.hd hc) it x t
    exact wpAny_pyNext_enum_endD D he hit fun h' eb => ⟨rfl, I.turned (t' := s.toks) (fun b o hb q => eb b o hb q) f0 f1 f3 f4 f5⟩
  self := fun A i s Q E st h => by
    obtain ⟨⟨_, he⟩, _⟩ := st
    exact wpAny_pyIter_enum he h
def iEnumS (ta : TA) : TI := fun σ H R => ta σ H fun vs H1 => ∃ x : Str, vs = [.str x] ∧ R (IteS x) H1
theorem pi_enumS {X : Cx} {e : Expr} {ta : TA} {p pos tpos : Pos} {elts : List Expr} {kk : Nat} (hg : Gl X "enumerate") (hm : X.mg "enumerate" = none) (ha : PA X [e] ta) (hs : starEach [e] X.env = [(false, eval e X.env)] := by rfl) :
    PI X (.Tuple elts kk tpos) (.Call (.Name "enumerate" p) [e] [] pos) (iEnumS ta) := by
  refine ⟨fun pins s σ H R I h => ?_⟩
  refine Call_ (ld_blt I hg hm boot_enumerate (PyProof.Rows.callWith_type1 (thn (ha.run pos pins s σ H _ I h) fun us s1 hh => ?_) hs rfl))
  obtain ⟨vs, H1, I1, r1, x, rfl, q⟩ := hh
  obtain ⟨u, rfl, t, rfl⟩ := vals1 r1
  refine call_enumerate_str fun h' he hit hz hk => wpAny_pyIter_enum he ?_
  have I2 : Inv X pins σ H1 { s1 with heap := h' } := I1.kept (t' := s1.toks) hk
  refine ⟨s1.heap.objs.size + 1, [s1.heap.objs.size + 1, s1.heap.objs.size], _, _, H1, rfl, I2, turn_enumS x t (s1.heap.objs.size + 1) s1.heap.objs.size, ⟨⟨.none, he⟩, hit, Nat.succ_ne_self _⟩, fun b hb => ?_, q⟩
  have hle : s1.heap.objs.size ≤ b := by
    rcases (show b = s1.heap.objs.size + 1 ∨ b = s1.heap.objs.size by simpa using hb) with z | z
    · rw [z]
      exact Nat.le_add_right _ _
    · rw [z]
      exact Nat.le_refl _
  exact I1.fpOk hle (I1.hok.fresh hle)
theorem walk_enumS {x : Str} : Walk (IteS x) x.cps.size (fun _ => True) (fun i H v H' => ∃ T c, v = .ref T ∧ H T = none ∧ H' = upd H T (.tup [.int (i : Nat), .str ⟨#[c]⟩]) ∧ x.cps[i]? = some c) :=
  ⟨fun _ _ h _ => h, fun _ _ => rfl, fun _ _ _ _ _ _ y => y⟩
end Kx
namespace Kx
open PySem PySem.Spec PyProof.Rows L2 SX LamX
/-! ### values of all kinds -/
def KindIs (K : PySem.W.Frag) (H : Hp) (x : V) : Prop := (∃ i, x = .int i) ∨ (∃ b, x = .bl b) ∨ (isIntV x = false ∧ ∃ n, TyX K H x (.type n) ∧ kitB n "int" = some false)
section
variable {K : PySem.W.Frag} {H H' : Hp}
theorem KindIs.same {x : V} (e : Same H H') (h : KindIs K H x) : KindIs K H' x := by
  rcases h with h | h | ⟨h, n, h1, h2⟩
  · exact .inl h
  · exact .inr (.inl h)
  · exact .inr (.inr ⟨h, n, tyx_same e h1, h2⟩)
theorem kind_non : KindIs K H .non := .inr (.inr ⟨rfl, "NoneType", .base .non, by decide +kernel⟩)
theorem kind_str (x : Str) : KindIs K H (.str x) := .inr (.inr ⟨rfl, "str", .base (.str x), by decide +kernel⟩)
theorem kind_lst {a : Addr} {ws : List V} (h : SqL K H a ws) : KindIs K H (.ref a) := .inr (.inr ⟨rfl, "list", tyL h, by decide +kernel⟩)
theorem kind_tup {a : Addr} {ws : List V} (h : SqT K H a ws) : KindIs K H (.ref a) := .inr (.inr ⟨rfl, "tuple", tyT h, by decide +kernel⟩)
theorem kind_dk {a : Addr} {kvs : List (Key × V)} (h : H a = some (.dK kvs)) : KindIs K H (.ref a) := .inr (.inr ⟨rfl, "dict", .base (.dK h), by decide +kernel⟩)
theorem hasInt_dk {a : Addr} {kvs : List (Key × V)} (h : H a = some (.dK kvs)) : HasInt K H (.ref a) := ⟨"dict", false, false, .base (.dK h), by decide +kernel, by decide +kernel, rfl⟩
end
/-- an item: of what kind it is -/
def Itm (K : PySem.W.Frag) (H : Hp) (v : V) : Prop := HasInt K H v ∧ KindIs K H v
theorem Itm.same {K : PySem.W.Frag} {H H' : Hp} {x : V} (e : Same H H') (h : Itm K H x) : Itm K H' x := ⟨h.1.same e, h.2.same e⟩
/-- codes of signs -/
def cdC (l : List Nat) : Prop := l.all (fun c => decide (c < 1114112)) = true
theorem cdC.app {l m : List Nat} (h : cdC l) (k : cdC m) : cdC (l ++ m) := by
  unfold cdC at h k ⊢
  rw [List.all_append, h, k]
  rfl
theorem cdC.sub {l m : List Nat} (h : cdC l) (k : ∀ c ∈ m, c ∈ l) : cdC m := by
  unfold cdC at h ⊢
  exact List.all_eq_true.mpr fun c hc => List.all_eq_true.mp h c (k c hc)
theorem ok_ofString (s : String) : cdC (Str.ofString s).cps.toList := by
  rw [Str.ofString_eq_toList]
  unfold cdC
  refine List.all_eq_true.mpr fun n hn => ?_
  obtain ⟨c, _, rfl⟩ := List.mem_map.mp (by simpa using hn)
  refine decide_eq_true ?_
  have hv := c.valid
  show c.val.toNat < 1114112
  rcases hv with h | ⟨_, h⟩
  · have h' : c.val.toNat < 55296 := h
    omega
  · exact h
inductive AnyV (K : PySem.W.Frag) (H : Hp) : V → Prop where
  | non : AnyV K H .non
  | bl (b : Bool) : AnyV K H (.bl b)
  | int (i : Int) : AnyV K H (.int i)
  | str (l : List Nat) (h : l.length ≤ 5000) (v : cdC l) : AnyV K H (.str (S l))
  | lst {a : Addr} {ws : List V} (h : SqL K H a ws) (n : ws.length ≤ 1000) (t : ∀ v ∈ ws, Itm K H v) : AnyV K H (.ref a)
  | tup {a : Addr} {ws : List V} (h : SqT K H a ws) (n : ws.length ≤ 1000) (t : ∀ v ∈ ws, Itm K H v) : AnyV K H (.ref a)
  | dk {a : Addr} {kvs : List (Key × V)} (h : H a = some (.dK kvs)) : AnyV K H (.ref a)
section
variable {K : PySem.W.Frag} {H H' : Hp} {x : V}
theorem AnyV.same (e : Same H H') (h : AnyV K H x) : AnyV K H' x := by
  cases h with
  | non => exact .non
  | bl b => exact .bl b
  | int i => exact .int i
  | str l h v => exact .str l h v
  | lst h n t => exact .lst (e.seq h) n fun v m => (t v m).same e
  | tup h n t => exact .tup (Same.t e h) n fun v m => (t v m).same e
  | dk h => exact .dk (e _ _ h)
theorem AnyV.itm (h : AnyV K H x) : Itm K H x := by
  cases h with
  | non => exact ⟨hasInt_non, kind_non⟩
  | bl b => exact ⟨hasInt_bl b, .inr (.inl ⟨b, rfl⟩)⟩
  | int i => exact ⟨hasInt_int i, .inl ⟨i, rfl⟩⟩
  | str l h v => exact ⟨hasInt_str _, kind_str _⟩
  | lst h n t => exact ⟨hasInt_lst h, kind_lst h⟩
  | tup h n t => exact ⟨hasInt_tup h, kind_tup h⟩
  | dk h => exact ⟨hasInt_dk h, kind_dk h⟩
/-- is it a list or a tuple -/
theorem AnyV.seq (h : AnyV K H x) : (∃ n, TyX K H x (.type n) ∧ PySem.W.kitAny K (.type n) [.type "list", .type "tuple"] = some false) ∨
    ∃ (a : Addr) (ws : List V), x = .ref a ∧ SqQ K H a ws ∧ ws.length ≤ 1000 ∧ ∀ v ∈ ws, Itm K H v := by
  cases h with
  | non => exact .inl ⟨"NoneType", .base .non, no_list (by decide +kernel) (by decide +kernel)⟩
  | bl b => exact .inl ⟨"bool", .base (.bl b), no_list (by decide +kernel) (by decide +kernel)⟩
  | int i => exact .inl ⟨"int", .base (.int i), no_list (by decide +kernel) (by decide +kernel)⟩
  | str l h v => exact .inl ⟨"str", .base (.str _), no_list (by decide +kernel) (by decide +kernel)⟩
  | lst h n t => exact .inr ⟨_, _, rfl, .inl h, n, t⟩
  | tup h n t => exact .inr ⟨_, _, rfl, .inr h, n, t⟩
  | dk h => exact .inl ⟨"dict", .base (.dK h), no_list (by decide +kernel) (by decide +kernel)⟩
/-- is it a text -/
theorem AnyV.str? (h : AnyV K H x) : (∃ l : List Nat, x = .str (S l) ∧ l.length ≤ 5000 ∧ cdC l) ∨ ∃ n, TyX K H x (.type n) ∧ kitB n "str" = some false := by
  cases h with
  | non => exact .inr ⟨"NoneType", .base .non, by decide +kernel⟩
  | bl b => exact .inr ⟨"bool", .base (.bl b), by decide +kernel⟩
  | int i => exact .inr ⟨"int", .base (.int i), by decide +kernel⟩
  | str l h v => exact .inl ⟨l, rfl, h, v⟩
  | lst h n t => exact .inr ⟨"list", tyL h, by decide +kernel⟩
  | tup h n t => exact .inr ⟨"tuple", tyT h, by decide +kernel⟩
  | dk h => exact .inr ⟨"dict", .base (.dK h), by decide +kernel⟩
end
theorem S_of (x : Str) : S x.cps.toList = x := by
  cases x
  simp [S]
theorem any_text {K : PySem.W.Frag} {H : Hp} (x : Str) (h : x.length ≤ 5000) (v : cdC x.cps.toList) : AnyV K H (.str x) := by
  have e := AnyV.str (K := K) (H := H) x.cps.toList (by simpa [Str.length] using h) v
  rw [S_of] at e
  exact e
theorem itms_nil {K : PySem.W.Frag} {H : Hp} : ∀ v ∈ ([] : List V), Itm K H v := fun _ m => by cases m
theorem itms_cons {K : PySem.W.Frag} {H : Hp} {x : V} {xs : List V} (h : Itm K H x) (t : ∀ v ∈ xs, Itm K H v) : ∀ v ∈ x :: xs, Itm K H v := fun v m => by
  rcases List.mem_cons.mp m with rfl | m
  · exact h
  · exact t v m
theorem itm_int {K : PySem.W.Frag} {H : Hp} (i : Int) : Itm K H (.int i) := ⟨hasInt_int i, .inl ⟨i, rfl⟩⟩
theorem itm_bl {K : PySem.W.Frag} {H : Hp} (b : Bool) : Itm K H (.bl b) := ⟨hasInt_bl b, .inr (.inl ⟨b, rfl⟩)⟩
theorem joinL_nil : ∀ (l : List Nat), TL.joinL [] (l.map fun c => [c]) = l
  | [] => rfl
  | [c] => rfl
  | c :: d :: r => by
    have ih := joinL_nil (d :: r)
    show [c] ++ ([] ++ TL.joinL [] ((d :: r).map fun c => [c])) = c :: d :: r
    rw [ih]
    rfl
theorem join_signs (l : List Nat) : Txt.join "" (l.map fun c => S [c]) = S l := by
  have h := SX.join_S [] (l.map fun c => [c])
  rw [joinL_nil, List.map_map] at h
  exact h
theorem sum_signs : ∀ (l : List Nat), ((l.map fun c => S [c]).map (·.length)).sum = l.length
  | [] => rfl
  | c :: r => by
    show (S [c]).length + ((r.map fun c => S [c]).map (·.length)).sum = r.length + 1
    rw [sum_signs r, S_len]
    show 1 + r.length = _
    omega
theorem signs_map (l : List Nat) : signsV l = (l.map fun c => S [c]).map V.str := by
  unfold signsV
  rw [List.map_map]
  rfl
theorem in_signs {l : List Nat} {v : V} (h : v ∈ signsV l) : ∃ c, c ∈ l ∧ v = .str (S [c]) := by
  obtain ⟨c, hc, e⟩ := List.mem_map.mp h
  exact ⟨c, hc, e.symm⟩
end Kx
namespace Kx
open PySem PySem.Spec PyProof.Rows L2 SX LamX
section
variable {K : PySem.W.Frag} {J : It} {n : Nat} {G : Hp → Prop} {Y : Nat → Hp → V → Hp → Prop} {g : TG} {tt : TT} {te : TE} {vs : List Nat} {σ : L2.St} {H1 : Hp} {D : Addr} {Qd : Hp → Prop}
theorem keep_some {zs : List (Option V)} {i : Nat} {v : V} (h : zs[i]? = some (some v)) : (zs.take (i + 1)).filterMap id = (zs.take i).filterMap id ++ [v] := by
  rw [List.take_add_one, h, List.filterMap_append]
  rfl
theorem keep_none {zs : List (Option V)} {i : Nat} (h : zs[i]? = some none) : (zs.take (i + 1)).filterMap id = (zs.take i).filterMap id := by
  rw [List.take_add_one, h, List.filterMap_append]
  simp
/-- a comprehension with a test, its items told ahead: none where the test fails -/
theorem lc_keep (w : Walk J n G Y) (zs : List (Option V)) (hz : zs.length = n) (nD : H1 D = none) (len : n ≤ 1000000) (hG : ∀ Hc, Same H1 Hc → G Hc)
    (turn : ∀ (i : Nat) (x : V) (z : Option V) (Hc Hx : Hp) (Q' : VK) (R' : Hp → Prop), i < n → zs[i]? = some z → Same H1 Hc → Y i Hc x Hx → (∀ v H4, z = some v → Same Hc H4 → Q' v H4) → (∀ H4, z = none → Same Hc H4 → R' H4) → g x (wipe σ vs) Hx fun σ2 H2 => wipe σ2 vs = wipe σ vs ∧ tt σ2 H2 fun b H3 => if b = true then te σ2 H3 Q' else R' H3)
    (fin : ∀ Hc, Same H1 Hc → Hc D = some (.lst (zs.filterMap id)) → Qd Hc) :
    ∃ W : Nat → Nat → Hp → Prop, (∃ m, W 0 m (upd H1 D (.lst []))) ∧ ∀ i m H, W i m H →
      (J.stop i H ∧ Qd H) ∨ (J.go i H ∧ ∃ Nx : Hp → Prop, (∀ H', Nx H' → ∃ m', m' < m ∧ W (i + 1) m' H') ∧ ∀ x H', J.yld i H x H' → g x (wipe σ vs) H' fun σ2 H2 => wipe σ2 vs = wipe σ vs ∧ tt σ2 H2 fun b H3 =>
        if b = true then te σ2 H3 fun y H4 => ∃ acc, H4 D = some (.lst acc) ∧ acc.length < sizeLine ∧ Nx (upd H4 D (.lst (acc ++ [y]))) else Nx H3) := by
  refine lc_it w (fun i Hc => Same H1 Hc ∧ Hc D = some (.lst ((zs.take i).filterMap id))) ⟨same_new nD, upd_same⟩ (fun i H _ p => hG H p.1) (fun i x Hc Hx hi p y => ?_) (fun Hc p => ?_)
  · have hzi : zs[i]? = some (zs[i]'(by omega)) := List.getElem?_eq_getElem (by omega)
    refine turn i x _ Hc Hx _ _ hi hzi p.1 y (fun v H4 ev e4 => ⟨_, e4 _ _ p.2, ?_, ?_⟩) (fun H4 ev e4 => ⟨p.1.trans e4, ?_⟩)
    · have h1 : ((zs.take i).filterMap id).length ≤ (zs.take i).length := List.length_filterMap_le ..
      rw [List.length_take] at h1
      exact Nat.lt_of_le_of_lt (show _ ≤ 1000000 by omega) (by decide)
    · refine ⟨fun b o z => ?_, ?_⟩
      · rw [upd_ne (ne_of_none z nD)]
        exact e4 _ _ (p.1 b o z)
      · rw [upd_same, keep_some (by rw [hzi, ev])]
    · rw [keep_none (by rw [hzi, ev])]
      exact e4 _ _ p.2
  · rw [← hz, List.take_length] at p
    exact fin Hc p.1 p.2
end
section
variable {K : PySem.W.Frag} {a : Addr} {xs : List V} {g : TG} {tt : TT} {te : TE} {vs : List Nat} {σ : L2.St} {H : Hp} {k : Nat} {Q : VK} {l : List Nat}
/-- [e for c in NAME if t], NAME a text -/
theorem lc_txt (zs : List (Option V)) (hz : zs.length = l.length) (hi : σ[k]? = some (some (.str (S l)))) (len : l.length ≤ 1000000)
    (turn : ∀ (i : Nat) (c : Nat) (z : Option V) (Hc : Hp) (Q' : VK) (R' : Hp → Prop), l[i]? = some c → zs[i]? = some z → Same H Hc → (∀ v H4, z = some v → Same Hc H4 → Q' v H4) → (∀ H4, z = none → Same Hc H4 → R' H4) → g (.str (S [c])) (wipe σ vs) Hc fun σ2 H2 => wipe σ2 vs = wipe σ vs ∧ tt σ2 H2 fun b H3 => if b = true then te σ2 H3 Q' else R' H3)
    (fin : ∀ (D : Addr) (Hc : Hp), Same H Hc → Hc D = some (.lst (zs.filterMap id)) → Q (.ref D) Hc) :
    tLc (iStr (tVar k)) g tt te vs σ H Q := by
  have e : (S l).cps.size = l.length := by simp [S]
  refine ⟨_, hi, S l, rfl, fun D nD => lc_keep walk_str zs (by rw [hz, e]) nD (by rw [e]; exact len) (fun _ _ => trivial) (fun i x z Hc Hx Q' R' _ hzi e1 y q r => ?_) (fin D)⟩
  obtain ⟨rfl, c, hc, rfl⟩ := y
  have hc' : l[i]? = some c := by
    have : (S l).cps[i]? = l[i]? := by simp [S]
    rw [← this]
    exact hc
  exact turn i c z _ Q' R' hc' hzi e1 q r
/-- [e for x in NAME if t], NAME a list -/
theorem lc_lstk (zs : List (Option V)) (hz : zs.length = xs.length) (hi : σ[k]? = some (some (.ref a))) (hq : SqL K H a xs) (len : xs.length ≤ 1000000)
    (turn : ∀ (i : Nat) (x : V) (z : Option V) (Hc : Hp) (Q' : VK) (R' : Hp → Prop), xs[i]? = some x → zs[i]? = some z → Same H Hc → (∀ v H4, z = some v → Same Hc H4 → Q' v H4) → (∀ H4, z = none → Same Hc H4 → R' H4) → g x (wipe σ vs) Hc fun σ2 H2 => wipe σ2 vs = wipe σ vs ∧ tt σ2 H2 fun b H3 => if b = true then te σ2 H3 Q' else R' H3)
    (fin : ∀ (D : Addr) (Hc : Hp), Same H Hc → Hc D = some (.lst (zs.filterMap id)) → Q (.ref D) Hc) :
    tLc (iList K (tVar k)) g tt te vs σ H Q := ⟨_, hi, a, rfl, ⟨_, hq⟩, fun D nD => lc_keep walk_list zs hz nD len (fun Hc e => e.seq hq) (fun i x z Hc Hx Q' R' _ hzi e y q r => by
      obtain ⟨rfl, hx⟩ := y
      exact turn i x z _ Q' R' hx hzi e q r) (fin D)⟩
end
/-- texts of one sign each, laid -/
theorem pl_signs {l : List Nat} (h : cdC l) : ∀ d ∈ l.map (fun c => PyData.str (S [c])), Pl 0 d := fun d m => by
  obtain ⟨c, hc, rfl⟩ := List.mem_map.mp m
  refine ⟨?_, Nat.le_refl _⟩
  have h2 := List.all_eq_true.mp h c hc
  show (S [c]).cps.all (· < 0x110000) = true
  simpa [S] using of_decide_eq_true h2
theorem dp_signs {K : PySem.W.Frag} {H : Hp} (l : List Nat) : Paired (fun v d => Dp K H v d) (signsV l) (l.map fun c => PyData.str (S [c])) := paired_of_map _ _ fun c _ => .str (S [c])
/-- «xs == []», any laid items -/
theorem eq_nilD {K : PySem.W.Frag} {H : Hp} {a p : Addr} {vs : List V} {ds : List PyData} {k : Nat} {Q : VK} (h1 : SqL K H a vs) (hd : Paired (fun v d => Dp K H v d) vs ds) (hp : ∀ d ∈ ds, Pl k d) (hk : k ≤ 60) (h2 : H p = some (.lst [])) (q : Q (.bl (decide (ds = []))) H) : rEqD K (.ref a) (.ref p) H Q :=
  ⟨_, _, .lst h1 (dpAll_of hd), dp_ints (xs := []) (.inl (.inl h2)), (Pl.lst hp).shaped (by omega), (pl_ints []).shaped (by decide), by
    have e : PyData.eqv (.list ds) (.list (([] : List Int).map PyData.int)) = decide (ds = []) := by
      cases ds with
      | nil => rfl
      | cons d t => rfl
    rw [e]
    exact q⟩
theorem filt_map {α β : Type} (p : α → Bool) (f : α → β) : ∀ (l : List α), (l.map fun c => if p c = true then some (f c) else none).filterMap id = (l.filter p).map f
  | [] => rfl
  | c :: l => by
    rw [List.map_cons, List.filterMap_cons]
    cases h : p c with
    | true =>
      rw [List.filter_cons_of_pos h]
      show f c :: _ = f c :: _
      rw [filt_map p f l]
    | false =>
      rw [List.filter_cons_of_neg (by rw [h]; decide)]
      exact filt_map p f l
end Kx
namespace Kx
open PySem PySem.Spec PyProof.Rows L2 SX LamX
section
variable {D : Ends} {σ : L2.St} {H : Hp}
theorem go_and {ta tb : TE} {Q : VK} (h : ta σ H fun x H1 => ∃ c, x = .bl c ∧ if c = true then tb σ H1 Q else Q (.bl false) H1) : tAndV ta tb σ H Q := h
theorem go_chain {r r' : R2} {ta tb tc : TE} {Q : VK} (h : ta σ H fun x H1 => tb σ H1 fun y H2 => r x y H2 fun z H3 => ∃ k, z = .bl k ∧ if k = true then tc σ H3 fun w' H4 => r' y w' H4 Q else Q (.bl false) H3) : tChain r r' ta tb tc σ H Q := h
theorem go_or {ta tb : TE} {Q : VK} (h : ta σ H fun x H1 => ∃ c, x = .bl c ∧ if c = true then Q (.bl true) H1 else tb σ H1 Q) : tOrV ta tb σ H Q := h
theorem go_lst {t : TA} {Q : VK} (h : t σ H fun xs H1 => xs.length ≤ sizeLine ∧ ∀ p, H1 p = none → Q (.ref p) (upd H1 p (.lst xs))) : tLst t σ H Q := h
end
/-- both, told as one truth -/
theorem and_join {c : Bool} {tb : TE} {Q : VK} {σ : L2.St} {H : Hp} (d : Bool) (h : c = true → ∀ Q' : VK, Q' (.bl d) H → tb σ H Q') (q : Q (.bl (c && d)) H) : ∃ c', V.bl c = .bl c' ∧ if c' = true then tb σ H Q else Q (.bl false) H := by
  refine ⟨c, rfl, ?_⟩
  cases c with
  | true => exact h rfl _ q
  | false => exact q
theorem and_b {c : Bool} {A B : Prop} (h1 : c = true → A) (h2 : c = false → B) : if c = true then A else B := by
  cases c with
  | true => rw [if_pos rfl]; exact h1 rfl
  | false => rw [if_neg (by decide)]; exact h2 rfl
theorem map_nil_dec {α β : Type} (f : α → β) (l : List α) [Decidable (l.map f = [])] : decide (l.map f = []) = l.isEmpty := by
  cases l with
  | nil => exact decide_eq_true rfl
  | cons a t => exact decide_eq_false (fun e => nomatch e)
theorem filt_empty (p : Nat → Bool) (l : List Nat) : (l.filter fun c => !p c).isEmpty = l.all p := by
  induction l with
  | nil => rfl
  | cons c t ih =>
    cases h : p c with
    | true =>
      rw [List.filter_cons_of_neg (by rw [h]; decide), List.all_cons, h, ih]
      rfl
    | false =>
      rw [List.filter_cons_of_pos (by rw [h]; rfl), List.all_cons, h]
      rfl
/-- one sign is the blank -/
theorem is_blank (c : Nat) : decide (V.str (S [c]) = V.str (Str.ofString " ")) = decide (c = 32) := by
  by_cases hc : c = 32
  · subst hc
    rfl
  · rw [decide_eq_false hc, decide_eq_false]
    intro e
    injection e with e
    have := congrArg (fun z : Str => z.cps.toList) e
    simp [S] at this
    exact hc (by have h2 : (Str.ofString " ").cps.toList = [32] := rfl; rw [h2] at this; simpa using this)
theorem take_succ {α : Type} {l : List α} {i : Nat} {c : α} (h : l[i]? = some c) : l.take (i + 1) = l.take i ++ [c] := by
  rw [List.take_add_one, h]
  rfl
theorem ixN_last (n : Nat) : ixN (n + 1) (-1) = some n := by
  unfold ixN
  rw [if_neg (by decide), if_pos (by omega)]
  congr 1
  omega
end Kx
namespace Kx
open PySem PySem.Spec PyProof.Rows L2 SX LamX
section
variable {X : Cx} {k : Nat} {f : Addr} {fd : FuncData} {ps : List Str} {sp : Sp} {x : Str} {p pos : Pos} {e1 : Expr} {more : List Expr} {t : TA}
/-! ### a call of a def that is promised only where no repr runs around it; it raises nothing -/
theorem pe_callG (F : FnG X.prog X.w X.K X.mg X.base CX0 k f fd ps sp) (nog : X.A.guards = some []) (room : Room k X.A) (here : Gl X x) (at_f : X.mg x = some (.ref f)) (keeps : PySem.W.keepIn X.K (.ref f) = true) (bd : Binds X.K fd ps [])
    (args : PA X (e1 :: more) t) (nd : (x == ("__debug__" : Str)) = false := by decide) (h1 : starEach (e1 :: more) X.env = (false, eval e1 X.env) :: starEach more X.env := by rfl) (h2 : (backTo pos (starEach more X.env)).any (·.1) = false := by rfl) :
    PE X (.Call (.Name x p) (e1 :: more) [] pos) (tCall sp [] C8.E0 t) := by
  constructor
  intro pins s σ H Q I want
  apply wpAny_Call_Name_kw
  refine ld_glob I here at_f ?_ nd
  refine PySem.W.callWith_K (h₀ := X.base) I.ok.mod.kin keeps (thn (args.run pos pins s σ H _ I want) fun us st hh => ?_) h1 h2
  obtain ⟨vs, Hm, J, rv, promise⟩ := hh
  rw [List.append_nil] at promise
  have size : (us ++ []).length = ps.length := by
    rw [List.append_nil, ← rv.length]
    exact F.len _ _ _ _ promise
  have bound := bd st us J.kIn size
  rw [List.append_nil] at bound
  refine ⟨J.kIn, wpAny_call (codeAny_mono (F.go X.A X.stack st Hm ⟨us, []⟩ us vs Q C8.E0 nog room J.env0 bound rv promise) fun r st2 done => ?_)⟩
  match r, done with
  | .ok (.ret u), done => exact J.after done
  | .error e, done => exact (show False from done).elim
  | .ok .next, done => exact done.elim
  | .ok .brk, done => exact done.elim
  | .ok .cont, done => exact done.elim
end
/-! ### tables stay through draws -/
theorem Tabs.mv {T : List (Addr × Str)} {a c : Addr} {n : Nat} {H H' : Hp} (t : Tabs T H) (w : Wh H a c n) (m : Mv a H H') : Tabs T H' := fun p hp => by
  obtain ⟨ps, h1, h2, h3⟩ := t p hp
  obtain ⟨cs, x, l', g1, _⟩ := w
  refine ⟨ps, m _ _ (ne_of_two h1 g1 (fun z => by cases z)) h1, h2, fun pos cv hc => ?_⟩
  obtain ⟨c', e1, e2⟩ := h3 pos cv hc
  exact ⟨c', e1, m _ _ (ne_of_two e2 g1 (fun z => by cases z)) e2⟩
theorem Tabs.same {T : List (Addr × Str)} {H H' : Hp} (t : Tabs T H) (m : Same H H') : Tabs T H' := fun p hp => (t p hp).ext m
end Kx
namespace Kx
open PySem PySem.Spec PyProof.Rows L2 SX LamX
/-! ### data that repr shows -/
structure Sh (k m : Nat) (d : PyData) : Prop where
  sh : d.showable = true
  nd : d.hasDict = false
  dp : d.depth ≤ k
  lv : d.leavesShort 13 = true
  bk : d.bulk ≤ m
theorem Sh.len {k m : Nat} {d : PyData} (h : Sh k m d) (hm : m ≤ 1048576) : d.shown.length ≤ sizeLine :=
  PyData.shown_fits_bulk (B := 13) (by decide) (by decide) h.lv (Nat.le_trans h.bk hm)
theorem Sh.up {k l m n : Nat} {d : PyData} (h : Sh k m d) (hk : k ≤ l) (hm : m ≤ n) : Sh l n d := ⟨h.sh, h.nd, Nat.le_trans h.dp hk, h.lv, Nat.le_trans h.bk hm⟩
theorem sh_bool (b : Bool) : Sh 0 0 (.bool b) := ⟨rfl, rfl, Nat.le_refl _, rfl, Nat.le_refl _⟩
theorem sh_none : Sh 0 0 .none := ⟨rfl, rfl, Nat.le_refl _, rfl, Nat.le_refl _⟩
theorem sh_int {i : Int} (h : i.natAbs < 1000000000000) : Sh 0 0 (.int i) :=
  ⟨by
    simp only [PyData.showable, decide_eq_true_eq]
    by_cases z : i.natAbs = 0
    · rw [z]; decide
    · exact Nat.lt_of_lt_of_le ((Nat.log2_lt z).mpr (Nat.lt_of_lt_of_le h (by decide : 1000000000000 ≤ 2 ^ 40))) (by decide), rfl, Nat.le_refl _, by simp only [PyData.leavesShort, decide_eq_true_eq]; exact PyData.shown_int_le (by exact h), Nat.le_refl _⟩
theorem sh_str {x : Str} {l : List Nat} (e : x = S l) (h : cdC l) : Sh 0 l.length (.str x) :=
  ⟨rfl, rfl, Nat.le_refl _, by
    subst e
    simp only [PyData.leavesShort, List.all_eq_true, decide_eq_true_eq]
    intro c hc
    have h2 := List.all_eq_true.mp h c (by simpa [S] using hc)
    have h3 := of_decide_eq_true h2
    exact Nat.lt_of_lt_of_le h3 (by decide), by
    subst e
    simp [PyData.bulk, S]⟩
/-- items that are shown, m: their signs and one each -/
inductive ShA (k : Nat) : Nat → List PyData → Prop
  | nil : ShA k 0 []
  | cons {m n : Nat} {d : PyData} {ds : List PyData} : Sh k m d → ShA k n ds → ShA k (m + 1 + n) (d :: ds)
theorem ShA.all {k m : Nat} {ds : List PyData} (h : ShA k m ds) : PyData.showableAll ds = true ∧ PyData.hasDictAll ds = false ∧ PyData.depthAll ds ≤ k ∧ PyData.leavesShortAll 13 ds = true ∧ PyData.bulkAll ds ≤ m := by
  induction h with
  | nil => exact ⟨rfl, rfl, Nat.zero_le _, rfl, Nat.le_refl _⟩
  | cons h1 _ ih =>
    obtain ⟨a, b, c, d, e⟩ := ih
    refine ⟨?_, ?_, ?_, ?_, ?_⟩
    · simp only [PyData.showableAll, h1.sh, a, Bool.and_self]
    · simp only [PyData.hasDictAll, h1.nd, b, Bool.or_self]
    · simp only [PyData.depthAll]
      exact Nat.max_le.mpr ⟨h1.dp, c⟩
    · simp only [PyData.leavesShortAll, h1.lv, d, Bool.and_self]
    · simp only [PyData.bulkAll]
      have := h1.bk
      omega
theorem ShA.lst {k m : Nat} {ds : List PyData} (h : ShA k m ds) : Sh (k + 1) m (.list ds) := by
  obtain ⟨a, b, c, d, e⟩ := h.all
  exact ⟨by simp only [PyData.showable, a], by simp only [PyData.hasDict, b], by simp only [PyData.depth]; omega, by simp only [PyData.leavesShort, d], by simp only [PyData.bulk]; exact e⟩
theorem ShA.tup {k m : Nat} {ds : List PyData} (h : ShA k m ds) : Sh (k + 1) m (.tuple ds) := by
  obtain ⟨a, b, c, d, e⟩ := h.all
  exact ⟨by simp only [PyData.showable, a], by simp only [PyData.hasDict, b], by simp only [PyData.depth]; omega, by simp only [PyData.leavesShort, d], by simp only [PyData.bulk]; exact e⟩
theorem shA_ints {k : Nat} : ∀ (l : List Int), (∀ i ∈ l, i.natAbs < 1000000000000) → ShA k l.length (l.map PyData.int)
  | [], _ => .nil
  | i :: r, h => by
    have := ShA.cons ((sh_int (h i List.mem_cons_self)).up (Nat.zero_le k) (Nat.le_refl _)) (shA_ints r fun j m => h j (List.mem_cons_of_mem _ m))
    have e : 0 + 1 + r.length = (i :: r).length := by rw [List.length_cons]; omega
    rw [e] at this
    exact this
theorem shA_texts {k : Nat} : ∀ (xs : List (List Nat)), (∀ x ∈ xs, cdC x) → ShA k (reachA 0 xs) (xs.map fun x => PyData.str (S x))
  | [], _ => .nil
  | x :: r, h => by
    have := ShA.cons ((sh_str rfl (h x List.mem_cons_self)).up (Nat.zero_le k) (Nat.le_refl _)) (shA_texts r fun y m => h y (List.mem_cons_of_mem _ m))
    have e : ∀ (r : List (List Nat)) (p : Nat), reachA p r = p + reachA 0 r := fun r => by
      induction r with
      | nil => intro p; rfl
      | cons y r ih =>
        intro p
        show reachA (p + y.length + 1) r = p + reachA (0 + y.length + 1) r
        rw [ih, ih (0 + y.length + 1)]
        omega
    have e2 : x.length + 1 + reachA 0 r = reachA 0 (x :: r) := by
      show _ = reachA (0 + x.length + 1) r
      rw [e r (0 + x.length + 1)]
      omega
    rw [e2] at this
    exact this
theorem item_cd : ∀ (l acc it : List Nat), it ∈ itemsA acc l → ∀ c ∈ it, c ∈ acc ∨ c ∈ l
  | [], acc, it, h, c, hc => by
    rw [List.mem_singleton.mp h] at hc
    exact .inl hc
  | d :: r, acc, it, h, c, hc => by
    have h : it ∈ (if d = 32 then acc :: itemsA [] r else itemsA (acc ++ [d]) r) := h
    by_cases e : d = 32
    · rw [if_pos e] at h
      rcases List.mem_cons.mp h with rfl | h
      · exact .inl hc
      · rcases item_cd r [] it h c hc with z | z
        · cases z
        · exact .inr (List.mem_cons_of_mem _ z)
    · rw [if_neg e] at h
      rcases item_cd r _ it h c hc with z | z
      · rcases List.mem_append.mp z with z | z
        · exact .inl z
        · rw [List.mem_singleton.mp z]
          exact .inr List.mem_cons_self
      · exact .inr (List.mem_cons_of_mem _ z)
theorem begins_le : ∀ (xs : List (List Nat)) (p : Nat), ∀ b ∈ beginsA p xs, b ≤ reachA p xs
  | [], p, b, h => by cases h
  | x :: xs, p, b, h => by
    have r : ∀ (xs : List (List Nat)) (p : Nat), p ≤ reachA p xs := fun xs => by
      induction xs with
      | nil => exact fun p => Nat.le_refl _
      | cons y ys ih =>
        intro p
        show p ≤ reachA (p + y.length + 1) ys
        exact Nat.le_trans (by omega) (ih _)
    show b ≤ reachA (p + x.length + 1) xs
    rcases List.mem_cons.mp h with rfl | h
    · exact Nat.le_trans (by omega) (r xs _)
    · exact begins_le xs _ b h
/-- repr of data -/
theorem go_repr {K : PySem.W.Frag} {a : Addr} {d : PyData} {k m : Nat} {H : Hp} {Q : VK} (hd : Dp K H (.ref a) d) (h : Sh k m d) (hk : k ≤ 60) (hm : m ≤ 1048576) (q : Q (.str d.shown) H) : rRepr K [.ref a] H Q :=
  ⟨a, d, rfl, hd, h.sh, h.nd, Nat.le_trans h.dp hk, h.len hm, q⟩
/-- one and the same text is no other -/
theorem rne_self {x : Str} {H : Hp} {Q : Bool → Hp → Prop} (q : Q false H) : ∃ k, V.bl (!decide (V.str x = V.str x)) = .bl k ∧ Q k H := ⟨false, by simp, q⟩
theorem bools_dp {K : PySem.W.Frag} {H : Hp} {p : Addr} {bs : List Bool} (h : H p = some (.lst (bs.map V.bl))) : Dp K H (.ref p) (.list (bs.map PyData.bool)) := .lst (.inl (.inl h)) (by
  clear h
  induction bs with
  | nil => exact .nil
  | cons b t ih => exact .cons (.bl b) ih)
theorem shA_bools {k : Nat} : ∀ (l : List Bool), ShA k l.length (l.map PyData.bool)
  | [] => .nil
  | i :: r => by
    have := ShA.cons ((sh_bool i).up (Nat.zero_le k) (Nat.le_refl _)) (shA_bools r)
    have e : 0 + 1 + r.length = (i :: r).length := by rw [List.length_cons]; omega
    rw [e] at this
    exact this
theorem cnt_count : ∀ (l : List Nat), cnt 32 l = (l.count 32 : Nat)
  | [] => rfl
  | c :: r => by
    rw [cnt_cons, cnt_count r]
    by_cases h : c = 32
    · subst h
      rw [List.count_cons_self]
      simp
      omega
    · rw [List.count_cons_of_ne h]
      simp [h]
theorem count_blank (l : List Nat) : Txt.count (S l) " " = (l.count 32 : Nat) := by
  have h := count_cnt (S l) 32
  have e : (" " : Str) = ⟨#[32]⟩ := rfl
  rw [e, h]
  have e2 : (S l).cps.toList = l := by simp [S]
  rw [e2, cnt_count]
end Kx
namespace Kx
open PySem PySem.Spec PyProof.Rows L2 SX LamX
/-- no positional value, one by name -/
def oneG {α : Type} (us ws : List α) : List α := match us, ws with | [], [u] => [u] | _, _ => []
theorem kb_one {K : PySem.W.Frag} {x qual : Str} {st : Stmt} {f : Addr} {fd : FuncData} {a : Str} (F : Fun K x qual st f fd)
    (h : ∀ (kV doc pm : Value) (an : Option Addr) (cdv ct : Value) (u : Value), bindArgs (PySem.W.fnOf x qual (defArgs st) (defBody st) (defScope st) .none kV doc pm an cdv ct) ⟨[], [(a, u)]⟩ = pure [(a, u)]) :
    KBinds K fd [a] [a] oneG oneG := by
  obtain ⟨oc, od, kV, doc, pm, an, cdv, ct, osl, rfl, lk, hcd⟩ := F.ex
  refine ⟨fun s us ws X l => ?_, fun {vs us zs ws} r1 r2 => ?_⟩
  · match us, ws, l with
    | [], [u], _ => exact .of_eq (h kV doc pm an cdv ct u)
    | [], [], l => cases l
    | [], _ :: _ :: _, l => cases l
    | _ :: _, _, l => cases l
  · cases r1 with
    | cons _ _ => exact .nil
    | nil =>
      cases r2 with
      | nil => exact .nil
      | cons h1 r2 =>
        cases r2 with
        | nil => exact .cons h1 .nil
        | cons _ _ => exact .nil
/-- no positional value, three by name: c, a, b for a, b, c -/
def turnG {α : Type} (us ws : List α) : List α := match us, ws with | [], [c, a, b] => [a, b, c] | _, _ => []
theorem kb_turn {K : PySem.W.Frag} {x qual : Str} {st : Stmt} {f : Addr} {fd : FuncData} {a b c : Str} (F : Fun K x qual st f fd)
    (h : ∀ (kV doc pm : Value) (an : Option Addr) (cdv ct : Value) (u v w : Value), bindArgs (PySem.W.fnOf x qual (defArgs st) (defBody st) (defScope st) .none kV doc pm an cdv ct) ⟨[], [(c, w), (a, u), (b, v)]⟩ = pure [(a, u), (b, v), (c, w)]) :
    KBinds K fd [a, b, c] [c, a, b] turnG turnG := by
  obtain ⟨oc, od, kV, doc, pm, an, cdv, ct, osl, rfl, lk, hcd⟩ := F.ex
  refine ⟨fun s us ws X l => ?_, fun {vs us zs ws} r1 r2 => ?_⟩
  · match us, ws, l with
    | [], [w, u, v], _ => exact .of_eq (h kV doc pm an cdv ct u v w)
    | [], [], l => cases l
    | [], [_], l => cases l
    | [], [_, _], l => cases l
    | [], _ :: _ :: _ :: _ :: _, l => cases l
    | _ :: _, _, l => cases l
  · cases r1 with
    | cons _ _ => exact .nil
    | nil =>
      cases r2 with
      | nil => exact .nil
      | cons h1 r2 =>
        cases r2 with
        | nil => exact .nil
        | cons h2 r2 =>
          cases r2 with
          | nil => exact .nil
          | cons h3 r2 =>
            cases r2 with
            | nil => exact .cons h2 (.cons h3 (.cons h1 .nil))
            | cons _ _ => exact .nil
end Kx
namespace Kx
open PySem PySem.Spec PyProof.Rows L2 SX LamX
theorem go_nil {σ : L2.St} {H : Hp} {Q : List V → Hp → Prop} (h : Q [] H) : tNil σ H Q := h
theorem go_var {σ : L2.St} {H : Hp} {i : Nat} {v : V} {Q : VK} (e : σ[i]? = some (some v)) (h : Q v H) : tVar i σ H Q := ⟨v, e, h⟩
theorem go_or2 {ta tb : TT} {σ : L2.St} {H : Hp} {Q : Bool → Hp → Prop} (h : ta σ H fun b H1 => if b = true then Q true H1 else tb σ H1 Q) : tOr ta tb σ H Q := h
theorem go_not {ta : TT} {σ : L2.St} {H : Hp} {Q : Bool → Hp → Prop} (h : ta σ H fun b H1 => Q (!b) H1) : tNot ta σ H Q := h
theorem go_b {te : TE} {σ : L2.St} {H : Hp} {Q : Bool → Hp → Prop} (h : te σ H fun x H1 => ∃ c, x = .bl c ∧ Q c H1) : tB te σ H Q := h
end Kx
namespace Kx
open PySem PySem.Spec PyProof.Rows L2 SX LamX
theorem ext_at {H H' : Hp} {b : Addr} {o : HO} (e : ExtN H H') (h : H b = some o) (n : ∀ ps, o ≠ .tbl ps := by intro ps z; cases z) : H' b = some o := e b o h n
theorem tyx_ext {K : PySem.W.Frag} {H H' : Hp} {x : V} {n : String} (e : ExtN H H') (h : TyX K H x (.type n)) : TyX K H' x (.type n) := by
  cases h with
  | base b =>
    cases b with
    | non => exact .base .non
    | bl y => exact .base (.bl y)
    | int i => exact .base (.int i)
    | str z => exact .base (.str z)
    | flt z => exact .base (.flt z)
    | lst h => exact .base (.lst (ext_at e h))
    | frz h => exact .base (.frz (ext_at e h))
    | tup h => exact .base (.tup (ext_at e h))
    | dK h => exact .base (.dK (ext_at e h))
    | dT h => exact .base (.dT (ext_at e h))
  | byt b => exact .byt b
  | set h => exact .set (ext_at e h)
  | kList h c => exact .kList h c
  | kTuple h c => exact .kTuple h c
  | kDict h c => exact .kDict h c
  | fTuple h => exact .fTuple (ext_at e h)
  | fDict h => exact .fDict (ext_at e h)
theorem sqL_ext {K : PySem.W.Frag} {H H' : Hp} {a : Addr} {xs : List V} (e : ExtN H H') (h : SqL K H a xs) : SqL K H' a xs := by
  rcases h with (h | ⟨o, h⟩) | h
  · exact .inl (.inl (ext_at e h))
  · exact .inl (.inr ⟨o, ext_at e h⟩)
  · exact .inr h
theorem sqT_ext {K : PySem.W.Frag} {H H' : Hp} {a : Addr} {xs : List V} (e : ExtN H H') (h : SqT K H a xs) : SqT K H' a xs := by
  rcases h with (h | ⟨o, h⟩) | h
  · exact .inl (.inl (ext_at e h))
  · exact .inl (.inr ⟨o, ext_at e h⟩)
  · exact .inr h
/-- ["text", "text"] == ["text", "text"] -/
theorem eq_data {K : PySem.W.Frag} {H : Hp} {a b : Addr} {d e : PyData} {Q : VK} (h1 : Dp K H (.ref a) d) (h2 : Dp K H (.ref b) e) (s1 : SeqAt.shaped d = true) (s2 : SeqAt.shaped e = true) (q : Q (.bl (PyData.eqv d e)) H) : rEqD K (.ref a) (.ref b) H Q :=
  ⟨d, e, h1, h2, s1, s2, q⟩
end Kx
namespace Kx
open PySem PySem.Spec PyProof.Rows L2 SX LamX
theorem reachA_add : ∀ (r : List (List Nat)) (p : Nat), reachA p r = p + reachA 0 r
  | [], p => rfl
  | y :: r, p => by
    show reachA (p + y.length + 1) r = p + reachA (0 + y.length + 1) r
    rw [reachA_add r, reachA_add r (0 + y.length + 1)]
    omega
theorem sum_texts : ∀ xs : List (List Nat), ((xs.map S).map (·.length)).sum + xs.length = reachA 0 xs
  | [] => rfl
  | x :: r => by
    have e : reachA 0 (x :: r) = x.length + 1 + reachA 0 r := by
      show reachA (0 + x.length + 1) r = _
      rw [reachA_add]
      omega
    rw [e, ← sum_texts r]
    simp only [List.map_cons, List.sum_cons, List.length_cons, S_len]
    omega
end Kx
namespace Kx
open PySem PySem.Spec PyProof.Rows L2 SX LamX
theorem S_inj {a b : Str} (h : a.cps.toList = b.cps.toList) : a = b := by
  cases a with
  | mk a =>
    cases b with
    | mk b =>
      have : a = b := Array.toList_inj.mp h
      rw [this]
theorem fold_arr (a : Array Nat) : ∀ (n : Nat) (acc : Array Nat), ((List.replicate n a).foldl (· ++ ·) acc).toList = acc.toList ++ (List.replicate n a.toList).flatten
  | 0, acc => by simp
  | n + 1, acc => by
    rw [List.replicate_succ, List.foldl_cons, fold_arr a n, List.replicate_succ, List.flatten_cons, Array.toList_append, List.append_assoc]
theorem mul_S (l : List Nat) (n : Nat) : Txt.mul (S l) n = S ((List.replicate n l).flatten) := by
  refine S_inj ?_
  have e0 : ∀ m : List Nat, (S m).cps.toList = m := fun m => by simp [S]
  rw [e0]
  unfold Txt.mul
  by_cases h1 : (n : Int) < 1
  · rw [if_pos h1]
    have : n = 0 := by omega
    subst this
    rfl
  · rw [if_neg h1]
    by_cases h2 : ((n : Int) == 1 || (S l).length == 0) = true
    · rw [if_pos h2, e0]
      simp only [Bool.or_eq_true, beq_iff_eq] at h2
      rcases h2 with h2 | h2
      · have : n = 1 := by omega
        subst this
        simp
      · rw [S_len] at h2
        cases l with
        | nil => simp
        | cons _ _ => simp at h2
    · rw [if_neg h2]
      show ((List.replicate (n : Int).toNat (S l).cps).foldl (· ++ ·) #[]).toList = _
      rw [fold_arr, Int.toNat_natCast, e0]
      simp
section
variable {X : Cx}
/-- a text times an int -/
def rRepS : R2 := fun x y H Q => ∃ (l : List Nat) (n : Nat), x = .str (S l) ∧ y = .int n ∧ l.length ≤ 16 ∧ n ≤ 1048576 ∧ Q (.str (S ((List.replicate n l).flatten))) H
theorem op_repS : OpR X (binaryOp .Mult) rRepS := by
  intro pins s σ H x y v u Q I rx ry h
  obtain ⟨l, n, rfl, rfl, h1, h2, q⟩ := h
  obtain ⟨t, rfl⟩ := rx
  obtain ⟨t', rfl⟩ := ry
  refine PySem.W.KXi.mul (n := l.length) (S_len l) h1 (by omega) (by omega) (fun t2 tk _ _ => ⟨.str _, H, I.tok _, ⟨_, rfl⟩, ?_⟩)
  rw [mul_S]
  exact q
end
end Kx
namespace Kx
open PySem PySem.Spec PyProof.Rows L2 SX LamX
section
variable {X : Cx}
/-- a list of whatever values == [] -/
def rEqE : R2 := fun x y H Q => ∃ (a b : Addr) (xs : List V), x = .ref a ∧ y = .ref b ∧ H a = some (.lst xs) ∧ H b = some (.lst []) ∧ Q (.bl xs.isEmpty) H
theorem op_eqE (hu : X.A.units + 64 < cLine) : OpR X (compareOp .Eq) rEqE := by
  intro pins s σ H x y v u Q I rx ry h
  obtain ⟨a, b, xs, rfl, rfl, ha, hb, q⟩ := h
  cases rx
  cases ry
  obtain ⟨z, its, n, r, hl, e⟩ := I.lstM ha
  obtain ⟨z2, its2, n2, r2, hl2, e2⟩ := I.lstM hb
  have l2 : its2 = [] := by
    cases its2 with
    | nil => rfl
    | cons _ _ => simp at hl2
  subst l2
  cases xs with
  | nil =>
    have l1 : its = [] := by
      cases its with
      | nil => rfl
      | cons _ _ => simp at hl
    subst l1
    exact P.eq_list (e := fun _ => true) e e2 rfl (fun j h1 _ => absurd h1 (Nat.not_lt_zero j)) (by omega) ⟨.bl true, H, I, rfl, q⟩
  | cons x r' =>
    exact P.eq_list_lengths e e2 (by
      simp only [List.size_toArray, List.length_nil]
      rw [← hl]
      simp) (by omega) ⟨.bl false, H, I, rfl, q⟩
end
end Kx
namespace Kx
open PySem PySem.Spec PyProof.Rows L2 SX LamX
section
variable {K : PySem.W.Frag} {a : Addr} {xs : List V} {g : TG} {tt : TT} {te : TE} {vs : List Nat} {σ : L2.St} {H : Hp} {k : Nat} {Q : VK}
/-- [e for x in NAME if t], NAME a tuple -/
theorem lc_tupk (zs : List (Option V)) (hz : zs.length = xs.length) (hi : σ[k]? = some (some (.ref a))) (hq : SqT K H a xs) (len : xs.length ≤ 1000000)
    (turn : ∀ (i : Nat) (x : V) (z : Option V) (Hc : Hp) (Q' : VK) (R' : Hp → Prop), xs[i]? = some x → zs[i]? = some z → Same H Hc → (∀ v H4, z = some v → Same Hc H4 → Q' v H4) → (∀ H4, z = none → Same Hc H4 → R' H4) → g x (wipe σ vs) Hc fun σ2 H2 => wipe σ2 vs = wipe σ vs ∧ tt σ2 H2 fun b H3 => if b = true then te σ2 H3 Q' else R' H3)
    (fin : ∀ (D : Addr) (Hc : Hp), Same H Hc → Hc D = some (.lst (zs.filterMap id)) → Q (.ref D) Hc) :
    tLc (iTup K (tVar k)) g tt te vs σ H Q := ⟨_, hi, a, rfl, ⟨_, hq⟩, fun D nD => lc_keep walk_tup zs hz nD len (fun Hc e => Same.t e hq) (fun i x z Hc Hx Q' R' _ hzi e y q r => by
      obtain ⟨rfl, hx⟩ := y
      exact turn i x z _ Q' R' hx hzi e q r) (fin D)⟩
theorem lc_or {I J : TI} (h : tLc I g tt te vs σ H Q ∨ tLc J g tt te vs σ H Q) : tLc (fun σ H R => I σ H R ∨ J σ H R) g tt te vs σ H Q := h
/-- .. a list or a tuple -/
theorem lc_seqk (zs : List (Option V)) (hz : zs.length = xs.length) (hi : σ[k]? = some (some (.ref a))) (hq : SqQ K H a xs) (len : xs.length ≤ 1000000)
    (turn : ∀ (i : Nat) (x : V) (z : Option V) (Hc : Hp) (Q' : VK) (R' : Hp → Prop), xs[i]? = some x → zs[i]? = some z → Same H Hc → (∀ v H4, z = some v → Same Hc H4 → Q' v H4) → (∀ H4, z = none → Same Hc H4 → R' H4) → g x (wipe σ vs) Hc fun σ2 H2 => wipe σ2 vs = wipe σ vs ∧ tt σ2 H2 fun b H3 => if b = true then te σ2 H3 Q' else R' H3)
    (fin : ∀ (D : Addr) (Hc : Hp), Same H Hc → Hc D = some (.lst (zs.filterMap id)) → Q (.ref D) Hc) :
    tLc (fun σ H R => iList K (tVar k) σ H R ∨ iTup K (tVar k) σ H R) g tt te vs σ H Q :=
  lc_or (hq.imp (fun h => lc_lstk zs hz hi h len turn fin) (fun h => lc_tupk zs hz hi h len turn fin))
end
theorem filt_none {α : Type} (p : α → Bool) : ∀ (l : List α), ((l.map fun x => if p x = true then some x else none).filterMap id).isEmpty = l.all fun x => !p x
  | [] => rfl
  | x :: r => by
    cases h : p x with
    | true =>
      simp only [List.map_cons, h, if_true, List.filterMap_cons, id, List.all_cons, Bool.not_true, Bool.false_and]
      rfl
    | false =>
      have := filt_none p r
      simp only [List.map_cons, h, Bool.false_eq_true, if_false, List.filterMap_cons, id, List.all_cons, Bool.not_false, Bool.true_and]
      exact this
theorem core_same {a : Addr} {H H' : Hp} (e : Same (core a H) H') (h : ∀ b o, core a H b = some o → b ≠ a) : Same (core a H) (core a H') := fun b o k => core_at (e b o k) (h b o k) (of_core k).2.2
theorem core_core {a : Addr} {H0 H : Hp} (e : Same (core a H0) H) : Same (core a H0) (core a H) := fun b o k => core_at (e b o k) (of_core k).1 (of_core k).2.2
theorem go_par {i j : Nat} {t : TA} {D : Ends} {σ : L2.St} {H : Hp} (h : tPar i j t D σ H) : tPar i j t D σ H := h
end Kx
namespace Kx
open PySem PySem.Spec PyProof.Rows L2 SX LamX
section
variable {K : PySem.W.Frag} {σ : L2.St} {H : Hp} {ta tb : TE} {k m : Nat}
/-- repr(x) != repr(y), of one and the same data -/
theorem nerepr_t (d : PyData) (hd : Sh k m d) (hk : k ≤ 60) (hm : m ≤ 1048576) {Q : Bool → Hp → Prop}
    (ha : ∀ Q : VK, (∀ a H', Same H H' → Dp K H' (.ref a) d → Q (.ref a) H') → ta σ H Q)
    (hb : ∀ H0, Same H H0 → ∀ Q : VK, (∀ b H', Same H0 H' → Dp K H' (.ref b) d → Q (.ref b) H') → tb σ H0 Q)
    (h : ∀ H', Same H H' → Q false H') : tTest (tOp rNe (tCB (rRepr K) (tCons ta tNil)) (tCB (rRepr K) (tCons tb tNil))) σ H Q := by
  refine go_test (go_op (go_cb (go_cons (ha _ fun a H1 e1 h1 => go_nil (go_repr h1 hd hk hm (go_cb (go_cons (hb H1 e1 _ fun b H2 e2 h2 => go_nil (go_repr h2 hd hk hm ⟨rfl, false, ?_, h H2 (e1.trans e2)⟩)))))))))
  rw [ne_self]
theorem nerepr_if (d : PyData) (hd : Sh k m d) (hk : k ≤ 60) (hm : m ≤ 1048576) {D : Ends} {t u : TS}
    (ha : ∀ Q : VK, (∀ a H', Same H H' → Dp K H' (.ref a) d → Q (.ref a) H') → ta σ H Q)
    (hb : ∀ H0, Same H H0 → ∀ Q : VK, (∀ b H', Same H0 H' → Dp K H' (.ref b) d → Q (.ref b) H') → tb σ H0 Q)
    (h : ∀ H', Same H H' → u D σ H') : tIfS (tTest (tOp rNe (tCB (rRepr K) (tCons ta tNil)) (tCB (rRepr K) (tCons tb tNil)))) t u D σ H :=
  go_if (nerepr_t d hd hk hm ha hb fun H' e => iteF (A := _) (h H' e))
end
theorem sh_bb (b c : Bool) : Sh 1 2 (.list [.bool b, .bool c]) := (shA_bools (k := 0) [b, c]).lst
theorem dp_bc {K : PySem.W.Frag} {H : Hp} {p : Addr} {b c : Bool} (h : H p = some (.lst [.bl b, .bl c])) : Dp K H (.ref p) (.list [.bool b, .bool c]) := .lst (.inl (.inl h)) (.cons (.bl b) (.cons (.bl c) .nil))
end Kx
namespace Kx
open PySem PySem.Spec PyProof.Rows L2 SX LamX
theorem go_c {v : V} {σ : L2.St} {H : Hp} {Q : VK} (h : Q v H) : tC v σ H Q := h
theorem core_sub {a : Addr} {H : Hp} : Same (core a H) H := fun b o h => (of_core h).2.1
theorem core_mvO {a : Addr} {H0 H H' : Hp} (e : Same (core a H0) H) (m : Mv a H H') : Same (core a H0) H' := fun b o h => m b o (of_core h).1 (e b o h)
theorem sz5 : 5 ≤ sizeLine := by decide
theorem rep_flat (n x : Nat) : (List.replicate n [x]).flatten = List.replicate n x := by
  induction n with
  | zero => rfl
  | succ j ih => rw [List.replicate_succ, List.flatten_cons, ih, List.replicate_succ]; rfl
theorem rep_len (n : Nat) (l : List Nat) : ((List.replicate n l).flatten).length = n * l.length := by
  induction n with
  | zero => simp
  | succ j ih => rw [List.replicate_succ, List.flatten_cons, List.length_append, ih, Nat.succ_mul, Nat.add_comm]
theorem rep_mem {n : Nat} {l : List Nat} {i : Nat} (h : i ∈ (List.replicate n l).flatten) : i ∈ l := by
  obtain ⟨m, hm, hi⟩ := List.mem_flatten.mp h
  rw [List.eq_of_mem_replicate hm] at hi
  exact hi
end Kx
namespace Kx
open PySem PySem.Spec PyProof.Rows L2 SX LamX
section
variable {M : Model} {prog : Program} {w : World} {A : Around} {E : Value → Shared → Prop} {s : Shared} {K : PySem.W.Frag} {x C f : Addr} {ox : Obj} {od : Option Obj} {y : Value}
theorem objNe (X : K.In s.heap) (I : PySem.W.InstAt s.heap x ox C od) (hu : A.units < cLine) (hs : PySem.W.findIn K (.ref C) "__eq__" = some (some (.ref f))) (hf : PySem.W.isFn K (.ref f) = true) {Q : Fin → Shared → Prop}
    (hcall : wpAny (model prog w) A (call (.ref f) [.ref x, y]) (fun v s' => ∃ b, v = .bool b ∧ Q (.done (.ret (.bool (!b)))) s') E s) : wpAny (model prog w) A (Builtin.«object.__ne__» ⟨[.ref x, y], []⟩) Q E s := by
  unfold Builtin.«object.__ne__»
  repeat (first
    | with_reducible refine wpAny_cRoomFor hu ?_
    | (refine wpAny_bind (m := callSpecialIfBound? (.ref x) (Str.ofString "__eq__") [y])
        (PySem.W.ifBound_K X I hs hf (wpAny_mono hcall (fun r s' hr => by
          obtain ⟨b, rfl, hq⟩ := hr
          repeat (first | exact hq | exact wpAny_pure hq | exact wpAny_truthy_bool hq | (refine wpAny_bind (m := truthy (.bool _)) (wpAny_truthy_bool ?_)) | wp_step)) fun _ _ e => e)))
    | wp_step)
theorem call_ne {Q : Value → Shared → Prop} (X : K.In s.heap) (I : PySem.W.InstAt s.heap x ox C od) (hu : A.in1.units < cLine) (hm : PySem.W.mroIn K C (.type "object") = some true) (hs : PySem.W.findIn K (.ref C) "__eq__" = some (some (.ref f))) (hf : PySem.W.isFn K (.ref f) = true)
    (hcall : wpAny (model prog w) A.in1 (call (.ref f) [.ref x, y]) (fun v s' => ∃ b, v = .bool b ∧ Q (.bool (!b)) s') E s) : wpAny (model prog w) A (call (.builtin "object.__ne__") [.ref x, y]) Q E s :=
  wpAny_call (codeAny_call_builtin F.cmp_object.ne.plain F.cmpEntry_ne (PySem.W.check_slot F.cmpKind_ne F.cmpSplit_ne (I.type.andThen (PySem.W.looks_mroIn X hm)) (F.cmpArgs_ne _ _) (objNe X I hu hs hf hcall)))
theorem ifBound_objNe {args : List Value} {Q : Option Value → Shared → Prop} (X : K.In s.heap) (I : PySem.W.InstAt s.heap x ox C od) (hs : PySem.W.findIn K (.ref C) "__ne__" = some (some (.builtin "object.__ne__")))
    (h : wpAny M A (call (.builtin "object.__ne__") (.ref x :: args)) (fun v => Q (some v)) E s) : wpAny M A (callSpecialIfBound? (.ref x) "__ne__" args) Q E s := by
  simp only [callSpecialIfBound?, bindSpecialIfBound?]
  refine wpAny_holding (wpAny_bind (wpAny_bind (wpAny_bind (I.type.here ((PySem.W.looks_findIn X hs).here ?_)))))
  refine wpAny_bind (wpAny_askSetting (wpAny_ite ?_))
  have fin : wpAny M A (call (.builtin "object.__ne__") ([.ref x] ++ args) >>= fun v => pure (some v)) Q E s := wpAny_bind (wpAny_mono h (fun v s' h' => wpAny_pure h') fun _ _ h' => h')
  split
  · exact wpAny_bind (wpAny_of_eq (F.cmp_object.ne.bind _) (wpAny_pure (by exact fin)))
  · exact wpAny_tryCatch (wpAny_bind (wpAny_of_eq (F.cmp_object.ne.bind _) (wpAny_pure (by exact fin))))
/-- x != y, x an instance with an == of its own, no != -/
theorem rich_ne {Q : Value → Shared → Prop} {tb : Value} (hu : A.in1.units < cLine) (X : K.In s.heap) (I : PySem.W.InstAt s.heap x ox C od) (hb : PySem.W.Looks (model prog w) s.heap (typeOf y) tb) (hn : PySem.W.notFirst K C tb = true) (hm : PySem.W.mroIn K C (.type "object") = some true)
    (hs : PySem.W.findIn K (.ref C) "__eq__" = some (some (.ref f))) (hf : PySem.W.isFn K (.ref f) = true) (hne : PySem.W.findIn K (.ref C) "__ne__" = some (some (.builtin "object.__ne__")))
    (h : wpAny (model prog w) A.in1 (call (.ref f) [.ref x, y]) (fun v s' => ∃ b, v = .bool b ∧ Q (.bool (!b)) s') E s) : wpAny (model prog w) A (richCompare .NotEq (.ref x) y) Q E s := by
  have one : wpAny (model prog w) A (tryCompare (.ref x) "__ne__" y) (fun r s' => ∃ v, r = some v ∧ Q v s') E s := by
    unfold tryCompare
    refine wpAny_bind (ifBound_objNe X I hne (call_ne X I hu hm hs hf (wpAny_mono h (fun v s' hv => ?_) fun _ _ e => e)))
    obtain ⟨b, rfl, hq⟩ := hv
    exact ⟨b, rfl, wpAny_pure ⟨_, rfl, hq⟩⟩
  have hu0 : A.units < cLine := Nat.lt_of_succ_lt (show A.units + 1 < cLine from hu)
  unfold richCompare
  simp only [oneThing_ref]
  refine wpAny_holding (wpAny_bind (wpAny_cRoomFor hu0 ?_))
  rw [cmpInfo_NotEq]
  dsimp only
  refine wpAny_bind (I.type.here (wpAny_bind (hb.here ?_)))
  split
  · rename_i q
    have e : PySem.W.subIn K tb (.ref C) = some false := by
      rcases Bool.or_eq_true_iff.mp hn with e | e
      · rw [beq_iff_eq.mp e] at q; simp at q
      · exact beq_iff_eq.mp e
    refine wpAny_bind ((PySem.W.looks_subIn X e).here ?_)
    simp only [Bool.false_eq_true, if_false]
    refine wpAny_bind (wpAny_mono one (fun r s' z => ?_) fun _ _ e => e)
    obtain ⟨v, rfl, hq⟩ := z
    exact wpAny_pure hq
  · refine wpAny_bind (wpAny_pure ?_)
    simp only [Bool.false_eq_true, if_false]
    refine wpAny_bind (wpAny_mono one (fun r s' z => ?_) fun _ _ e => e)
    obtain ⟨v, rfl, hq⟩ := z
    exact wpAny_pure hq
theorem sub_list : PySem.W.subIn K (.type "list") (.ref C) = some false := by
  have e : fastBuiltinMro "list" = some [.type "list", .type "object"] := by decide +kernel
  show (fastBuiltinMro "list").map (·.contains (.ref C)) = some false
  rw [e]
  first
    | rfl
    | simp
theorem sub_tuple : PySem.W.subIn K (.type "tuple") (.ref C) = some false := by
  have e : fastBuiltinMro "tuple" = some [.type "tuple", .type "object"] := by decide +kernel
  show (fastBuiltinMro "tuple").map (·.contains (.ref C)) = some false
  rw [e]
  first
    | rfl
    | simp
end
end Kx
namespace Kx
open PySem PySem.Spec PyProof.Rows L2 SX LamX
section
variable {X : Cx} {pins : List (Addr × Obj)} {σ : L2.St} {H : Hp} {s : Shared}
/-- what stands at the other side of an own ==: an instance of the class, a list, a tuple -/
def OthV (K : PySem.W.Frag) (C : Addr) (H : Hp) (y : V) : Prop := ∃ b, y = .ref b ∧ ((∃ dx fs, H b = some (.ins C dx fs)) ∨ ∃ xs, SqQ K H b xs)
theorem oth_looks {C : Addr} {y : V} {u : Value} (I : Inv X pins σ H s) (ry : RelV y u) (h : OthV X.K C H y) : ∃ b tb, y = .ref b ∧ u = .ref b ∧ (∀ M, PySem.W.Looks M s.heap (typeOf u) tb) ∧ PySem.W.notFirst X.K C tb = true := by
  obtain ⟨b, rfl, h⟩ := h
  obtain rfl : u = Value.ref b := ry
  rcases h with ⟨dx, fs, h⟩ | ⟨xs, h | h⟩
  · obtain ⟨mA, J, _⟩ := ins_get I.hok h
    obtain ⟨od, J, _⟩ := J.look
    exact ⟨b, _, rfl, rfl, fun M => J.type, by simp [PySem.W.notFirst]⟩
  · obtain ⟨us, r1, p1, _⟩ := I.list h
    obtain ⟨o, n, e, c1, c2, d⟩ := p1
    have c : o.cls = .type "list" := by first | exact c1 | exact c2
    refine ⟨b, .type "list", rfl, rfl, fun M => c ▸ (PySem.W.Looks.ld e).andThen .now, ?_⟩
    unfold PySem.W.notFirst
    rw [sub_list]
    rfl
  · obtain ⟨us, r1, ⟨o, e, c, _⟩, _⟩ := I.tuple h
    refine ⟨b, .type "tuple", rfl, rfl, fun M => c ▸ (PySem.W.Looks.ld e).andThen .now, ?_⟩
    unfold PySem.W.notFirst
    rw [sub_tuple]
    rfl
end
end Kx
namespace Kx
open PySem PySem.Spec PyProof.Rows L2 SX LamX
section
variable {X : Cx}
/-- x == y by the class's own ==: what it promises, a truth -/
def rEqI (K : PySem.W.Frag) (C : Addr) (sp : Sp) : R2 := fun x y H Q => ∃ a dx fs, x = .ref a ∧ H a = some (.ins C dx fs) ∧ OthV K C H y ∧ sp [x, y] H (fun v H' => ∃ b, v = .bl b ∧ Q (.bl b) H') C8.E0
def rNeI (K : PySem.W.Frag) (C : Addr) (sp : Sp) : R2 := fun x y H Q => ∃ a dx fs, x = .ref a ∧ H a = some (.ins C dx fs) ∧ OthV K C H y ∧ sp [x, y] H (fun v H' => ∃ b, v = .bl b ∧ Q (.bl (!b)) H') C8.E0
theorem own_run {f : Addr} {fd : FuncData} {ps : List Str} {n : Nat} {sp : Sp} {A : Around} {pins : List (Addr × Obj)} {σ : L2.St} {H : Hp} {s : Shared} {a b : Addr} {Q : VK} {R : Value → Shared → Prop} {xe : Value → Shared → Prop}
    (F : FnOk X.prog X.w X.K X.mg X.base C8.CX0 n f fd ps sp) (hb : Binds X.K fd ps []) (hr : Room n A) (hf : A.frames = X.A.frames) (I : Inv X pins σ H s) (h : sp [.ref a, .ref b] H Q C8.E0)
    (back : ∀ u s', EP X pins σ Q u s' → R u s') : wpAny (model X.prog X.w) A (call (.ref f) [.ref a, .ref b]) R xe s := by
  have e0 : Env0 X.prog X.w X.K X.mg X.base A X.stack s H := by
    have e := I.env0
    exact ⟨by rw [hf]; exact e.frames, e.mod, e.bs, e.bsz, e.funs, e.frf, e.hok, e.bare⟩
  have hl := F.len _ _ _ _ h
  have r2 : Vals [V.ref a, V.ref b] [Value.ref a, Value.ref b] := .cons rfl (.cons rfl .nil)
  refine wpAny_call (codeAny_mono (F.run A X.stack s H ⟨[.ref a, .ref b], []⟩ [.ref a, .ref b] [.ref a, .ref b] _ C8.E0 hr e0 (by
    have := hb s [.ref a, .ref b] I.kIn (by simpa using hl)
    simpa using this) r2 h) fun r s' hq => ?_)
  match r, hq with
  | .error e, hq => exact (show False from hq).elim
  | .ok (.ret w), hq => exact back w s' (I.after hq)
  | .ok .next, hq => exact False.elim hq
  | .ok .brk, hq => exact False.elim hq
  | .ok .cont, hq => exact False.elim hq
theorem op_eqI {C f : Addr} {fd : FuncData} {ps : List Str} {n : Nat} {sp : Sp} (F : FnOk X.prog X.w X.K X.mg X.base C8.CX0 n f fd ps sp) (hb : Binds X.K fd ps []) (hr : Room n X.A)
    (hs : PySem.W.findIn X.K (.ref C) "__eq__" = some (some (.ref f))) (hf : PySem.W.isFn X.K (.ref f) = true) : OpR X (compareOp .Eq) (rEqI X.K C sp) := by
  intro pins s σ H x y v u Q I rx ry hq
  obtain ⟨a, dx, fs, rfl, ha, oth, h⟩ := hq
  cases rx
  obtain ⟨mA, J, _⟩ := ins_get I.hok ha
  obtain ⟨od, J, _⟩ := J.look
  obtain ⟨b, tb, rfl, rfl, lk, nf⟩ := oth_looks I ry oth
  obtain ⟨m, hF⟩ := I.fr
  show wpAny (model X.prog X.w) X.A (richCompare .Eq (.ref a) (.ref b)) _ _ s
  refine PySem.W.cmp_K (op := .Eq) (tb := tb) hr.units0 hF I.ok.mod.kin J (lk _) nf hs hf (own_run F hb hr rfl I h fun u s' ep => ?_)
  obtain ⟨z, H', I', rz, c, rfl, q⟩ := ep
  cases rz
  exact ⟨.bl c, H', I', rfl, q⟩
theorem op_neI {C f : Addr} {fd : FuncData} {ps : List Str} {n : Nat} {sp : Sp} (F : FnOk X.prog X.w X.K X.mg X.base C8.CX0 n f fd ps sp) (hb : Binds X.K fd ps []) (hr : Room (n + 1) X.A)
    (hs : PySem.W.findIn X.K (.ref C) "__eq__" = some (some (.ref f))) (hf : PySem.W.isFn X.K (.ref f) = true) (hm : PySem.W.mroIn X.K C (.type "object") = some true) (hne : PySem.W.findIn X.K (.ref C) "__ne__" = some (some (.builtin "object.__ne__"))) :
    OpR X (compareOp .NotEq) (rNeI X.K C sp) := by
  intro pins s σ H x y v u Q I rx ry hq
  obtain ⟨a, dx, fs, rfl, ha, oth, h⟩ := hq
  cases rx
  obtain ⟨mA, J, _⟩ := ins_get I.hok ha
  obtain ⟨od, J, _⟩ := J.look
  obtain ⟨b, tb, rfl, rfl, lk, nf⟩ := oth_looks I ry oth
  show wpAny (model X.prog X.w) X.A (richCompare .NotEq (.ref a) (.ref b)) _ _ s
  refine rich_ne hr.in1.units0 I.kIn J (lk _) nf hm hs hf hne (own_run F hb hr.in1 rfl I h fun u s' ep => ?_)
  obtain ⟨z, H', I', rz, c, rfl, q⟩ := ep
  cases rz
  exact ⟨c, rfl, .bl (!c), H', I', rfl, q⟩
end
end Kx
namespace Kx
open PySem PySem.Spec PyProof.Rows L2 SX LamX
/-! ### texts, each once -/
def onceStep (σ : List Str) (x : Str) : List Str := if σ.any (· == x) = true then σ else σ ++ [x]
def onceS (xs : List Str) : List Str := xs.foldl onceStep []
theorem once_any (σ : List Str) (v k : Str) : (onceStep σ v).any (· == k) = (σ.any (· == k) || decide (k = v)) := by
  unfold onceStep
  by_cases h : σ.any (· == v) = true
  · rw [if_pos h]
    by_cases e : k = v
    · rw [e, h]; simp
    · simp [e]
  · rw [if_neg h, List.any_append]
    by_cases e : k = v
    · rw [e]; simp
    · have hb : (v == k) = false := by simpa [beq_iff_eq] using (fun h' : v = k => e h'.symm)
      simp [hb, e]
theorem once_len (σ : List Str) (v : Str) : (onceStep σ v).length = if σ.any (· == v) = true then σ.length else σ.length + 1 := by
  unfold onceStep
  split <;> simp
theorem once_fold : ∀ (xs σ : List Str), (xs.foldl onceStep σ).length ≤ σ.length + xs.length
  | [], σ => Nat.le_refl _
  | x :: r, σ => by
    have h := once_fold r (onceStep σ x)
    have h2 := once_len σ x
    rw [List.foldl_cons, List.length_cons]
    split at h2 <;> omega
theorem onceS_le (xs : List Str) : (onceS xs).length ≤ xs.length := by
  have h := once_fold xs []
  simpa [onceS] using h
theorem onceS_take {xs : List Str} {i : Nat} {x : Str} (h : xs[i]? = some x) : onceS (xs.take (i + 1)) = onceStep (onceS (xs.take i)) x := by
  unfold onceS
  rw [List.take_add_one, h, List.foldl_append]
  rfl
section
variable {prog : Program} {w : World} {A : Around} {R : Result → Shared → Prop} {I : Addr} {fp wr : List Addr} {G : Array GenState → Array GenState → Prop} {n : Nat} {P : Nat → Value → Prop} {St : Nat → Shared → Prop}
def txSet (prog : Program) (w : World) (h : Heap) (S : Addr) (l : List Str) : Prop := h.SetOf (PySem.strKind prog w) S (fun k => l.any (· == k)) l.length
theorem txSet_at {h h' : Heap} {S : Addr} {l : List Str} (t : txSet prog w h S l) (k : ∀ o, h.get? S = some o → h'.get? S = some o) : txSet prog w h' S l := by
  obtain ⟨o, es, ep, tb, ho, rest⟩ := t
  exact ⟨o, es, ep, tb, k o ho, rest⟩
/-- set.update over texts, whatever walks over them -/
theorem upd_texts (W : WalksS prog w A.in1 I fp wr G n P St) (S : Addr) (hSf : S ∉ fp) (xs : List Str) (hn : n = xs.length) (hval : ∀ i v, P i v → ∃ x t, xs[i]? = some x ∧ v = .str x t) (hb : n + 1 < scanBound) :
    ∀ (k i : Nat) (s : Shared), n - i = k → i ≤ n → St i s → txSet prog w s.heap S (onceS (xs.take i)) →
      (∀ s', Moved (S :: wr) G s s' → txSet prog w s'.heap S (onceS xs) → R (.ok (.ret .none)) s') → codeAny (model prog w) A (.builtin "set.update.loop" ⟨[.ref S, .ref I], []⟩) R s := by
  have out : S ∉ wr := fun h => hSf (W.sub _ h)
  have more : ∀ b ∈ wr, b ∈ S :: wr := fun b hb => List.mem_cons_of_mem _ hb
  intro k
  induction k with
  | zero =>
    intro i s hk hi hst hS hR
    obtain rfl : i = n := by omega
    refine codeAny_builtin PyProof.Rows.F.entry_set_update_loop ?_
    rw [Around.under_plainId PyProof.Rows.F.plain_set_update_loop _]
    show wpAny _ A.in1 (pyNext (.ref I) >>= _) _ _ s
    refine wpAny_bind (W.done s _ _ hst fun s' hm => ?_)
    show wpAny _ A.in1 (ret Value.none) _ _ s'
    rw [hn, List.take_length] at hS
    exact wpAny_pure (hR s' (hm.mono more) (txSet_at hS fun o e => hm.heap S o out e))
  | succ k ih =>
    intro i s hk hi hst hS hR
    have hlt : i < n := by omega
    refine codeAny_builtin PyProof.Rows.F.entry_set_update_loop ?_
    rw [Around.under_plainId PyProof.Rows.F.plain_set_update_loop _]
    show wpAny _ A.in1 (pyNext (.ref I) >>= _) _ _ s
    refine wpAny_bind (W.item i s _ _ hlt hst fun v s' hP hst' hm => ?_)
    obtain ⟨x, t, hx, rfl⟩ := hval i v hP
    have hS' := txSet_at hS fun o e => hm.heap S o out e
    show wpAny _ A.in1 (holding [Value.str x t] (setAdd S (.str x t)) >>= _) _ _ s'
    refine wpAny_bind (wpAny_holding ?_)
    unfold setAdd
    refine wpAny_holding (wpAny_bind ((PySem.strKind prog w).pyHash (k := x) (strKind_is _ _ _ _) ?_))
    have room : (onceS (xs.take i)).length + 1 < scanBound := by
      have h1 := onceS_le (xs.take i)
      rw [List.length_take] at h1
      omega
    refine wpAny_setAddHashed_of (knd := PySem.strKind prog w) (s := { s' with toks := s'.toks + 1 }) (strKind_is _ _ _ _) rfl hS' room fun h' same hS2 => ?_
    have hS3 : txSet prog w h' S (onceS (xs.take (i + 1))) := PyProof.Rows.SetOf_congr hS2 (fun k' => by rw [onceS_take hx, once_any]) (by rw [onceS_take hx, once_len])
    refine wpAny_pure ⟨plainId_quiet PyProof.Rows.F.plain_set_update_loop _, ih (i + 1) _ (by omega) hlt (W.frame _ s' _ _ hst' (Nat.le_succ _) fun b hb o e => ?_) hS3 fun s2 hm2 hS4 => ?_⟩
    · rw [same.2 b (fun h : b = S => hSf (by rw [← h]; exact hb))]
      exact e
    · refine hR s2 (Moved.trans W.gtrans ((hm.mono more).then_heap (Nat.le_succ _) fun b o hb e => ?_) hm2) hS4
      rw [same.2 b (fun h : b = S => hb (by rw [h]; exact List.mem_cons_self))]
      exact e
end
section
variable {prog : Program} {w : World} {A : Around} {E : Value → Shared → Prop} {s : Shared}
abbrev freshSet (led : Bool) : Obj := { cls := .type "set", dict := none, data := .set #[] 0 (.fresh 0 0 led) }
/-- what a set of these texts leaves -/
def MadeTx (prog : Program) (w : World) (s : Shared) (xs : List Str) (h' : Heap) : Prop := txSet prog w h' s.heap.objs.size (onceS xs) ∧ ∀ b o, s.heap.get? b = some o → h'.get? b = some o
/-- set(x): what its __init__ has to do -/
theorem set_made {x : Value} {xs : List Str} {Q : Value → Shared → Prop}
    (hin : ∀ (led : Bool) (A' : Around) (E' : Value → Shared → Prop) (Q' : Fin → Shared → Prop), A'.handled = A.handled → (∀ h' tk, MadeTx prog w s xs h' → Q' (.done (.ret .none)) { s with heap := h', toks := tk }) →
      wpAny (model prog w) A' (Builtin.«set.__init__» ⟨[.ref s.heap.objs.size, x], []⟩) Q' E' { s with heap := s.heap.push (freshSet led) })
    (h : ∀ (h' : Heap) (tk : Nat), MadeTx prog w s xs h' → Q (.ref s.heap.objs.size) { s with heap := h', toks := tk }) : wpAny (model prog w) A (call (.type "set") [x]) Q E s := by
  obtain ⟨c, tl, hmro⟩ := PySem.F.called_set.mro
  have hmade := PySem.F.called_set.made
  have hsub := PySem.F.called_set.sub
  refine wpAny_call (codeAny_of_tree ?_)
  show wpAny _ _ (callAny (.type "set") _) _ _ _
  refine wpAny_pure ⟨Code.quiet_builtin _ (by decide +kernel), codeAny_builtin PySem.F.entry_type_call ?_⟩
  rw [Around.under_plain (weight_type_call_type "set" [x] []) rfl]
  have h1 := PySem.F.called_set.notType
  have h2 := PySem.F.called_set.canCreate
  have hct := PySem.F.typeCall_set_1 x
  repeat (any_goals (first | assumption | wp_step))
  refine codeAny_mono (code_set_new_1 x (E := E) (Q₁ := fun obj s₁ => ∃ led : Bool, obj = .ref s.heap.objs.size ∧ s₁ = { s with heap := s.heap.push (freshSet led) }) fun led => ⟨led, rfl, rfl⟩) fun r s₁ hr => ?_
  match r, hr with
  | .error e, hr => exact hr
  | .ok .next, hr => exact hr.elim
  | .ok .brk, hr => exact hr.elim
  | .ok .cont, hr => exact hr.elim
  | .ok (.ret obj), hr =>
    obtain ⟨led, rfl, rfl⟩ := hr
    have hS : (s.heap.push (freshSet led)).get? s.heap.objs.size = some (freshSet led) := Heap.get?_push_size _ rfl
    have hT : Shared.TypeIs { s with heap := s.heap.push (freshSet led) } (.ref s.heap.objs.size) "set" := ⟨_, hS, rfl⟩
    have hli := PySem.F.called_set.init.lookup
    have hbi := PySem.F.called_set.init.bind (.ref s.heap.objs.size)
    repeat (any_goals (first | assumption | wp_step))
    refine codeAny_mono (codeAny_call_builtin (R := wants (fun r s₂ => r = .none ∧ ∃ h' tk, s₂ = { s with heap := h', toks := tk } ∧ MadeTx prog w s xs h') E) PySem.F.called_set.init.plain PySem.F.entry_set_init (check_set_init_1 hT ?_)) fun r₂ s₂ hr₂ => ?_
    · exact hin led _ _ _ rfl fun h' tk m => ⟨rfl, h', tk, rfl, m⟩
    · match r₂, hr₂ with
      | .error e, hr₂ => exact hr₂
      | .ok .next, hr₂ => exact hr₂.elim
      | .ok .brk, hr₂ => exact hr₂.elim
      | .ok .cont, hr₂ => exact hr₂.elim
      | .ok (.ret r), hr₂ =>
        obtain ⟨rfl, h', tk, rfl, m⟩ := hr₂
        repeat (any_goals (first | assumption | wp_step))
        exact h _ _ m
end
end Kx
namespace Kx
open PySem PySem.Spec PyProof.Rows L2 SX LamX
section
variable {prog : Program} {w : World} {A : Around} {E : Value → Shared → Prop} {s : Shared}
theorem strs_get : ∀ {us : List Value} {xs : List Str}, StrsAre us xs → ∀ (i : Nat) (v : Value), us[i]? = some v → ∃ x t, xs[i]? = some x ∧ v = .str x t
  | _, _, .nil, i, v, h => by simp at h
  | _, _, .cons y t hr, 0, v, h => by
    simp at h
    exact ⟨y, t, rfl, h.symm⟩
  | _, _, .cons y t hr, i + 1, v, h => by
    simp only [List.getElem?_cons_succ] at h
    exact strs_get hr i v h
theorem strs_len : ∀ {us : List Value} {xs : List Str}, StrsAre us xs → us.length = xs.length
  | _, _, .nil => rfl
  | _, _, .cons _ _ r => by rw [List.length_cons, List.length_cons, strs_len r]
/-- set(x), a list or a tuple of texts -/
theorem call_set_texts {l : Addr} {items : Array Value} {xs : List Str} {Q : Value → Shared → Prop} (hh : A.handled = none) (hl : s.heap.IsList l items ∨ s.heap.IsTuple l items) (hi : StrsAre items.toList xs) (hb : xs.length + 1 < scanBound)
    (h : ∀ (h' : Heap) (tk : Nat), MadeTx prog w s xs h' → Q (.ref s.heap.objs.size) { s with heap := h', toks := tk }) : wpAny (model prog w) A (call (.type "set") [.ref l]) Q E s := by
  refine set_made (xs := xs) (fun led A' E' Q' hA q => ?_) h
  have isz : items.size = xs.length := by rw [← strs_len hi, Array.length_toList]
  have hS : (s.heap.push (freshSet led)).get? s.heap.objs.size = some (freshSet led) := Heap.get?_push_size _ rfl
  have hlS : l < s.heap.objs.size := by
    rcases hl with ⟨o, ho, _⟩ | ⟨o, ho, _⟩ <;> exact Heap.lt_size ho
  have hneI : l ≠ (s.heap.push (freshSet led)).objs.size := by
    rw [Heap.size_push]
    exact Nat.ne_of_lt (Nat.lt_succ_of_lt hlS)
  have hSf : s.heap.objs.size ∉ [(s.heap.push (freshSet led)).objs.size, l] := by
    rw [Heap.size_push]
    simp only [List.mem_cons, List.not_mem_nil, or_false, not_or]
    exact ⟨Nat.ne_of_lt (Nat.lt_succ_self _), Nat.ne_of_gt hlS⟩
  have hval : ∀ (i : Nat) (v : Value), items[i]? = some v → ∃ x t, xs[i]? = some x ∧ v = .str x t := fun i v hv => strs_get hi i v (by rw [Array.getElem?_toList]; exact hv)
  have hh3 : A'.in1.handled = none := by simp [hA, hh]
  have done : ∀ (it : Obj) (s' : Shared), Moved (s.heap.objs.size :: [(s.heap.push (freshSet led)).objs.size]) (fun a b => b = a) { s with heap := (s.heap.push (freshSet led)).push it } s' → txSet prog w s'.heap s.heap.objs.size (onceS xs) →
      wpAny (model prog w) A' (ret Value.none) Q' E' s' := fun it s' hm hS' => by
    obtain ⟨h', g', d', tk', os'⟩ := s'
    have eg : g' = s.gens := hm.gens
    have ed : d' = s.drawn := hm.drawn
    have eo : os' = s.os := hm.os
    subst eg
    subst ed
    subst eo
    refine wpAny_pure (q h' tk' ⟨hS', fun b o e => ?_⟩)
    have hb0 : b < s.heap.objs.size := Heap.lt_size e
    have hb1 : b ≠ s.heap.objs.size := Nat.ne_of_lt hb0
    have hb2 : b ≠ (s.heap.push (freshSet led)).objs.size := by
      rw [Heap.size_push]
      exact Nat.ne_of_lt (Nat.lt_succ_of_lt hb0)
    exact hm.heap b o (by simp only [List.mem_cons, List.not_mem_nil, or_false, not_or]; exact ⟨hb1, hb2⟩) (Heap.get?_push_of_some _ (Heap.get?_push_of_some _ e))
  unfold Builtin.«set.__init__» noKeywords Builtin.Frozenset.updateFrom
  rcases hl with hl | hl
  · obtain ⟨ol, hol, hcl, nl, hdl⟩ := hl
    obtain ⟨ocls, odict, odata, oslots⟩ := ol
    simp only at hcl hdl
    subst hcl
    subst hdl
    have hol' : (s.heap.push (freshSet led)).get? l = some { cls := .type "list", dict := odict, data := .seq items nl, slots := oslots } := Heap.get?_push_of_some _ hol
    have hsls := PySem.F.sub_list_set
    have hslf := PySem.F.sub_list_frozenset
    have hne : (Value.type "list" == Value.type "dict") = false := by decide
    have hl1 : (s.heap.push (freshSet led)).IsList l items := ⟨_, hol', rfl, nl, rfl⟩
    generalize hPI : pyIter = PI
    wp_walk
    subst hPI
    refine wpAny_pyIter_list hl1 ?_
    refine wpAny_bind (wpAny_runValue ?_)
    refine upd_texts ((Walks.list hh3 _ l hneI items).toS) s.heap.objs.size hSf xs isz hval (by omega) (items.size - 0) 0 _ (by omega) (Nat.zero_le _) ⟨⟨_, Heap.get?_push_size _ rfl, rfl, rfl⟩, (hl1.push _)⟩ ?_ (fun s' hm hS' => ?_)
    · have hget : ((s.heap.push (freshSet led)).push { cls := .type "list_iterator", data := .fields #[.ref l, .int 0 0] }).get? s.heap.objs.size = some (freshSet led) := Heap.get?_push_of_some _ hS
      exact PyProof.Rows.SetOf_congr ((PyProof.Rows.setObjOf_fresh (knd := PySem.strKind prog w) led).setOf hget (by unfold scanBound; omega)) (fun _ => rfl) rfl
    · exact wpAny_pure (done _ s' hm hS')
  · obtain ⟨ol, hol, hcl, nl, hdl⟩ := hl
    obtain ⟨ocls, odict, odata, oslots⟩ := ol
    simp only at hcl hdl
    subst hcl
    subst hdl
    have hol' : (s.heap.push (freshSet led)).get? l = some { cls := .type "tuple", dict := odict, data := .seq items nl, slots := oslots } := Heap.get?_push_of_some _ hol
    have hsls := PySem.F.sub_tuple_set
    have hslf := PySem.F.sub_tuple_frozenset
    have hne : (Value.type "tuple" == Value.type "dict") = false := by decide
    have hl1 : (s.heap.push (freshSet led)).IsTuple l items := ⟨_, hol', rfl, nl, rfl⟩
    generalize hPI : pyIter = PI
    wp_walk
    subst hPI
    refine wpAny_pyIter_tuple hl1 ?_
    refine wpAny_bind (wpAny_runValue ?_)
    refine upd_texts ((Walks.tuple hh3 _ l hneI items).toS) s.heap.objs.size hSf xs isz hval (by omega) (items.size - 0) 0 _ (by omega) (Nat.zero_le _) ⟨⟨_, Heap.get?_push_size _ rfl, rfl, rfl⟩, (hl1.push _)⟩ ?_ (fun s' hm hS' => ?_)
    · have hget : ((s.heap.push (freshSet led)).push { cls := .type "tuple_iterator", data := .fields #[.ref l, .int 0 0] }).get? s.heap.objs.size = some (freshSet led) := Heap.get?_push_of_some _ hS
      exact PyProof.Rows.SetOf_congr ((PyProof.Rows.setObjOf_fresh (knd := PySem.strKind prog w) led).setOf hget (by unfold scanBound; omega)) (fun _ => rfl) rfl
    · exact wpAny_pure (done _ s' hm hS')
end
end Kx
namespace Kx
open PySem PySem.Spec PyProof.Rows L2 SX LamX
section
variable {X : Cx}
/-- len(set(e)), e a list or a tuple of texts -/
def tLenSetN (K : PySem.W.Frag) (ta : TE) : TE := fun σ H Q => ta σ H fun x H1 => ∃ (l : Addr) (xs : List Str), x = .ref l ∧ SqQ K H1 l (xs.map V.str) ∧ xs.length ≤ 4000 ∧ Q (.int ((onceS xs).length : Nat)) H1
theorem pe_lenSetN {a : Expr} {ta : TE} {p p2 q pos : Pos} (hg : Gl X "len") (hm : X.mg "len" = none) (hg2 : Gl X "set") (hm2 : X.mg "set" = none) (ha : PE X a ta) (hc : X.calm = true := by rfl)
    (na : starEach [a] X.env = (false, eval a X.env) :: starEach [] X.env := by rfl) : PE X (.Call (.Name "len" p) [.Call (.Name "set" p2) [a] [] q] [] pos) (tLenSetN X.K ta) := by
  refine ⟨fun pins s σ H Q I h => ?_⟩
  refine Call_ (ld_blt I hg hm boot_len ?_)
  refine PyProof.Rows.callWith_builtin1 (PyProof.Rows.args_cons ?_ rfl) rfl rfl
  refine Call_ (ld_blt I hg2 hm2 boot_set ?_)
  refine PyProof.Rows.callWith_type1 (PyProof.Rows.args_cons (thn (ha.run pins s σ H _ I h) fun v s1 ⟨x, H1, I1, r1, q1⟩ => PyProof.Rows.args_nil ?_) na) na rfl
  obtain ⟨l, xs, rfl, hq, h1, q1⟩ := q1
  cases r1
  have fin : ∀ (h' : Heap) (tk : Nat), MadeTx X.prog X.w s1 xs h' →
      wpAny (model X.prog X.w) X.A (spliced (backTo pos (starEach [] X.env))) (fun vs s₂ => wpAny (model X.prog X.w) X.A (call (.builtin "len") (Value.ref s1.heap.objs.size :: vs)) (EP X pins σ Q) X.xe s₂) X.xe { s1 with heap := h', toks := tk } := fun h' tk m => by
    refine PyProof.Rows.args_nil ?_
    obtain ⟨⟨o, es, ep, t, ho, hex, hd, _, _, _, hf, hn⟩, hk⟩ := m
    have I2 : Inv X pins σ H1 { s1 with heap := h', toks := tk } := I1.kept fun b o e => hk b o e
    have h2 := onceS_le xs
    exact call_len_set ho hex hd hf (by rw [hn] <;> omega) ⟨.int ((onceS xs).length : Nat), H1, I2.tok _, ⟨_, by rw [hn]⟩, q1⟩
  rcases hq with hq | hq
  · obtain ⟨its, r, pl, hz⟩ := I1.list hq
    exact call_set_texts (I1.ok.hd hc) (.inl pl.isList) (by simpa using strsAre_of r) (by unfold scanBound; omega) fin
  · obtain ⟨its, r, pl, hz⟩ := I1.tuple hq
    exact call_set_texts (I1.ok.hd hc) (.inr pl) (by simpa using strsAre_of r) (by unfold scanBound; omega) fin
end
theorem onceS_nodup : ∀ (xs : List Str), (onceS xs).length = xs.length ↔ xs.Nodup := by
  have key : ∀ (xs σ : List Str), σ.Nodup → ((xs.foldl onceStep σ).length = σ.length + xs.length ↔ (xs.Nodup ∧ ∀ x ∈ xs, x ∉ σ)) := by
    intro xs
    induction xs with
    | nil => intro σ _; simp
    | cons x r ih =>
      intro σ hσ
      rw [List.foldl_cons, List.length_cons]
      by_cases hx : σ.any (· == x) = true
      · have e : onceStep σ x = σ := by unfold onceStep; rw [if_pos hx]
        have hm : x ∈ σ := by
          obtain ⟨y, hy, e⟩ := List.any_eq_true.mp hx
          rw [← beq_iff_eq.mp e]
          exact hy
        rw [e]
        have := once_fold r σ
        constructor
        · intro h; omega
        · intro ⟨_, h⟩
          exact absurd hm (h x List.mem_cons_self)
      · have e : onceStep σ x = σ ++ [x] := by unfold onceStep; rw [if_neg hx]
        have hm : x ∉ σ := fun hm => hx (List.any_eq_true.mpr ⟨x, hm, by simp⟩)
        rw [e]
        have hn : (σ ++ [x]).Nodup := List.nodup_append.mpr ⟨hσ, by simp, fun a ha b hb => by
          rw [List.mem_singleton.mp hb]
          exact fun e => hm (e ▸ ha)⟩
        have h := ih (σ ++ [x]) hn
        rw [List.length_append, List.length_singleton] at h
        have e2 : σ.length + 1 + r.length = σ.length + (r.length + 1) := by omega
        rw [e2] at h
        rw [h, List.nodup_cons]
        constructor
        · rintro ⟨h1, h2⟩
          refine ⟨⟨fun hr => h2 x hr (List.mem_append_right _ (List.mem_singleton.mpr rfl)), h1⟩, fun y hy => ?_⟩
          rcases List.mem_cons.mp hy with rfl | hy
          · exact hm
          · exact fun z => h2 y hy (List.mem_append_left _ z)
        · rintro ⟨⟨h1, h2⟩, h3⟩
          refine ⟨h2, fun y hy z => ?_⟩
          rcases List.mem_append.mp z with z | z
          · exact h3 y (List.mem_cons_of_mem _ hy) z
          · rw [List.mem_singleton.mp z] at hy
            exact h1 hy
  intro xs
  have h := key xs [] List.nodup_nil
  simpa [onceS] using h
end Kx
namespace Kx
open PySem PySem.Spec PyProof.Rows L2 SX LamX
section
variable {X : Cx}
/-- tuple(list): the tuple is known to the object -/
theorem call_tuple_frz : CallR X (.type "tuple") (fun xs H Q => ∃ p ys, xs = [.ref p] ∧ ((SqL X.K H p ys ∧ ∀ l o, H l = none → o.dict = none → Q (.ref l) (upd H l (.frz o (.tup ys)))) ∨ (SqT X.K H p ys ∧ Q (.ref p) H))) := by
  intro pins s σ H xs us Q I r h
  obtain ⟨p, ys, rfl, h⟩ := h
  obtain ⟨u, rfl, rx⟩ := vals1 r
  cases rx
  rcases h with ⟨hq, q⟩ | ⟨hq, q⟩
  · obtain ⟨its, r', pl, hz⟩ := I.list hq
    have hlen := r'.length
    refine call_tuple_list pl.isList (fun h' kp => ?_) (by simp only [List.size_toArray] <;> omega)
    have I1 : Inv X pins σ H { s with heap := h' } := I.kept (t' := s.toks) kp
    have I2 : Inv X pins σ (upd H h'.objs.size (.frz { cls := .type "tuple", data := .seq its.toArray } (.tup ys))) { s with heap := h'.push { cls := .type "tuple", data := .seq its.toArray } } :=
      I1.laid (t' := s.toks) (fun b o e => Heap.get?_push_of_some _ e) (Nat.le_refl _) (show ObjOk X.prog X.w _ _ _ (.frz _ (.tup ys)) from ⟨Heap.get?_push_size _ rfl, hz, its, r', IsTup.new _ _⟩)
    exact ⟨.ref h'.objs.size, _, I2, rfl, q _ _ (I1.hok.fresh (Nat.le_refl _)) rfl⟩
  · obtain ⟨its, r', pl, hz⟩ := I.tuple hq
    exact call_tuple_same pl ⟨.ref p, H, I, rfl, q⟩
/-- a tuple that has no dict -/
def TupN (K : PySem.W.Frag) (H : Hp) (p : Addr) : Prop := (∃ o xs, H p = some (.frz o (.tup xs)) ∧ o.dict = none) ∨ ∃ o, K.lookup p = some o ∧ o.cls = .type "tuple" ∧ o.dict = none
theorem TupN.same {K : PySem.W.Frag} {H H' : Hp} {p : Addr} (e : Same H H') (h : TupN K H p) : TupN K H' p := by
  rcases h with ⟨o, xs, h1, h2⟩ | h
  · exact .inl ⟨o, xs, e _ _ h1, h2⟩
  · exact .inr h
theorem TupN.ext {K : PySem.W.Frag} {H H' : Hp} {p : Addr} (e : ExtN H H') (h : TupN K H p) : TupN K H' p := by
  rcases h with ⟨o, xs, h1, h2⟩ | h
  · exact .inl ⟨o, xs, ext_at e h1, h2⟩
  · exact .inr h
theorem tupN_ty {pins : List (Addr × Obj)} {σ : L2.St} {H : Hp} {s : Shared} {y : V} {v : Value} (I : Inv X pins σ H s) (r : RelV y v) (ty : ∃ p, y = .ref p ∧ TupN X.K H p) :
    s.TypeIs v "tuple" ∧ ∀ a, v = .ref a → ∃ ob, s.heap.get? a = some ob ∧ ob.dict = none := by
  obtain ⟨p, rfl, h⟩ := ty
  cases r
  have key : ∃ ob, s.heap.get? p = some ob ∧ ob.cls = .type "tuple" ∧ ob.dict = none := by
    rcases h with ⟨o, xs, e, d⟩ | ⟨o, e, c, d⟩
    · have h1 : ObjOk X.prog X.w H s.heap p (.frz o (.tup xs)) := I.hok p _ e
      obtain ⟨g, _, its, _, ⟨o2, g2, c2, _⟩⟩ := h1
      rw [g] at g2
      cases g2
      exact ⟨o, g, c2, d⟩
    · exact ⟨o, I.kIn _ _ e, c, d⟩
  obtain ⟨ob, g, c, d⟩ := key
  refine ⟨⟨ob, g, c⟩, fun b hb => ?_⟩
  cases hb
  exact ⟨ob, g, d⟩
def tTM (K : PySem.W.Frag) (r : V → List V → Hp → VK → Prop) (to : TE) (t : TA) : TE := fun σ H Q => to σ H fun x H1 => (∃ p, x = .ref p ∧ TupN K H1 p) ∧ t σ H1 fun xs H2 => r x xs H2 Q
variable {o e : Expr} {es : List Expr} {to : TE} {t : TA} {name : Str} {apos cpos : Pos} {id : String} {r : V → List V → Hp → VK → Prop}
/-- o.m(e, ..), o a tuple -/
theorem pe_tm (slot : Slot "tuple" name id) (hty : typeOf (.builtin id) = pure (.type "method_descriptor")) (hm : MtR X id r) (ho : PE X o to) (ha : PA X (e :: es) t)
    (hbase : attributeBase o name X.env (eval o X.env) = eval o X.env := by rfl)
    (hfew : ((backTo cpos (starEach (e :: es) X.env)).all (fun x => !x.1) && (backToKw cpos (keywordEach [] X.env)).all (fun x => x.1.isSome)
      && decide ((e :: es).length + ([] : List Keyword).length + (if ([] : List Keyword).isEmpty then 0 else 1) < 30)) = true := by rfl)
    (hline : (apos.endLine == cpos.line) = true := by rfl) (hs : starEach (e :: es) X.env = (false, eval e X.env) :: starEach es X.env := by rfl) (hplain : (backTo cpos (starEach es X.env)).any (·.1) = false := by rfl) :
    PE X (.Call (.Attribute o name apos) (e :: es) [] cpos) (tTM X.K r to t) := by
  refine ⟨fun pins s σ H Q I h => ?_⟩
  refine wpAny_Call_method_late hbase hfew hline rfl (thn (ho.run pins s σ H _ I h) fun v s1 ⟨x, H1, I1, r1, ty, q1⟩ => ?_)
  obtain ⟨h1, h2⟩ := tupN_ty I1 r1 ty
  refine ⟨"tuple", id, PySem.F.plainAttrs_tuple, slot, hty, h1, h2, ?_⟩
  have hA := ha.run cpos pins s1 σ H1 _ I1 q1
  rw [hs] at hA ⊢
  refine Calls.callWith_builtin (by show (false || (backTo cpos (starEach es X.env)).any (·.1)) = false; rw [hplain] <;> rfl) (Calls.evalArgs_plain ?_)
  exact thn hA fun us s2 ⟨vs, H2, I2, r2, q2⟩ => hm pins s2 σ H2 x vs v us Q I2 r1 r2 q2
end
section
variable {X : Cx} {CX : CXT} {k : Nat} {f C : Addr} {fd : FuncData} {ps ks : List Str} {sp : Sp} {E : XK} {o : Expr} {m : Str} {apos pos : Pos} {kws : List Keyword} {ta : TE} {tk : TA} {g : List Value → List Value → List Value} {gV : List V → List V → List V}
def tMethK (C : Addr) (m : Str) (sp : Sp) (gV : List V → List V → List V) (E : XK) (ta : TE) (tk : TA) : TE := fun σ H Q => ta σ H fun x H1 => ∃ a dx fs, x = .ref a ∧ H1 a = some (.ins C dx fs) ∧ fs.lookup m = none ∧ tk σ H1 fun zs H2 => sp (gV [x] zs) H2 Q E
/-- o.m(k = v) -/
theorem pe_methK0 {pl : Sem Bool} (he : PE X o ta) (c : Cls X.K C) (hm : Meth X.K C m f) (F : FnOk X.prog X.w X.K X.mg X.base CX k f fd ps sp) (hr : Room k X.A) (hb : KBinds X.K fd ps ks g gV) (hx : Passes CX X E) (hkw : PK X kws tk)
    (hall : (backToKw pos (keywordEach kws X.env)).all (·.1.isSome) = true := by rfl) (hks : (backToKw pos (keywordEach kws X.env)).filterMap (·.1) = ks := by rfl)
    (hpl : ((backTo pos (starEach [] X.env)).any (·.1) || (backToKw pos (keywordEach kws X.env)).any (·.1.isNone)) = false := by rfl)
    (ht : eval (.Call (.Attribute o m apos) [] kws pos) X.env = (do
      let ov ← eval o X.env
      standAt apos.atName
      let (f, first) ← holding [ov] (getMethod ov m pl)
      callWith pos f first (backTo pos (starEach [] X.env)) (backToKw pos (keywordEach kws X.env))) := by rfl) :
    PE X (.Call (.Attribute o m apos) [] kws pos) (tMethK C m sp gV E ta tk) := by
  refine ⟨fun pins s σ H Q I h => ?_⟩
  refine PySem.W.methodCall_KW (pl := pl) (thn (he.run pins s σ H _ I h) fun u s1 ⟨x, H1, I1, rx, a, dx, fs, ex, ea, l, q⟩ => ?_) ht
  subst ex
  obtain rfl : u = Value.ref a := rx
  refine getmeth_ok I1 ea c hm l ?_
  show wpAny _ _ (callWith pos (.ref f) [.ref a] (backTo pos (starEach [] X.env)) (backToKw pos (keywordEach kws X.env))) _ _ _
  refine PySem.W.callWith_KW0 (first := [.ref a]) (h₀ := X.base) I.ok.mod.kin hm.kp hall (thn (hkw.run pos pins s1 σ H1 _ I1 q) fun ws s2 ⟨zs, H2, I2, rz, q2⟩ => ⟨I2.kIn, ?_⟩) hpl
  rw [hks]
  exact run_fnk (us := [.ref a]) (vs := [.ref a]) F hr hb hx I2 (.cons rfl .nil) rz q2
end
/-- self, and one by name -/
def selfG {α : Type} (us ws : List α) : List α := match us, ws with | [s], [u] => [s, u] | _, _ => []
theorem kb_self {K : PySem.W.Frag} {x qual : Str} {st : Stmt} {f : Addr} {fd : FuncData} {a b : Str} (F : Fun K x qual st f fd)
    (h : ∀ (kV doc pm : Value) (an : Option Addr) (cdv ct : Value) (s u : Value), bindArgs (PySem.W.fnOf x qual (defArgs st) (defBody st) (defScope st) .none kV doc pm an cdv ct) ⟨[s], [(b, u)]⟩ = pure [(a, s), (b, u)]) :
    KBinds K fd [a, b] [b] selfG selfG := by
  obtain ⟨oc, od, kV, doc, pm, an, cdv, ct, osl, rfl, lk, hcd⟩ := F.ex
  refine ⟨fun s us ws X l => ?_, fun {vs us zs ws} r1 r2 => ?_⟩
  · match us, ws, l with
    | [s], [u], _ => exact .of_eq (h kV doc pm an cdv ct s u)
    | [], _, l => cases l
    | [_], [], l => cases l
    | [_], _ :: _ :: _, l => cases l
    | _ :: _ :: _, _, l => cases l
  · cases r1 with
    | nil => exact .nil
    | cons h1 r1 =>
      cases r1 with
      | cons _ _ => exact .nil
      | nil =>
        cases r2 with
        | nil => exact .nil
        | cons h2 r2 =>
          cases r2 with
          | nil => exact .cons h1 (.cons h2 .nil)
          | cons _ _ => exact .nil
/-- .. the same for the making of an instance -/
theorem kbn_self {K : PySem.W.Frag} {x qual : Str} {st : Stmt} {f : Addr} {fd : FuncData} {a b : Str} (F : Fun K x qual st f fd)
    (h : ∀ (kV doc pm : Value) (an : Option Addr) (cdv ct : Value) (s u : Value), bindArgs (PySem.W.fnOf x qual (defArgs st) (defBody st) (defScope st) .none kV doc pm an cdv ct) ⟨[s], [(b, u)]⟩ = pure [(a, s), (b, u)]) :
    KBn K fd [a, b] 1 [b] selfG selfG := by
  have kb := kb_self F h
  refine ⟨fun s us ws X l1 l2 => kb.to s us ws X ?_, kb.rel⟩
  match us, ws, l1, l2 with
  | [_], [_], _, _ => rfl
end Kx
namespace Kx
open PySem PySem.Spec PyProof.Rows L2 SX LamX
theorem sqT_put {K : PySem.W.Frag} {H : Hp} {p a C dx : Addr} {fs : List (Str × V)} {o : HO} {xs : List V} (hp : H p = some (.ins C dx fs)) (h : SqT K H a xs) : SqT K (upd H p o) a xs := by
  rcases h with (h | ⟨ob, h⟩) | h
  · exact .inl (.inl (by rw [upd_ne (ne_of_two h hp (fun z => by cases z))]; exact h))
  · exact .inl (.inr ⟨ob, by rw [upd_ne (ne_of_two h hp (fun z => by cases z))]; exact h⟩)
  · exact .inr h
theorem tupN_put {K : PySem.W.Frag} {H : Hp} {p a C dx : Addr} {fs : List (Str × V)} {o : HO} (hp : H p = some (.ins C dx fs)) (h : TupN K H a) : TupN K (upd H p o) a := by
  rcases h with ⟨ob, xs, h, d⟩ | h
  · exact .inl ⟨ob, xs, by rw [upd_ne (ne_of_two h hp (fun z => by cases z))]; exact h, d⟩
  · exact .inr h
theorem kitOne_no {K : PySem.W.Frag} {C : Addr} {n : String} (h1 : PySem.W.isClsIn K C = true) (h2 : PySem.W.typeIn K (.ref C) = some (.type "type")) (h3 : PySem.W.subIn K (.type n) (.ref C) = some false) : PySem.W.kitOne K (.type n) (.ref C) = some false := by
  unfold PySem.W.kitOne
  rw [if_neg (by simp)]
  unfold PySem.W.kitCls
  have h1' : (PySem.W.clsIn K C).isSome = true := h1
  dsimp only
  rw [h1', h2]
  exact h3
theorem kitOne_self {K : PySem.W.Frag} {C : Addr} : PySem.W.kitOne K (.ref C) (.ref C) = some true := by
  unfold PySem.W.kitOne
  simp
theorem kitOne_other {K : PySem.W.Frag} {C D : Addr} (h1 : PySem.W.isClsIn K C = true) (h2 : PySem.W.typeIn K (.ref C) = some (.type "type")) (h3 : PySem.W.subIn K (.ref D) (.ref C) = some false) (h4 : PySem.W.subIn K (.ref D) (.ref D) = some true) : PySem.W.kitOne K (.ref D) (.ref C) = some false := by
  have ne : D ≠ C := fun e => by
    rw [e] at h3 h4
    rw [h3] at h4
    cases h4
  unfold PySem.W.kitOne
  rw [if_neg (by simpa using ne)]
  unfold PySem.W.kitCls
  have h1' : (PySem.W.clsIn K C).isSome = true := h1
  dsimp only
  rw [h1', h2]
  exact h3
theorem sub_non {K : PySem.W.Frag} {C : Addr} : PySem.W.subIn K (.type "NoneType") (.ref C) = some false := HN.sub_none
theorem eqv_text (a b : List Nat) : PyData.eqv (.str (S a)) (.str (S b)) = decide (a = b) := by
  show (S a == S b) = _
  by_cases h : a = b
  · rw [h, decide_eq_true rfl]
    simp
  · rw [decide_eq_false h, beq_eq_false_iff_ne]
    intro e
    have := congrArg (fun z : Str => z.cps.toList) e
    exact h (by simpa [S] using this)
theorem eqv_texts (xs ys : List (List Nat)) : PyData.eqv (.tuple (xs.map fun l => PyData.str (S l))) (.tuple (ys.map fun l => PyData.str (S l))) = decide (xs = ys) := eqvAll_map eqv_text xs ys
theorem pl_text {l : List Nat} (h : cdC l) : Pl 0 (.str (S l)) := ⟨by
  show (S l).cps.all (· < 0x110000) = true
  have e : (S l).cps.all (· < 0x110000) = l.all (fun c => decide (c < 1114112)) := by simp [S]
  rw [e]
  exact h, Nat.le_refl _⟩
theorem low_cd {l : List Nat} (h : l.all low = true) : cdC l := by
  unfold cdC
  rw [List.all_eq_true] at h ⊢
  intro c hc
  have := low_lt (h c hc)
  exact decide_eq_true (by omega)
theorem inV_texts {v : V} (ws : List (List Nat)) : inV v (ws.map fun l => V.str (S l)) = true ↔ ∃ w ∈ ws, v = .str (S w) := by
  unfold inV
  rw [List.any_map, List.any_eq_true]
  constructor
  · rintro ⟨w, hw, h⟩
    refine ⟨w, hw, ?_⟩
    cases v with
    | str x =>
      have h' : (S w == x) = true := h
      rw [beq_iff_eq.mp h']
    | _ => cases h
  · rintro ⟨w, hw, rfl⟩
    exact ⟨w, hw, by show (S w == S w) = true; simp⟩
end Kx
namespace Kx
open PySem PySem.Spec PyProof.Rows L2 SX LamX
section
variable {X : Cx}
theorem rev_pick (z : Str) : ((Builtin.Str.strSliceIndices none none (-1) z.length).filterMap (z.cps[·]?)).toArray = z.cps.toList.reverse.toArray := by
  have e : Builtin.Str.strSliceIndices none none (-1) z.length = sliceRange ((z.cps.size : Int) - 1) (-1) (-1) := rfl
  rw [e, PySem.W.krv_sliceRange, PySem.W.krv_range, List.filterMap_reverse, PySem.W.krv_all]
/-- x[::-1], a text -/
def tRevS (te : TE) : TE := fun σ H Q => te σ H fun x H1 => ∃ l : List Nat, x = .str (S l) ∧ l.length ≤ 1000000 ∧ Q (.str (S l.reverse)) H1
theorem pe_revS {e : Expr} {te : TE} {k : Nat} {p1 p2 p3 pos : Pos} (he : PE X e te) : PE X (.Subscript e (.Slice none none (some (.UnaryOp .USub (.Constant (.int 1) k p1) p2)) p3) pos) (tRevS te) := by
  refine ⟨fun pins s σ H Q I h => ?_⟩
  refine Subscript_ (thn (he.run pins s σ H _ I h) fun v s1 ⟨x, H1, I1, r1, q1⟩ => ?_)
  obtain ⟨z, ex, hz, q⟩ := q1
  subst ex
  obtain ⟨t, rfl⟩ := r1
  have hst : PO X (some (.UnaryOp .USub (.Constant (.int 1) k p1) p2)) (tPart (tUn (rU fun i => .int (-i)) (tC (.int 1)))) := po_some (pe_un un_neg pe_int)
  refine wpAny_Slice (thn (po_none.run pins s1 σ H1 (fun o H2 => o = none ∧ H2 = H1) I1 ⟨rfl, rfl⟩) fun vl s2 ⟨l, H2, I2, pl, el, e2⟩ => ?_)
  subst el e2
  refine thn (po_none.run pins s2 σ H2 (fun o H3 => o = none ∧ H3 = H2) I2 ⟨rfl, rfl⟩) fun vu s3 ⟨u, H3, I3, pu, eu, e3⟩ => ?_
  subst eu e3
  refine thn (hst.run pins s3 σ H3 (fun o H4 => o = some (-1) ∧ H4 = H3) I3 ⟨1, rfl, -1, rfl, rfl, rfl⟩) fun vs s4 ⟨o, H4, I4, ps, eo, e4⟩ => ?_
  subst eo e4
  have I5 : Inv X pins σ H4 { s4 with heap := s4.heap.push { cls := .type "slice", data := .fields #[vl, vu, vs] } } := I4.kept (t' := s4.toks) fun b ob q => Heap.get?_push_of_some _ q
  obtain ⟨l', rfl, e1⟩ := IsPart.raw pl
  obtain ⟨u', rfl, e2⟩ := IsPart.raw pu
  obtain ⟨w', rfl, e3⟩ := IsPart.raw ps
  show wpAny (model X.prog X.w) X.A (subscriptTail e (.Slice none none (some (.UnaryOp .USub (.Constant (.int 1) k p1) p2)) p3) (.str (S z) t) (.ref s4.heap.objs.size)) (EP X pins σ Q) X.xe _
  refine tail_any (ops := [.str (S z) t, .ref s4.heap.objs.size]) (typeIs_str _ _ _) (PySem.F.slot_str_getitem.lookup) ?_ (by with_unfolding_all rfl)
  refine wpAny_getItem_str_slice (l := l') (u := u') (st := w') ⟨_, Heap.get?_push_size _ rfl, rfl, rfl⟩ (by rw [e3]; decide) ?_
  have hm : l'.map (·.1) = none := e1
  have hu : u'.map (·.1) = none := e2
  have made : sliceMade (S z) t l' u' w' = Made.str (S z.reverse) := by
    unfold sliceMade slicePicked
    rw [hm, hu, e3]
    show (if ((-1 : Int) == 1 && _) = true then _ else _) = _
    rw [if_neg (by simp)]
    have e0 : (S z).cps.toList = z := by simp [S]
    have e5 := rev_pick (S z)
    rw [e0] at e5
    exact congrArg (fun a => Made.str ⟨a⟩) e5
  rw [made]
  exact ⟨by rw [S_len, List.length_reverse]; exact Nat.le_trans hz (by decide), .str _, _, I5.tok _, ⟨_, rfl⟩, q⟩
end
end Kx
namespace Kx
open PySem PySem.Spec PyProof.Rows L2 SX LamX
theorem go_set {te : TE} {u : TS} {D : Ends} {σ : L2.St} {H : Hp} {i : Nat} (h : te σ H fun x H1 => u D (σ.set i (some x)) H1) : tSeq (tAsg te (gName i)) u D σ H := h
theorem go_next {D : Ends} {σ : L2.St} {H : Hp} (h : D.nx σ H) : tNext D σ H := h
theorem go_and2 {ta tb : TT} {σ : L2.St} {H : Hp} {Q : Bool → Hp → Prop} (h : ta σ H fun b H1 => if b = true then tb σ H1 Q else Q false H1) : tAnd ta tb σ H Q := h
end Kx
namespace Kx
open PySem PySem.Spec PyProof.Rows L2 SX LamX
/-- a test that fails -/
theorem if_same {c : TT} {t u : TS} {D : Ends} {σ : L2.St} {H : Hp} (hc : ∀ Q : Bool → Hp → Prop, (∀ H', Same H H' → Q false H') → c σ H Q) (h : ∀ H', Same H H' → u D σ H') : tIfS c t u D σ H := go_if (hc _ fun H' e => iteF (A := _) (h H' e))
theorem nodup_rev {α : Type} {l : List α} (h : l.Nodup) : l.reverse.Nodup := by
  unfold List.Nodup at h ⊢
  rw [List.pairwise_reverse]
  exact h.imp fun h e => h e.symm
end Kx
namespace Kx
open PySem PySem.Spec PyProof.Rows L2 SX LamX
open PySem.W in
/-- the goal that the head leaves, of a law in which two defs make lambdas -/
theorem walkL2 {l : OpenLaw} {n k : Nat} {q : Program} {loose : List Str} {XP : (Str → Option Value) → Heap → Prop} {YP : World → Heap → Prop} {d : DefRec} {K : Params → Frag} {x y z : Str} (sp : Frag → Addr → Addr → Sp)
    (hn : l.most = some n) (hz : n ≤ sizeLine) (h0 : d.params.defaults = []) (hr : Room k callerA) (hY : ∀ (w : World) (h : Heap), YP w h → (K w.params).In h)
    (hc : ∀ p, ((∃ r, (recsOf q).find? (fun r => r.name == y) = some r) ∧ ∃ r, (recsOf q).find? (fun r => r.name == z) = some r) ∧ ∃ c Pt c2 Pu, (tabIn (K p) y = some (c, Pt) ∧ (K p).lookup Pt = none) ∧ (tabIn (K p) z = some (c2, Pu) ∧ (K p).lookup Pu = none) ∧ Pt ≠ Pu)
    (F : ∀ (w : World) (mg : Str → Option Value) (fa : Addr) (h : Heap), (K w.params).In h → h.Ns mainGlobals mg → mg d.name = some (.ref fa) → ∃ fd : FuncData,
      (∀ (t : Shared) (u : Value), BindsTo t fd ⟨[u], []⟩ [(x, u)]) ∧ ∀ (c Pt c2 Pu : Addr), tabIn (K w.params) y = some (c, Pt) → tabIn (K w.params) z = some (c2, Pu) → Pt ≠ Pu → ∀ base : Heap, (K w.params).In base → base.Ns mainGlobals mg → TabB base mg c Pt → TabB base mg c2 Pu → FnG l.prog w (K w.params) mg base CX0 k fa fd [x] (sp (K w.params) Pt Pu))
    (pr : ∀ (K : Frag) (Pt Pu : Addr) (H : Hp) (a : Addr) (ns : List Int), ns.length ≤ n → H Pt = some (.tbl #[]) → H Pu = some (.tbl #[]) → SqL K H a (ns.map V.int) → sp K Pt Pu [.ref a] H (fun v _ => v = .bl true) fun _ _ _ => False) :
    WalkO q loose XP YP l.row.toRowW d [] (fun f us => PySem.call f us) := by
  refine walkT (x := x) (K := K) (cs := fun p => [(y, ((tabIn (K p) y).getD (0, 0))), (z, ((tabIn (K p) z).getD (0, 0)))]) (sp := fun K => sp K ((tabIn K y).getD (0, 0)).2 ((tabIn K z).getD (0, 0)).2) hn hz h0 hr hY (fun p e he => ?_) (fun w mg fa h KX G hmg => ?_) (fun p H a ns hl ht hS _ => pr _ _ _ H a ns hl (ht _ List.mem_cons_self) (ht _ (List.mem_cons_of_mem _ List.mem_cons_self)) hS)
  · obtain ⟨⟨r1, r2⟩, c, Pt, c2, Pu, ⟨h2, h3⟩, ⟨h4, h5⟩, _⟩ := hc p
    rcases List.mem_cons.mp he with rfl | he
    · refine ⟨r1, ?_, ?_⟩
      · rw [h2]
        rfl
      · rw [h2]
        exact h3
    · cases List.mem_singleton.mp he
      refine ⟨r2, ?_, ?_⟩
      · rw [h4]
        rfl
      · rw [h4]
        exact h5
  · obtain ⟨fd, hb, hF⟩ := F w mg fa h KX G hmg
    obtain ⟨_, c, Pt, c2, Pu, ⟨h2, _⟩, ⟨h4, _⟩, hne⟩ := hc w.params
    refine ⟨fd, hb, fun base hk hg ht => ?_⟩
    have hT := ht _ List.mem_cons_self
    have hU := ht _ (List.mem_cons_of_mem _ List.mem_cons_self)
    simp only [h2, h4, Option.getD_some] at hT hU ⊢
    exact hF c Pt c2 Pu h2 h4 hne base hk hg hT hU
theorem tab_at {K : PySem.W.Frag} {x : Str} {f c Pt : Addr} {oc oc2 : Value} {od od2 : Option Addr} {osl osl2 : Array (Option Value)} {fd : FuncData} {vs : Array Value} (a : PySem.W.nsIn K mainGlobals x = some (some (.ref f)))
    (l : K.lookup f = some ⟨oc, od, .func fd, osl⟩) (e : fd.code = .ref c) (l2 : K.lookup c = some ⟨oc2, od2, .fields vs, osl2⟩) (v : (vs[11]? : Option Value) = some (.ref Pt)) (n : K.lookup Pt = none) :
    PySem.W.tabIn K x = some (c, Pt) ∧ K.lookup Pt = none := by
  refine ⟨?_, n⟩
  unfold PySem.W.tabIn
  rw [a]
  simp only [l, e, l2, v]
end Kx
namespace Kx
open PySem PySem.Spec PyProof.Rows L2 SX LamX
section
variable {X : Cx} {K : PySem.W.Frag}
theorem inK_op_in_seq (e : X.K = K) : OpR X (compareOp .In) (rIn K false) := e ▸ op_in_seq
theorem inK_op_notIn_seq (e : X.K = K) : OpR X (compareOp .NotIn) (rIn K true) := e ▸ op_notIn_seq
theorem inK_call_tuple_frz (e : X.K = K) : CallR X (.type "tuple") (fun xs H Q => ∃ p ys, xs = [.ref p] ∧ ((SqL K H p ys ∧ ∀ l o, H l = none → o.dict = none → Q (.ref l) (upd H l (.frz o (.tup ys)))) ∨ (SqT K H p ys ∧ Q (.ref p) H))) := e ▸ call_tuple_frz
end
theorem sub_int {K : PySem.W.Frag} {C : Addr} : PySem.W.subIn K (.type "int") (.ref C) = some false := by
  have e : fastBuiltinMro "int" = some [.type "int", .type "object"] := by decide +kernel
  show (fastBuiltinMro "int").map (·.contains (.ref C)) = some false
  rw [e]
  first
    | rfl
    | simp
end Kx
namespace PySem
open Sem (wp)
open AutoSeq1 (wpAny_loadPart')
theorem meets_enumerate_newT (l : Addr) (items : Array Value) (n : Nat) (dct : Option Addr) (sl : Array (Option Value)) :
    Meets (Builtin.«enumerate.__new__» ⟨[.type "enumerate", .ref l], []⟩) (fun _ R s => s.heap.get? l = some { cls := .type "tuple", dict := dct, data := .seq items n, slots := sl } ∧
      R (.ok (.ret (.ref (s.heap.push { cls := .type "tuple_iterator", data := .fields #[.ref l, .int 0 0] }).objs.size)))
        { s with heap := (s.heap.push { cls := .type "tuple_iterator", data := .fields #[.ref l, .int 0 0] }).push { cls := .type "enumerate", data := .fields #[.none, .bool false, .ref s.heap.objs.size, rawInt 0, .none, .none] } }) :=
  .of_wp fun prog w A R s h => by
    obtain ⟨hp, g, d, tk, os⟩ := s
    obtain ⟨hl, h⟩ := h
    have hsub := sub_enumerate
    have hL : Heap.IsTuple (Shared.heap ⟨hp, g, d, tk, os⟩) l items := ⟨_, hl, rfl, n, rfl⟩
    wp_walk using wpAny_loadPart' hl
    refine wpAny_stack_any fun st => wpAny_pure ?_
    split
    · rename_i c _ _ _ _ _
      cases (c == Value.type "enumerate")
      · wp_walk using wpAny_loadPart' hl, wpAny_pyIter_tuple hL
        exact ⟨_, rfl, h⟩
      · wp_walk using wpAny_loadPart' hl, wpAny_pyIter_tuple hL
        exact ⟨_, rfl, h⟩
    · wp_walk using wpAny_loadPart' hl, wpAny_pyIter_tuple hL
      exact ⟨_, rfl, h⟩
section
variable {prog : Program} {w : World} {A : Around} {E : Value → Shared → Prop} {s : Shared}
theorem call_enumerate_tuple {l : Addr} {items : Array Value} {Q : Value → Shared → Prop} (hL : s.heap.IsTuple l items)
    (h : ∀ h', IsEnum h' (s.heap.objs.size + 1) s.heap.objs.size 0 .none → h'.IsTupleIter s.heap.objs.size l 0 → h'.objs.size = s.heap.objs.size + 2 →
      (∀ b o, s.heap.get? b = some o → h'.get? b = some o) → Q (.ref (s.heap.objs.size + 1)) { s with heap := h' }) :
    wpAny (model prog w) A (call (.type "enumerate") [.ref l]) Q E s := by
  obtain ⟨⟨c, dct, dt, sl⟩, hl, hc, n, hd⟩ := hL
  replace hc : c = .type "tuple" := hc
  replace hd : dt = .seq items n := hd
  subst hc hd
  refine callType_new F.called_enumerate (by decide) (F.typeCall_enumerate_1 _) (F.newCall_enumerate_1 _) (fun obj => F.args_object_init_2 obj _) F.entry_enumerate_new
    (meets_enumerate_newT l items n dct sl) ⟨hl, ?_⟩
  have hz : (s.heap.push { cls := .type "tuple_iterator", data := .fields #[.ref l, .int 0 0] }).objs.size = s.heap.objs.size + 1 := Heap.size_push ..
  show _ ∧ _
  rw [hz]
  have he : IsEnum ((s.heap.push { cls := .type "tuple_iterator", data := .fields #[.ref l, .int 0 0] }).push
      { cls := .type "enumerate", data := .fields #[.none, .bool false, .ref s.heap.objs.size, rawInt 0, .none, .none] }) (s.heap.objs.size + 1) s.heap.objs.size 0 .none := by
    have := Heap.get?_push_size (s.heap.push { cls := .type "tuple_iterator", data := .fields #[.ref l, .int 0 0] })
      (o := { cls := .type "enumerate", data := .fields #[.none, .bool false, .ref s.heap.objs.size, rawInt 0, .none, .none] }) rfl
    rw [hz] at this; exact this
  refine ⟨⟨_, he, rfl⟩, h _ he ⟨_, Heap.get?_push_of_some _ (Heap.get?_push_size _ rfl), rfl, rfl⟩ (by rw [Heap.size_push, hz]) fun b o x => Heap.get?_push_of_some _ (Heap.get?_push_of_some _ x)⟩
end
end PySem
namespace Kx
open PySem PySem.Spec PyProof.Rows L2 SX LamX
/-! ### enumerate(tuple) -/
def IteT (K : PySem.W.Frag) (a : Addr) : It :=
  ⟨fun i H => ∃ (xs : List V) (x : V), SqT K H a xs ∧ xs[i]? = some x, fun i H v H' => ∃ T x, v = .ref T ∧ H T = none ∧ H' = upd H T (.tup [.int (i : Nat), x]) ∧ ∀ xs, SqT K H a xs → xs[i]? = some x, fun i H => ∃ xs : List V, SqT K H a xs ∧ i = xs.length⟩
theorem turn_enumT {P : Program} {w : World} {K : PySem.W.Frag} {elts : List Expr} {kk : Nat} {tpos : Pos} (a e it : Addr) :
    Turn P w K (.Tuple elts kk tpos) (IteT K a) [e, it] e (fun i h => (∃ old, IsEnum h e it ((i : Nat) : Int) old) ∧ h.IsTupleIter it a i ∧ e ≠ it ∧ a ≠ it ∧ a ≠ e) where
  mem := by simp
  obj := fun i h st b hb => by
    obtain ⟨⟨old, he⟩, ⟨o, ho, hc, hd⟩, _⟩ := st
    rcases (show b = e ∨ b = it by simpa using hb) with z | z
    · rw [z]
      exact ⟨_, he, fun v q => nomatch q⟩
    · rw [z]
      exact ⟨o, ho, fun v q => by rw [hd] at q; cases q⟩
  keep := fun i h h' st k => by
    obtain ⟨⟨old, he⟩, ⟨o, ho, r⟩, hne⟩ := st
    exact ⟨⟨old, k e (by simp) _ he⟩, ⟨o, k it (by simp) _ ho, r⟩, hne⟩
  item := by
    intro X hP hw hK hc i pins s σ H E I hf st hg
    subst hP hw hK
    obtain ⟨⟨old, he⟩, hit, hne, n1, n2⟩ := st
    obtain ⟨xs, x, hq, hx⟩ := hg
    obtain ⟨its, rv, p, hz⟩ := I.tuple hq
    obtain ⟨u, hu, ru⟩ := rv.get hx
    have el : e < s.heap.objs.size := Heap.lt_size he
    have il : it < s.heap.objs.size := by
      obtain ⟨_, q, _⟩ := hit
      exact Heap.lt_size q
    have D := Draws.tuple (prog := X.prog) (w := X.w) (A := X.A.in1) (I.ok.hd hc) it a n1 its.toArray
    have hlt : i < its.toArray.size := by
      have := (List.getElem?_eq_some_iff.mp hu).1
      simpa using this
    refine wpAny_pyNext_enum_itemD D he ⟨hit, p⟩ hlt hne (by simp [hne, Ne.symm n2]) fun u' h' tk hu' ho hit' hT hz' hk => ?_
    obtain rfl : u = u' := by
      have h1 : its.toArray[i]? = some u := by simpa using hu
      rw [h1] at hu'
      exact Option.some.inj hu'
    refine ⟨_, rfl, wpAny_letOwnedTupleGo_enum (s := { s with heap := h', toks := tk + 1 }) ho fun h2 he' sb => ?_⟩
    have T2 := (sb.2 _ (Nat.ne_of_gt el)).trans hT
    have new : ObjOk X.prog X.w (upd H s.heap.objs.size (.tup [.int (i : Nat), x])) h2 s.heap.objs.size (.tup [.int (i : Nat), x]) :=
      ⟨by show 2 ≤ sizeLine; decide, [.int i tk, u], .cons ⟨_, rfl⟩ (.cons ru .nil), ⟨_, T2, rfl, _, rfl⟩⟩
    have I1 : Inv X pins σ (upd H s.heap.objs.size (.tup [.int (i : Nat), x])) { s with heap := h2, toks := tk + 1 } :=
      I.turnedNew (ch := [e, it]) (fun b ob hb q => (sb.2 b (fun z => hb (by simp [z]))).trans (hk b ob (fun z => hb (by simp [z])) (fun z => hb (by simp [z])) q)) hf (Nat.le_refl _) new
    refine ⟨.ref s.heap.objs.size, _, I1, rfl, ⟨_, x, rfl, I.hok.fresh (Nat.le_refl _), rfl, fun ys hy => by rw [I.tuple_inj hy hq]; exact hx⟩, ⟨⟨u, ?_⟩, ?_, hne, n1, n2⟩, fun b hb => ?_⟩
    · rw [show ((i + 1 : Nat) : Int) = (i : Int) + 1 by omega]
      exact he'
    · obtain ⟨⟨o, ho2, r⟩, _⟩ := hit'
      exact ⟨o, (sb.2 it (Ne.symm hne)).trans ho2, r⟩
    · have hb' : b < s.heap.objs.size := by
        rcases (show b = e ∨ b = it by simpa using hb) with z | z
        · rw [z]
          exact el
        · rw [z]
          exact il
      rw [upd_ne (Nat.ne_of_lt hb')]
      exact (hf b hb).1
  done := by
    intro X hP hw hK hc i pins s σ H E I hf st hg
    subst hP hw hK
    obtain ⟨⟨old, he⟩, hit, hne, n1, n2⟩ := st
    obtain ⟨xs, hq, hx⟩ := hg
    obtain ⟨its, rv, p, hz⟩ := I.tuple hq
    obtain ⟨f0, f1, f2, f3, f4, f5⟩ := hf it (by simp)
    have hl : i = its.toArray.size := by
      rw [hx, rv.length]
      simp
    have D := Draws.tuple (prog := X.prog) (w := X.w) (A := X.A.in1) (I.ok.hd hc) it a n1 its.toArray
    rw [hl] at hit he
    exact wpAny_pyNext_enum_endD D he ⟨hit, p⟩ fun h' eb => ⟨rfl, I.turned (t' := s.toks) (fun b o hb q => eb b o hb q) f0 f1 f3 f4 f5⟩
  self := fun A i s Q E st h => by
    obtain ⟨⟨_, he⟩, _⟩ := st
    exact wpAny_pyIter_enum he h
def iEnumT (K : PySem.W.Frag) (ta : TA) : TI := fun σ H R => ta σ H fun vs H1 => ∃ a xs, vs = [.ref a] ∧ SqT K H1 a xs ∧ R (IteT K a) H1
theorem pi_enumT {X : Cx} {e : Expr} {ta : TA} {p pos tpos : Pos} {elts : List Expr} {kk : Nat} (hg : Gl X "enumerate") (hm : X.mg "enumerate" = none) (ha : PA X [e] ta) (hs : starEach [e] X.env = [(false, eval e X.env)] := by rfl) :
    PI X (.Tuple elts kk tpos) (.Call (.Name "enumerate" p) [e] [] pos) (iEnumT X.K ta) := by
  refine ⟨fun pins s σ H R I h => ?_⟩
  refine Call_ (ld_blt I hg hm boot_enumerate (PyProof.Rows.callWith_type1 (thn (ha.run pos pins s σ H _ I h) fun us s1 hh => ?_) hs rfl))
  obtain ⟨vs, H1, I1, r1, a, xs, rfl, hq, q⟩ := hh
  obtain ⟨u, rfl, rx⟩ := vals1 r1
  cases rx
  obtain ⟨its, rv, pp, hz⟩ := I1.tuple hq
  have hla : a < s1.heap.objs.size := by
    obtain ⟨_, q, _⟩ := pp
    exact Heap.lt_size q
  refine call_enumerate_tuple pp fun h' he hit hsz hk => wpAny_pyIter_enum he ?_
  have I2 : Inv X pins σ H1 { s1 with heap := h' } := I1.kept (t' := s1.toks) hk
  refine ⟨s1.heap.objs.size + 1, [s1.heap.objs.size + 1, s1.heap.objs.size], _, _, H1, rfl, I2, turn_enumT a (s1.heap.objs.size + 1) s1.heap.objs.size, ⟨⟨.none, he⟩, hit, Nat.succ_ne_self _, Nat.ne_of_lt hla, Nat.ne_of_lt (Nat.lt_succ_of_lt hla)⟩, fun b hb => ?_, q⟩
  have hle : s1.heap.objs.size ≤ b := by
    rcases (show b = s1.heap.objs.size + 1 ∨ b = s1.heap.objs.size by simpa using hb) with z | z
    · rw [z]
      exact Nat.le_add_right _ _
    · rw [z]
      exact Nat.le_refl _
  exact I1.fpOk hle (I1.hok.fresh hle)
theorem walk_enumT {K : PySem.W.Frag} {a : Addr} {xs : List V} : Walk (IteT K a) xs.length (fun H => SqT K H a xs) (fun i H v H' => ∃ T x, v = .ref T ∧ H T = none ∧ H' = upd H T (.tup [.int (i : Nat), x]) ∧ xs[i]? = some x) :=
  ⟨fun i _ hi q => ⟨xs, xs[i], q, by simp [hi]⟩, fun _ q => ⟨xs, q, rfl⟩, fun _ _ _ _ _ q y => by
    obtain ⟨T, x, h1, h2, h3, h4⟩ := y
    exact ⟨T, x, h1, h2, h3, h4 xs q⟩⟩
section
variable {J : It} {n : Nat} {G : Hp → Prop} {Y : Nat → Hp → V → Hp → Prop}
/-- a dict comprehension over whatever walks: Pv by the turn and the heap (the new dict at D within) -/
theorem dc_it (w : Walk J n G Y) {g : TG} {tt : TT} {tk tv : TE} {vs : List Nat} {σ : L2.St} {H1 : Hp} {D : Addr} {Qd : Hp → Prop} (Pv : Nat → Hp → Prop) (h0 : Pv 0 (upd H1 D (.dK []))) (hG : ∀ i H, i ≤ n → Pv i H → G H)
    (hs : ∀ i x H H', i < n → Pv i H → Y i H x H' → g x (wipe σ vs) H' fun σ2 H2 => wipe σ2 vs = wipe σ vs ∧ tt σ2 H2 fun b H3 =>
      if b = true then tk σ2 H3 fun y H4 => tv σ2 H4 fun z H5 => ∃ kvs k, y = kV k ∧ H5 D = some (.dK kvs) ∧ kvs.length < sizeLine ∧ Pv (i + 1) (upd H5 D (.dK (putK kvs k z))) else Pv (i + 1) H3) (hd : ∀ H, Pv n H → Qd H) :
    ∃ W : Nat → Nat → Hp → Prop, (∃ m, W 0 m (upd H1 D (.dK []))) ∧ ∀ i m H, W i m H →
      (J.stop i H ∧ Qd H) ∨ (J.go i H ∧ ∃ Nx : Hp → Prop, (∀ H', Nx H' → ∃ m', m' < m ∧ W (i + 1) m' H') ∧ ∀ x H', J.yld i H x H' → g x (wipe σ vs) H' fun σ2 H2 => wipe σ2 vs = wipe σ vs ∧ tt σ2 H2 fun b H3 =>
        if b = true then tk σ2 H3 fun y H4 => tv σ2 H4 fun z H5 => ∃ kvs k, y = kV k ∧ H5 D = some (.dK kvs) ∧ kvs.length < sizeLine ∧ Nx (upd H5 D (.dK (putK kvs k z))) else Nx H3) := by
  refine ⟨fun i m H => m = n - i ∧ i ≤ n ∧ Pv i H, ⟨n, by simp, Nat.zero_le _, h0⟩, ?_⟩
  rintro i m H ⟨rfl, hi, p⟩
  have q := hG i H hi p
  by_cases hlt : i < n
  · refine .inr ⟨w.goes i H hlt q, Pv (i + 1), fun H' p' => ⟨n - (i + 1), by omega, rfl, hlt, p'⟩, fun x H' y => hs i x H H' hlt p (w.yields i H x H' hlt q y)⟩
  · have e : i = n := by omega
    subst e
    exact .inl ⟨w.stops H q, hd H p⟩
end
theorem inK_pe_fld {X : Cx} {K : PySem.W.Frag} {e : Expr} {ta : TE} {f : Str} {pos : Pos} (q : X.K = K) (he : PE X e ta) (hb : attributeBase e f X.env (eval e X.env) = eval e X.env) : PE X (.Attribute e f pos) (tFld K ta f) := q ▸ pe_fld he hb
end Kx
namespace Kx
open PySem PySem.Spec PyProof.Rows L2 SX LamX
/-- a method called by two names, the other way round -/
def selfSwapG {α : Type} (us ws : List α) : List α := match us, ws with | [s], [v, u] => [s, u, v] | _, _ => []
theorem kb_selfSwap {K : PySem.W.Frag} {x qual : Str} {st : Stmt} {f : Addr} {fd : FuncData} {a b c : Str} (F : Fun K x qual st f fd)
    (h : ∀ (kV doc pm : Value) (an : Option Addr) (cdv ct : Value) (s u v : Value), bindArgs (PySem.W.fnOf x qual (defArgs st) (defBody st) (defScope st) .none kV doc pm an cdv ct) ⟨[s], [(c, v), (b, u)]⟩ = pure [(a, s), (b, u), (c, v)]) :
    KBinds K fd [a, b, c] [c, b] selfSwapG selfSwapG := by
  obtain ⟨oc, od, kV, doc, pm, an, cdv, ct, osl, rfl, lk, hcd⟩ := F.ex
  refine ⟨fun s us ws X l => ?_, fun {vs us zs ws} r1 r2 => ?_⟩
  · match us, ws, l with
    | [s], [v, u], _ => exact .of_eq (h kV doc pm an cdv ct s u v)
    | [], _, l => cases l
    | [_], [], l => cases l
    | [_], [_], l => cases l
    | [_], _ :: _ :: _ :: _, l => cases l
    | _ :: _ :: _, _, l => cases l
  · cases r1 with
    | nil => exact .nil
    | cons h1 r1 =>
      cases r1 with
      | cons _ _ => exact .nil
      | nil =>
        cases r2 with
        | nil => exact .nil
        | cons h2 r2 =>
          cases r2 with
          | nil => exact .nil
          | cons h3 r2 =>
            cases r2 with
            | nil => exact .cons h1 (.cons h3 (.cons h2 .nil))
            | cons _ _ => exact .nil
theorem kbn_selfSwap {K : PySem.W.Frag} {x qual : Str} {st : Stmt} {f : Addr} {fd : FuncData} {a b c : Str} (F : Fun K x qual st f fd)
    (h : ∀ (kV doc pm : Value) (an : Option Addr) (cdv ct : Value) (s u v : Value), bindArgs (PySem.W.fnOf x qual (defArgs st) (defBody st) (defScope st) .none kV doc pm an cdv ct) ⟨[s], [(c, v), (b, u)]⟩ = pure [(a, s), (b, u), (c, v)]) :
    KBn K fd [a, b, c] 1 [c, b] selfSwapG selfSwapG := by
  have kb := kb_selfSwap F h
  refine ⟨fun s us ws X l1 l2 => kb.to s us ws X ?_, kb.rel⟩
  match us, ws, l1, l2 with
  | [_], [_, _], _, _ => rfl
end Kx
namespace Kx
open PySem PySem.Spec PyProof.Rows L2 SX LamX
/-! ### texts joined by blanks -/
theorem itemsA_app : ∀ (x acc r : List Nat), 32 ∉ x → itemsA acc (x ++ r) = itemsA (acc ++ x) r
  | [], acc, r, _ => by rw [List.append_nil, List.nil_append]
  | c :: x, acc, r, h => by
    have hc : c ≠ 32 := fun e => h (by rw [e]; exact List.mem_cons_self)
    show (if c = 32 then acc :: itemsA [] (x ++ r) else itemsA (acc ++ [c]) (x ++ r)) = _
    rw [if_neg hc, itemsA_app x (acc ++ [c]) r (fun m => h (List.mem_cons_of_mem _ m)), List.append_assoc]
    rfl
theorem itemsA_one {x acc : List Nat} (h : 32 ∉ x) : itemsA acc x = [acc ++ x] := by
  have := itemsA_app x acc [] h
  rw [List.append_nil] at this
  rw [this]
  rfl
theorem items_join : ∀ (its : List (List Nat)), its ≠ [] → (∀ it ∈ its, 32 ∉ it) → itemsA [] (TL.joinL [32] its) = its
  | [], h, _ => absurd rfl h
  | [x], _, h => by
    show itemsA [] x = [x]
    rw [itemsA_one (h x (List.mem_singleton.mpr rfl))]
    rfl
  | x :: y :: r, _, h => by
    show itemsA [] (x ++ (32 :: TL.joinL [32] (y :: r))) = _
    rw [itemsA_app x [] _ (h x List.mem_cons_self)]
    show (if (32 : Nat) = 32 then ([] ++ x) :: itemsA [] (TL.joinL [32] (y :: r)) else _) = _
    rw [if_pos rfl, items_join (y :: r) (List.cons_ne_nil _ _) (fun it m => h it (List.mem_cons_of_mem _ m))]
    rfl
theorem joinL_all {p : Nat → Bool} (h32 : p 32 = true) : ∀ (its : List (List Nat)), (∀ it ∈ its, it.all p = true) → (TL.joinL [32] its).all p = true
  | [], _ => rfl
  | [x], h => by
    show x.all p = true
    exact h x (List.mem_singleton.mpr rfl)
  | x :: y :: r, h => by
    show (x ++ (32 :: TL.joinL [32] (y :: r))).all p = true
    rw [List.all_append, List.all_cons, h32, joinL_all h32 (y :: r) (fun it m => h it (List.mem_cons_of_mem _ m)), h x List.mem_cons_self]
    rfl
theorem joinL_len {k : Nat} : ∀ (its : List (List Nat)), (∀ it ∈ its, it.length ≤ k) → (TL.joinL [32] its).length ≤ its.length * (k + 1)
  | [], _ => Nat.zero_le _
  | [x], h => by
    show x.length ≤ _
    have := h x (List.mem_singleton.mpr rfl)
    simp only [List.length_cons, List.length_nil]
    omega
  | x :: y :: r, h => by
    have h1 := joinL_len (y :: r) (fun it m => h it (List.mem_cons_of_mem _ m))
    have h2 := h x List.mem_cons_self
    show (x ++ (32 :: TL.joinL [32] (y :: r))).length ≤ _
    rw [List.length_append, List.length_cons]
    rw [List.length_cons (a := x), Nat.succ_mul]
    omega
/-- the length of a joined text -/
theorem joinL_sum : ∀ (its : List (List Nat)), its ≠ [] → (TL.joinL [32] its).length + 1 = (its.map fun it => it.length + 1).sum
  | [], h => absurd rfl h
  | [x], _ => by simp [TL.joinL]
  | x :: y :: r, _ => by
    have h1 := joinL_sum (y :: r) (List.cons_ne_nil _ _)
    show (x ++ (32 :: TL.joinL [32] (y :: r))).length + 1 = (x.length + 1) + ((y :: r).map fun it => it.length + 1).sum
    rw [List.length_append, List.length_cons, ← h1]
    omega
/-! ### slices of texts -/
theorem slice_S (l : List Nat) (lo hi : Option Int) : Txt.slice (S l) lo hi = S ((l.drop (HT.sIx l.length 0 lo)).take (HT.sIx l.length l.length hi - HT.sIx l.length 0 lo)) := by
  rw [← C8.cutS_slice]
  unfold cutS
  rw [S_len]
theorem slice_part {l : List Nat} {lo hi : Option Int} : ∃ m : List Nat, Txt.slice (S l) lo hi = S m ∧ m.length ≤ l.length ∧ ∀ c ∈ m, c ∈ l :=
  ⟨_, slice_S l lo hi, by rw [List.length_take, List.length_drop]; omega, fun c h => List.mem_of_mem_drop (List.mem_of_mem_take h)⟩
theorem slice_fromS (l : List Nat) (k : Nat) : Txt.slice (S l) (some (k : Int)) none = S (l.drop k) := by
  rw [slice_S, HT.sIx_none, HT.sIx_nat]
  by_cases h : k ≤ l.length
  · rw [Nat.min_eq_left h, List.take_of_length_le (by rw [List.length_drop]; omega)]
  · rw [Nat.min_eq_right (by omega), List.drop_of_length_le (Nat.le_refl _), List.drop_of_length_le (by omega), List.take_nil]
theorem slice_toS (l : List Nat) (k : Nat) : Txt.slice (S l) none (some (k : Int)) = S (l.take k) := by
  rw [slice_S, HT.sIx_none, HT.sIx_nat, List.drop_zero, Nat.sub_zero]
  by_cases h : k ≤ l.length
  · rw [Nat.min_eq_left h]
  · rw [Nat.min_eq_right (by omega), List.take_of_length_le (Nat.le_refl _), List.take_of_length_le (by omega)]
theorem sum_S_le {k : Nat} : ∀ its : List (List Nat), (∀ it ∈ its, it.length ≤ k) → ((its.map S).map (·.length)).sum ≤ its.length * k
  | [], _ => Nat.zero_le _
  | x :: r, h => by
    have h1 := sum_S_le r (fun it m => h it (List.mem_cons_of_mem _ m))
    have h2 := h x List.mem_cons_self
    have h3 : (S x).length = x.length := S_len x
    show (S x).length + ((r.map S).map (·.length)).sum ≤ (r.length + 1) * k
    rw [h3, Nat.succ_mul]
    omega
theorem inK_call_list_of {X : Cx} {K : PySem.W.Frag} (e : X.K = K) : CallR X (.type "list") (fun xs H Q => ∃ p ys, xs = [.ref p] ∧ (SqL K H p ys ∨ SqT K H p ys) ∧ ∀ l, H l = none → Q (.ref l) (upd H l (.lst ys))) := e ▸ call_list_of
end Kx
/-! ### replace of one written text, once -/
namespace Kx
open PySem PySem.Spec PyProof.Rows L2 SX LamX PySem.Builtin PySem.Builtin.Str
theorem gives_str_replace_n (x y z : Str) (t u v w : Tok) (n : Nat) (hn : n < 1000)
    (hf : ((occurrences x y 0 x.length n).isEmpty || (y.length == 0 && z.length == 0)) = false →
      (u == 0 || v == 0) = false ∧ (u == v) = false ∧ (y == z) = false ∧ tooLong (x.length + (occurrences x y 0 x.length n).length * z.length) = false) :
    Gives («str.replace» ⟨[.str x t, .str y u, .str z v, .int n w], []⟩) (if ((occurrences x y 0 x.length n).isEmpty || (y.length == 0 && z.length == 0)) = true then .val (.str x t) else .str (glued z (partsBetween x (occurrences x y 0 x.length n) y.length))) := by
  have key : «str.replace» ⟨[.str x t, .str y u, .str z v, .int n w], []⟩ = (do
      let limit ← countLimit "str.replace" (some (.int n w)) (x.length + 1)
      if ((occurrences x y 0 x.length limit).isEmpty || (y.length == 0 && z.length == 0)) = true then (do rule "str.replace.nothing"; ret (.str x t)) else
          (do let same ← isSame (.str y u) (.str z v)
              if same = true then (do rule "str.replace.old-is-new"; ret (.str x t)) else
              if tooLong (x.length + (occurrences x y 0 x.length limit).length * z.length) = true then unsupported "str.replace:memory" else
              retStr (glued z (partsBetween x (occurrences x y 0 x.length limit) y.length)))) := rfl
  have cl : countLimit "str.replace" (some (.int n w)) (x.length + 1) = pure n := by
    rw [countLimit_int _ _ _ _ (by rw [decide_eq_false (show ¬ ((n : Int) < -(2 ^ 63 : Int)) by omega), decide_eq_false (show ¬ ((n : Int) ≥ 2 ^ 63) by omega)]; rfl), if_neg (by omega)]
    rfl
  rw [key, cl]
  show Gives (if ((occurrences x y 0 x.length n).isEmpty || (y.length == 0 && z.length == 0)) = true then (do rule "str.replace.nothing"; ret (.str x t)) else
          (do let same ← isSame (.str y u) (.str z v)
              if same = true then (do rule "str.replace.old-is-new"; ret (.str x t)) else
              if tooLong (x.length + (occurrences x y 0 x.length n).length * z.length) = true then unsupported "str.replace:memory" else
              retStr (glued z (partsBetween x (occurrences x y 0 x.length n) y.length)))) _
  cases hc : ((occurrences x y 0 x.length n).isEmpty || (y.length == 0 && z.length == 0))
  · obtain ⟨h0, huv, hyz, hl⟩ := hf hc
    rw [isSame_str_other y z u v h0 huv hyz, hl]
    exact .of_eq rfl
  · exact .rule (.of_eq rfl)
/-- what is left of x when the first y is gone, of one sign -/
def repOne (x y : Str) : Str := if (occurrences x y 0 x.length 1).isEmpty = true then x else glued ⟨#[]⟩ (partsBetween x (occurrences x y 0 x.length 1) y.length)
theorem repOne_eq (x y : Str) : repOne x y = x ∨ ∃ i, repOne x y = ⟨x.cps.extract 0 i ++ #[] ++ x.cps.extract (i + y.length) x.length⟩ := by
  unfold repOne
  cases hc : (occurrences x y 0 x.length 1) with
  | nil => exact .inl rfl
  | cons i r =>
    have h1 := StrLaws.occ_length_le x y 0 x.length 1
    rw [hc] at h1
    cases r with
    | nil => exact .inr ⟨i, rfl⟩
    | cons j t => simp at h1
theorem repOne_S (l : List Nat) (y : Str) : ∃ m : List Nat, repOne (S l) y = S m ∧ m.length ≤ l.length + l.length ∧ ∀ c ∈ m, c ∈ l := by
  rcases repOne_eq (S l) y with h | ⟨i, h⟩
  · exact ⟨l, h, by omega, fun c m => m⟩
  · refine ⟨((S l).cps.extract 0 i ++ #[] ++ (S l).cps.extract (i + y.length) (S l).length).toList, ?_, ?_, fun c m => ?_⟩
    · rw [h]
    · simp [S]
      omega
    · simp [S] at m
      rcases m with m | m
      · exact List.mem_of_mem_take m
      · exact List.mem_of_mem_drop (List.mem_of_mem_take m)
theorem SC_replace1 {prog : Program} {w : World} {A : Around} {E : Value → Shared → Prop} {s : Shared} {x y : Str} {t u v w1 : Tok} {Q : Value → Shared → Prop} (hu : u ≠ 0) (hv : v ≠ 0) (huv : u ≠ v) (hyz : (y == (⟨#[]⟩ : Str)) = false) (hy : (y.length == 0) = false) (hb : x.length ≤ 1000000)
    (hq : ∀ t' k, Q (.str (repOne x y) t') { s with toks := k }) : wpAny (model prog w) A (call (.builtin "str.replace") [.str x t, .str y u, .str ⟨#[]⟩ v, .int 1 w1]) Q E s := by
  have hl : tooLong (x.length + (occurrences x y 0 x.length 1).length * Str.length ⟨#[]⟩) = false := by
    show decide (x.length + (occurrences x y 0 x.length 1).length * 0 > sizeLine) = false
    rw [Nat.mul_zero]
    exact decide_eq_false (by show ¬ (sizeLine < x.length + 0); have : (1000000 : Nat) ≤ sizeLine := by decide
                              omega)
  refine call_gives F.slot_str_replace (typeIs_str _ _ _) F.entry_str_replace (F.args_str_replace_4 _ _ _ _)
    (gives_str_replace_n x y ⟨#[]⟩ t u v w1 1 (by decide) fun _ => ⟨by simp [hu, hv], by simp [huv], hyz, hl⟩) ?_
  have hq' := hq
  unfold repOne at hq'
  cases hc : (occurrences x y 0 x.length 1).isEmpty
  · rw [hc] at hq'
    rw [hy]
    simp only [Bool.false_eq_true, if_false, Bool.false_and, Bool.or_false] at hq' ⊢
    have hr : (glued ⟨#[]⟩ (partsBetween x (occurrences x y 0 x.length 1) y.length)).length ≤ x.length + x.length := by
      have h1 := repOne_eq x y
      unfold repOne at h1
      rw [hc] at h1
      simp only [Bool.false_eq_true, if_false] at h1
      rcases h1 with h1 | ⟨i, h1⟩
      · rw [h1]
        omega
      · rw [h1]
        show (x.cps.extract 0 i ++ #[] ++ x.cps.extract (i + y.length) x.length).size ≤ _
        have hx : x.length = x.cps.size := rfl
        simp [hx]
        omega
    exact ⟨Nat.le_trans hr (by have : (2000000 : Nat) ≤ sizeLine := by decide
                               omega), hq' _ _⟩
  · rw [hc] at hq'
    simp only [if_true, Bool.true_or] at hq' ⊢
    exact hq' t s.toks
end Kx
namespace Kx
open PySem PySem.Spec PyProof.Rows L2 CwR
def tRep1 (to : TE) (y : Str) : TE := fun σ H Q => to σ H fun v H1 => ∃ x, v = .str x ∧ x.length ≤ 1000000 ∧ Q (.str (repOne x y)) H1
section
variable {X : Cx} {o : Expr} {to : TE} {y z : Str} {j k l : Nat} {c0 c1 c2 apos pos : Pos}
theorem pet_repl1 (ho : PE X o to) (hz : z = ⟨#[]⟩) (hyz : (y == (⟨#[]⟩ : Str)) = false) (hy : (y.length == 0) = false)
    (hst : starEach [.Constant (.str y) j c0, .Constant (.str z) k c1, .Constant (.int 1) l c2] X.env = [(false, eval (.Constant (.str y) j c0) X.env), (false, eval (.Constant (.str z) k c1) X.env), (false, eval (.Constant (.int 1) l c2) X.env)])
    (hbase : attributeBase o "replace" X.env (eval o X.env) = eval o X.env) (hline : (apos.endLine == pos.line) = true) :
    PET X (.Call (.Attribute o "replace" apos) [.Constant (.str y) j c0, .Constant (.str z) k c1, .Constant (.int 1) l c2] [] pos) (tRep1 to y) := by
  intro pins s σ H Q h0 I h
  refine PySem.wpAny_Call_method_lateS hbase (by rw [hst]; rfl) hline ?_
  rw [hst]
  refine (wpAny_mono (PySem.wpAny_toks (ho.run pins s σ H _ I h)) (fun v s1 q => ?_) fun _ _ z => z.2)
  obtain ⟨hk, v', H1, I1, r1, x, e1, hb, q⟩ := q
  subst e1
  obtain ⟨tx, e2⟩ := r1
  subst e2
  refine ⟨"str", _, PySem.F.plainAttrs_str, PySem.F.slot_str_replace, PySem.F.type_str_replace, typeIs_str _ _ _, (fun _ e => nomatch e), Calls.callWith_builtin rfl (Calls.evalArgs_plain (Calls.spliced_cons ?_))⟩
  refine Calls.Constant_str (k := j) (pos := c0) (Calls.spliced_cons (Calls.Constant_str (k := k) (pos := c1) (Calls.spliced_cons (PySem.wpAny_Constant_int (i := 1) (k := l) (pos := c2) (Calls.spliced_nil ?_)))))
  subst hz
  exact SC_replace1 (by show s1.toks ≠ 0; omega) (by show s1.toks + 1 ≠ 0; omega) (by show s1.toks ≠ s1.toks + 1; omega) hyz hy hb fun t' k => ⟨.str (repOne x y), H1, I1.tok k, ⟨t', rfl⟩, q⟩
end
theorem inK_ix_seq {X : Cx} {K : PySem.W.Frag} (e : X.K = K) : IxR X (rIx K) := e ▸ ix_seq
end Kx
namespace Kx
open PySem PySem.Spec PyProof.Rows L2 SX LamX
section
variable {X : Cx}
/-- repr of a text -/
def rReprS : List V → Hp → VK → Prop := fun xs H Q => ∃ (x : Str), xs = [.str x] ∧ (PyData.str x).shown.length ≤ sizeLine ∧ Q (.str (PyData.str x).shown) H
theorem call_reprS : CallR X (.builtin "repr") rReprS := by
  intro pins s σ H xs us Q I r h
  obtain ⟨x, rfl, hl, q⟩ := h
  obtain ⟨u, rfl, t, rfl⟩ := vals1 r
  exact PySem.P.repr_of_str (x := x) ⟨.str (PyData.str x).shown, H, I.tok _, ⟨_, rfl⟩, q⟩ hl
end
/-- repr(x) != repr(y), of one and the same text -/
theorem nerepr_s {σ : L2.St} {H : Hp} {ta tb : TE} (l : List Nat) (hl : cdC l) (hm : l.length ≤ 1048576) {Q : Bool → Hp → Prop}
    (ha : ∀ Q : VK, (∀ H', Same H H' → Q (.str (S l)) H') → ta σ H Q)
    (hb : ∀ H0, Same H H0 → ∀ Q : VK, (∀ H', Same H0 H' → Q (.str (S l)) H') → tb σ H0 Q)
    (h : ∀ H', Same H H' → Q false H') : tTest (tOp rNe (tCB rReprS (tCons ta tNil)) (tCB rReprS (tCons tb tNil))) σ H Q := by
  have sz := (sh_str (x := S l) rfl hl).len hm
  refine go_test (go_op (go_cb (go_cons (ha _ fun H1 e1 => go_nil ⟨S l, rfl, sz, go_cb (go_cons (hb H1 e1 _ fun H2 e2 => go_nil ⟨S l, rfl, sz, rfl, false, ?_, h H2 (e1.trans e2)⟩))⟩))))
  rw [ne_self]
def rev3G {α : Type} (us ws : List α) : List α := match us, ws with | [], [c, b, a] => [a, b, c] | _, _ => []
theorem kb_rev3 {K : PySem.W.Frag} {x qual : Str} {st : Stmt} {f : Addr} {fd : FuncData} {a b c : Str} (F : Fun K x qual st f fd)
    (h : ∀ (kV doc pm : Value) (an : Option Addr) (cdv ct : Value) (u v w : Value), bindArgs (PySem.W.fnOf x qual (defArgs st) (defBody st) (defScope st) .none kV doc pm an cdv ct) ⟨[], [(c, w), (b, v), (a, u)]⟩ = pure [(a, u), (b, v), (c, w)]) :
    KBinds K fd [a, b, c] [c, b, a] rev3G rev3G := by
  obtain ⟨oc, od, kV, doc, pm, an, cdv, ct, osl, rfl, lk, hcd⟩ := F.ex
  refine ⟨fun s us ws X l => ?_, fun {vs us zs ws} r1 r2 => ?_⟩
  · match us, ws, l with
    | [], [w, v, u], _ => exact .of_eq (h kV doc pm an cdv ct u v w)
    | [], [], l => cases l
    | [], [_], l => cases l
    | [], [_, _], l => cases l
    | [], _ :: _ :: _ :: _ :: _, l => cases l
    | _ :: _, _, l => cases l
  · cases r1 with
    | cons _ _ => exact .nil
    | nil =>
      cases r2 with
      | nil => exact .nil
      | cons h1 r2 =>
        cases r2 with
        | nil => exact .nil
        | cons h2 r2 =>
          cases r2 with
          | nil => exact .nil
          | cons h3 r2 =>
            cases r2 with
            | nil => exact .cons h3 (.cons h2 (.cons h1 .nil))
            | cons _ _ => exact .nil
end Kx
namespace Kx
open PySem PySem.Spec PyProof.Rows L2 SX LamX
/-! zip of a list with a tuple -/
def ItzM (K : PySem.W.Frag) (a b : Addr) : It where
  go i H := ∃ (xs ys : List V) (x y : V), SqL K H a xs ∧ SqT K H b ys ∧ xs[i]? = some x ∧ ys[i]? = some y
  yld i H v H' := ∃ T x y, v = .ref T ∧ H T = none ∧ H' = upd H T (.tup [x, y]) ∧ (∀ xs, SqL K H a xs → xs[i]? = some x) ∧ ∀ ys, SqT K H b ys → ys[i]? = some y
  stop i H := ∃ xs ys : List V, SqL K H a xs ∧ SqT K H b ys ∧ i = min xs.length ys.length
structure Aps (z TI TO i1 i2 a b : Addr) : Prop where
  s : ZipSep2 z TI TO i1 i2 [i1, a] [i2, b]
  a1 : a ≠ i1
  b2 : b ≠ i2
theorem aps_new {n a b : Nat} (ha : a < n) (hb : b < n) : Aps (n + 4) (n + 2) (n + 3) n (n + 1) a b := by
  have ne : ∀ {x y : Nat}, (x < y ∨ y < x) → (show Addr from x) ≠ y := fun {x y} h e => by
    have e : x = y := e
    omega
  have no : ∀ {x p q : Nat}, (x < p ∨ p < x) → (x < q ∨ q < x) → (show Addr from x) ∉ ([p, q] : List Addr) := fun h1 h2 m => by
    simp only [List.mem_cons, List.not_mem_nil, or_false] at m
    rcases m with e | e
    · exact ne h1 e
    · exact ne h2 e
  exact ⟨⟨ne (by omega), ne (by omega), ne (by omega), ne (by omega), List.mem_cons_self, no (by omega) (by omega), no (by omega) (by omega), ne (by omega), List.mem_cons_self, no (by omega) (by omega), no (by omega) (by omega), no (by omega) (by omega), no (by omega) (by omega)⟩, ne (by omega), ne (by omega)⟩
theorem turn_zipM {P : Program} {w : World} {K : PySem.W.Frag} {elts : List Expr} {kk : Nat} {tpos : Pos} {a b z TI TO i1 i2 : Addr} (D : Aps z TI TO i1 i2 a b) :
    Turn P w K (.Tuple elts kk tpos) (ItzM K a b) [z, TI, TO, i1, i2] z (fun i h => IsZip h z TI TO .none ∧ IsTupOf2 h TI (.ref i1) (.ref i2) ∧ (∃ x y, IsTupOf2 h TO x y) ∧ h.IsListIter i1 a i ∧ h.IsTupleIter i2 b i) where
  mem := List.mem_cons_self
  obj := fun i h ⟨hz, hI, ⟨x, y, hO⟩, ⟨o1, e1, _, d1⟩, ⟨o2, e2, _, d2⟩⟩ c hc => by
    simp only [List.mem_cons, List.not_mem_nil, or_false] at hc
    rcases hc with rfl | rfl | rfl | rfl | rfl
    · exact ⟨_, hz, fun v q => by cases q⟩
    · exact ⟨_, hI, fun v q => by cases q⟩
    · exact ⟨_, hO, fun v q => by cases q⟩
    · exact ⟨o1, e1, fun v q => by rw [d1] at q; cases q⟩
    · exact ⟨o2, e2, fun v q => by rw [d2] at q; cases q⟩
  keep := fun i h h' ⟨hz, hI, ⟨x, y, hO⟩, h1, h2⟩ k =>
    ⟨k z (by simp) _ hz, k TI (by simp) _ hI, ⟨x, y, k TO (by simp) _ hO⟩, h1.at fun o => k i1 (by simp) o, h2.at fun o => k i2 (by simp) o⟩
  item := by
    intro X hP hw hK hc i pins s σ H E I hf st hg
    subst hP hw hK
    obtain ⟨hz, hI, ⟨x0, y0, hO⟩, h1, h2⟩ := st
    obtain ⟨xs, ys, x, y, hqx, hqy, hx, hy⟩ := hg
    obtain ⟨us, rv, pl, _⟩ := I.list hqx
    obtain ⟨vs, rw_, pt, _⟩ := I.tuple hqy
    obtain ⟨u, hu, ru⟩ := rv.get hx
    obtain ⟨v, hv, rv'⟩ := rw_.get hy
    have lz : z < s.heap.objs.size := Heap.lt_size hz
    have hd : X.A.in1.handled = none := I.ok.hd hc
    have iu := (List.getElem?_eq_some_iff.mp hu).1
    have iv := (List.getElem?_eq_some_iff.mp hv).1
    refine wpAny_pyNext_zipD2_item D.s (Draws.list hd i1 a D.a1 us.toArray) (Draws.tuple hd i2 b D.b2 vs.toArray) hz hI hO ⟨h1, pl.isList⟩ ⟨h2, pt⟩ (by simpa using iu) (by simpa using iv) fun x1 x2 g tk e1 e2 g1 g2 g3 g4 g5 g6 gk => ?_
    have hu' : us.toArray[i]? = some u := by simpa using hu
    have hv' : vs.toArray[i]? = some v := by simpa using hv
    rw [hu'] at e1
    rw [hv'] at e2
    cases e1
    cases e2
    refine ⟨_, rfl, wpAny_letOwnedTupleGo_zip (s := { s with heap := g, toks := tk }) g1 fun k k1 sb => ?_⟩
    have kT : k.get? s.heap.objs.size = some { cls := .type "tuple", data := .seq #[u, v] } := (sb.2 _ (Nat.ne_of_gt lz)).trans g5
    have lt : ∀ c ∈ [z, TI, TO, i1, i2], c < s.heap.objs.size := fun c hc => by
      simp only [List.mem_cons, List.not_mem_nil, or_false] at hc
      rcases hc with rfl | rfl | rfl | rfl | rfl
      · exact lz
      · exact Heap.lt_size hI
      · exact Heap.lt_size hO
      · obtain ⟨_, e, _⟩ := h1
        exact Heap.lt_size e
      · obtain ⟨_, e, _⟩ := h2
        exact Heap.lt_size e
    have J : Inv X pins σ (upd H s.heap.objs.size (.tup [x, y])) { s with heap := k, toks := tk } :=
      I.turnedNew (t' := tk) (ch := [z, TI, TO, i1, i2]) (fun c o hb q => by
        simp only [List.mem_cons, List.not_mem_nil, or_false, not_or] at hb
        exact (sb.2 c hb.1).trans (gk c o hb.1 hb.2.2.1 hb.2.2.2.1 hb.2.2.2.2 q)) hf (Nat.le_refl _) ⟨by show 2 ≤ sizeLine; decide, [u, v], .cons ru (.cons rv' .nil), ⟨_, kT, rfl, _, rfl⟩⟩
    refine ⟨.ref s.heap.objs.size, _, J, rfl, ⟨_, x, y, rfl, I.hok.fresh (Nat.le_refl _), rfl, fun l hl => by rw [I.list_inj hl hqx]; exact hx, fun l hl => by rw [I.tuple_inj hl hqy]; exact hy⟩,
      ⟨k1, (sb.2 _ D.s.TIz).trans (gk _ _ D.s.TIz D.s.TITO D.s.TIi1 D.s.TIi2 hI), ⟨u, v, (sb.2 _ D.s.TOz).trans g2⟩, g3.1.at fun o q => (sb.2 _ D.s.zi1.symm).trans q, g4.1.at fun o q => (sb.2 _ D.s.zi2.symm).trans q⟩, fun c hc => ?_⟩
    rw [upd_ne (Nat.ne_of_lt (lt c hc))]
    exact (hf c hc).1
  done := by
    intro X hP hw hK hc i pins s σ H E I hf st hg
    subst hP hw hK
    obtain ⟨hz, hI, ⟨x0, y0, hO⟩, h1, h2⟩ := st
    obtain ⟨xs, ys, hqx, hqy, hend⟩ := hg
    obtain ⟨us, rv, pl, _⟩ := I.list hqx
    obtain ⟨vs, rw_, pt, _⟩ := I.tuple hqy
    have l1 := rv.length
    have l2 := rw_.length
    have hd : X.A.in1.handled = none := I.ok.hd hc
    exact wpAny_pyNext_zipD2_end D.s (Draws.list hd i1 a D.a1 us.toArray) (Draws.tuple hd i2 b D.b2 vs.toArray) hz hI hO ⟨h1, pl.isList⟩ ⟨h2, pt⟩ (by simp; omega) (by simp; omega) (by simp; omega) fun g tk gk =>
      ⟨rfl, I.turnedL (t' := tk) (ch := [z, TI, TO, i1, i2]) (fun c o hb q => by
        simp only [List.mem_cons, List.not_mem_nil, or_false, not_or] at hb
        exact gk c o hb.1 hb.2.2.1 hb.2.2.2.1 hb.2.2.2.2 q) hf⟩
  self := fun A i s Q E st h => wpAny_pyIter_zip st.1 h
/-- zip(LIST, LIST OR TUPLE) -/
def iZipM (K : PySem.W.Frag) (ta : TA) : TI := fun σ H R => ta σ H fun vs H1 => ∃ a b xs ys, vs = [.ref a, .ref b] ∧ SqL K H1 a xs ∧ ((SqL K H1 b ys ∧ R (Itz K a b) H1) ∨ (SqT K H1 b ys ∧ R (ItzM K a b) H1))
theorem pi_zipM {X : Cx} {e e2 : Expr} {ta : TA} {p pos tpos : Pos} {elts : List Expr} {kk : Nat} (hg : Gl X "zip") (hm : X.mg "zip" = none) (ha : PA X [e, e2] ta)
    (st : starEach [e, e2] X.env = (false, eval e X.env) :: starEach [e2] X.env := by rfl) (pl : (backTo pos (starEach [e2] X.env)).any (·.1) = false := by rfl) :
    PI X (.Tuple elts kk tpos) (.Call (.Name "zip" p) [e, e2] [] pos) (iZipM X.K ta) := by
  constructor
  intro pins s σ H R I h
  refine Call_ (ld_blt I hg hm PyProof.Rows.boot_zip (PyProof.Rows.callWith_type1 (thn (ha.run pos pins s σ H _ I h) fun us s1 hq => ?_) st pl))
  obtain ⟨vs, H1, I1, r1, a, b, xs, ys, rfl, hx, q⟩ := hq
  obtain ⟨ua, ub, rfl, ra, rb⟩ : ∃ x y, us = [x, y] ∧ RelV (.ref a) x ∧ RelV (.ref b) y := by
    match us, r1 with
    | [x, y], .cons h1 (.cons h2 .nil) => exact ⟨x, y, rfl, h1, h2⟩
  cases ra
  cases rb
  have up : ∀ c, s1.heap.objs.size ≤ c → FpOk X pins H1 c := fun c l => I1.fpOk l (I1.hok.fresh l)
  have ups : ∀ c ∈ [s1.heap.objs.size + 4, s1.heap.objs.size + 2, s1.heap.objs.size + 3, s1.heap.objs.size, s1.heap.objs.size + 1], FpOk X pins H1 c := fun c m => up c (by
    simp only [List.mem_cons, List.not_mem_nil, or_false] at m
    rcases m with e | e | e | e | e <;> rw [e] <;> first | exact Nat.le_refl _ | exact Nat.le_add_right _ _)
  obtain ⟨us, rv, pa, _⟩ := I1.list hx
  rcases q with ⟨hy, q⟩ | ⟨hy, q⟩
  · obtain ⟨vs, rw_, pb, _⟩ := I1.list hy
    refine call_zip_2 pa.isList pb.isList fun g g1 g2 g3 g4 g5 _ gk => wpAny_pyIter_zip g1 ?_
    exact ⟨_, [s1.heap.objs.size + 4, s1.heap.objs.size + 2, s1.heap.objs.size + 3, s1.heap.objs.size, s1.heap.objs.size + 1], _, _, H1, rfl, I1.kept (t' := s1.toks) gk, turn_zip (PySem.W.ktu_apart _ a b pa.lt pb.lt), ⟨g1, g2, ⟨_, _, g3⟩, g4, g5⟩, ups, q⟩
  · obtain ⟨vs, rw_, pb, _⟩ := I1.tuple hy
    have lb : b < s1.heap.objs.size := by
      obtain ⟨_, e, _⟩ := id pb
      exact Heap.lt_size e
    refine zip_begins2 (begins_list a us.toArray) (begins_tuple b vs.toArray) pa.isList pb fun g g1 g2 g3 g4 g5 _ gk => wpAny_pyIter_zip g1 ?_
    exact ⟨_, [s1.heap.objs.size + 4, s1.heap.objs.size + 2, s1.heap.objs.size + 3, s1.heap.objs.size, s1.heap.objs.size + 1], _, _, H1, rfl, I1.kept (t' := s1.toks) gk, turn_zipM (aps_new pa.lt lb), ⟨g1, g2, ⟨_, _, g3⟩, ⟨_, g4, rfl, rfl⟩, ⟨_, g5, rfl, rfl⟩⟩, ups, q⟩
theorem walk_zipM {K : PySem.W.Frag} {a b : Addr} {xs ys : List V} {n : Nat} (hn : n = min xs.length ys.length) : Walk (ItzM K a b) n (fun H => SqL K H a xs ∧ SqT K H b ys) (YPair (fun i => xs[i]?) (fun i => ys[i]?)) where
  goes i H hi q := ⟨xs, ys, xs[i]'(by omega), ys[i]'(by omega), q.1, q.2, List.getElem?_eq_getElem (by omega), List.getElem?_eq_getElem (by omega)⟩
  stops H q := ⟨xs, ys, q.1, q.2, hn⟩
  yields i H v H' _ q y := by
    obtain ⟨T, x, z, h1, h2, h3, h4, h5⟩ := y
    exact ⟨T, x, z, h1, h2, h3, h4 xs q.1, h5 ys q.2⟩
section
variable {K : PySem.W.Frag} {a b : Addr} {xs ys : List V} {g : TG} {tt : TT} {te : TE} {vs : List Nat} {σ : L2.St} {H : Hp} {k l : Nat} {Q : VK}
/-- [e for x, y in zip(LIST NAME, SEQUENCE NAME)]: by the turn and the heap -/
theorem lc_zipM (hi : σ[k]? = some (some (.ref a))) (hj : σ[l]? = some (some (.ref b))) (hq : SqL K H a xs) (hp : SqQ K H b ys)
    (Pv : Addr → Nat → Hp → Prop) (h0 : ∀ D, H D = none → Pv D 0 (upd H D (.lst []))) (hG : ∀ D i H', Pv D i H' → Same H H')
    (hs : ∀ D i x y t H', H D = none → xs[i]? = some x → ys[i]? = some y → Pv D i H' → H' t = none → g (.ref t) (wipe σ vs) (upd H' t (.tup [x, y])) fun σ2 H2 => wipe σ2 vs = wipe σ vs ∧ tt σ2 H2 fun b H3 => if b = true then te σ2 H3 fun y H4 => ∃ acc, H4 D = some (.lst acc) ∧ acc.length < sizeLine ∧ Pv D (i + 1) (upd H4 D (.lst (acc ++ [y]))) else Pv D (i + 1) H3)
    (hd : ∀ D H', H D = none → Pv D (min xs.length ys.length) H' → Q (.ref D) H') : tLc (iZipM K (tCons (tVar k) (tCons (tVar l) tNil))) g tt te vs σ H Q := by
  rcases hp with hp | hp
  · exact ⟨_, hi, _, hj, a, b, xs, ys, rfl, hq, .inl ⟨hp, fun D nD => lc_it (walk_zip rfl) (Pv D) (h0 D nD) (fun i H' _ p => ⟨(hG D i H' p).seq hq, (hG D i H' p).seq hp⟩) (fun i x Hc Hx hi p y => by
      obtain ⟨t, x', y', rfl, nt, rfl, e1, e2⟩ := y
      exact hs D i x' y' t _ nD e1 e2 p nt) (fun H' p => hd D H' nD p)⟩⟩
  · exact ⟨_, hi, _, hj, a, b, xs, ys, rfl, hq, .inr ⟨hp, fun D nD => lc_it (walk_zipM rfl) (Pv D) (h0 D nD) (fun i H' _ p => ⟨(hG D i H' p).seq hq, Same.t (hG D i H' p) hp⟩) (fun i x Hc Hx hi p y => by
      obtain ⟨t, x', y', rfl, nt, rfl, e1, e2⟩ := y
      exact hs D i x' y' t _ nD e1 e2 p nt) (fun H' p => hd D H' nD p)⟩⟩
end
end Kx
namespace Kx
open PySem PySem.Spec PyProof.Rows L2 SX LamX
/-! ### a call of a name that holds one of some functions -/
/-- f, called with what sp wishes, gives what is promised -/
def RunF (X : Cx) (f : Addr) (sp : Sp) (E : XK) : Prop := PySem.W.keepIn X.K (.ref f) = true ∧ ∀ (pins : List (Addr × Obj)) (σ : L2.St) (H : Hp) (s : Shared) (Q : VK) (us : List Value) (vs : List V),
  Inv X pins σ H s → Vals vs us → sp vs H Q E → wpAny (model X.prog X.w) X.A (call (.ref f) us) (EP X pins σ Q) X.xe s
section
variable {X : Cx} {CX : CXT} {k i : Nat} {f : Addr} {fd : FuncData} {ps : List Str} {sp sp2 : Sp} {E : XK} {x : Str} {p pos : Pos} {e : Expr} {es : List Expr} {t : TA}
theorem RunF.of (F : FnOk X.prog X.w X.K X.mg X.base CX k f fd ps sp) (hr : Room k X.A) (hk : PySem.W.keepIn X.K (.ref f) = true) (hb : Binds X.K fd ps []) (hx : Passes CX X E) : RunF X f sp E :=
  ⟨hk, fun pins σ H s Q us vs I r h => run_fn F hr hb .nil hx I r (by rw [List.append_nil]; exact h)⟩
theorem RunF.mono (R : RunF X f sp E) (h : ∀ vs H Q, sp2 vs H Q E → sp vs H Q E) : RunF X f sp2 E := ⟨R.1, fun pins σ H s Q us vs I r q => R.2 pins σ H s Q us vs I r (h vs H Q q)⟩
theorem pe_callV {fs : List Addr} (hN : X.N[i]? = some x) (hv : Vis X.env.scope x) (hF : ∀ f ∈ fs, RunF X f sp E) (ha : PA X (e :: es) t) (hd : (x == ("__debug__" : Str)) = false := by decide) (hcd : (x == ("__classdict__" : Str)) = false := by decide)
    (he : starEach (e :: es) X.env = (false, eval e X.env) :: starEach es X.env := by rfl) (hpl : (backTo pos (starEach es X.env)).any (·.1) = false := by rfl) :
    PE X (.Call (.Name x p) (e :: es) [] pos) (fun σ H Q => ∃ f, f ∈ fs ∧ σ[i]? = some (some (.ref f)) ∧ t σ H fun vs H1 => sp vs H1 Q E) := by
  refine ⟨fun pins s σ H Q I h => ?_⟩
  obtain ⟨f, hf, hs, hq⟩ := h
  refine wpAny_Call_Name_kw (thn ((pe_var (pos := p) (i := i) hN hv hd hcd).run pins s σ H (fun v H1 => v = .ref f ∧ H1 = H) I ⟨.ref f, hs, rfl, rfl⟩) fun u s1 hh => ?_)
  obtain ⟨v, H1, I1, r1, rfl, rfl⟩ := hh
  obtain rfl : u = Value.ref f := r1
  refine PySem.W.callWith_K (h₀ := X.base) I1.ok.mod.kin (hF f hf).1 (thn (ha.run pos pins s1 σ H1 _ I1 hq) fun us s2 ⟨vs, H2, I2, r, q⟩ => ⟨I2.kIn, ?_⟩) he hpl
  exact (hF f hf).2 pins σ H2 s2 Q us vs I2 r q
end
end Kx
namespace Kx
open PySem PySem.Spec PyProof.Rows L2 SX LamX
/-! ### x[::2], a tuple -/
def evens {α : Type} : List α → List α
  | [] => []
  | [a] => [a]
  | a :: _ :: r => a :: evens r
theorem evens_len {α : Type} : ∀ xs : List α, (evens xs).length = (xs.length + 1) / 2
  | [] => by simp [evens]
  | [a] => by simp [evens]
  | a :: b :: r => by
    show (evens r).length + 1 = (r.length + 1 + 1 + 1) / 2
    rw [evens_len r]
    omega
theorem evens_pick {α : Type} : ∀ xs : List α, (List.range ((xs.length + 1) / 2)).filterMap (fun m => xs[2 * m]?) = evens xs
  | [] => by simp [evens]
  | [a] => by simp [evens, List.range_succ]
  | a :: b :: r => by
    have ih := evens_pick r
    have e : ((a :: b :: r).length + 1) / 2 = (r.length + 1) / 2 + 1 := by
      simp only [List.length_cons]
      omega
    rw [e, List.range_succ_eq_map, List.filterMap_cons, List.filterMap_map]
    show a :: List.filterMap ((fun m => (a :: b :: r)[2 * m]?) ∘ Nat.succ) (List.range ((r.length + 1) / 2)) = a :: evens r
    rw [← ih]
    congr 1
theorem adjust_two (n : Nat) : Builtin.Slice.sliceAdjust none none 2 (n : Int) = (0, (n : Int)) := rfl
theorem places_two (n : Nat) : Builtin.Slice.slicePlaces (0 : Int) (n : Int) 2 = (n + 1) / 2 := by
  unfold Builtin.Slice.slicePlaces
  have h1 : (2 : Int) > 0 := by omega
  simp only [h1, if_true]
  split <;> omega
section
variable {prog : Program} {w : World} {A : Around} {E : Value → Shared → Prop} {s : Shared}
theorem sliceApplied_two {sl : Addr} {vl vu vs : Value} {n : Nat} {Q : Int × Int × Nat → Shared → Prop} (hs : s.heap.IsSliceOf sl vl vu vs) (pl : IsPart vl none) (pu : IsPart vu none) (ps : IsPart vs (some 2))
    (h : Q (0, 2, (n + 1) / 2) s) : wpAny (model prog w) A (Builtin.Slice.sliceApplied (.ref sl) (pure (n : Int))) Q E s := by
  obtain ⟨os, hos, hcs, hds⟩ := id hs
  unfold Builtin.Slice.sliceApplied Builtin.Slice.sliceFields
  refine wpAny_bind (wpAny_bind (wpAny_field hos hds (x := vl) rfl (wpAny_bind (wpAny_field hos hds (x := vu) rfl (wpAny_bind (wpAny_field hos hds (x := vs) rfl (wpAny_pure ?_)))))))
  refine wpAny_bind (HT.slicePart_ ps ?_)
  show wpAny _ _ (if ((2 : Int) == 0) = true then _ else _) _ _ s
  rw [if_neg (by decide)]
  refine wpAny_bind (HT.slicePart_ pl (wpAny_bind (HT.slicePart_ pu (wpAny_bind (wpAny_pure ?_)))))
  show wpAny _ _ (match Builtin.Slice.sliceAdjust none none 2 (n : Int) with | (lo, hi) => pure (lo, (2 : Int), Builtin.Slice.slicePlaces lo hi 2)) _ _ s
  rw [adjust_two n]
  show wpAny _ _ (pure ((0 : Int), (2 : Int), Builtin.Slice.slicePlaces (0 : Int) (n : Int) 2)) _ _ s
  rw [places_two]
  exact wpAny_pure h
theorem pick_two (xs : Array Value) : ((List.range ((xs.size + 1) / 2)).filterMap fun (m : Nat) => xs[((0 : Int) + (m : Int) * 2).toNat]?).toArray = (evens xs.toList).toArray := by
  have e : (fun (m : Nat) => xs[((0 : Int) + (m : Int) * 2).toNat]?) = fun m => xs.toList[2 * m]? := by
    funext m
    have : ((0 : Int) + (m : Int) * 2).toNat = 2 * m := by omega
    rw [this, Array.getElem?_toList]
  rw [e, ← evens_pick, Array.length_toList]
theorem getItem_tuple_two {t sl : Addr} {items : Array Value} {vl vu vs : Value} {Q : Value → Shared → Prop} (ht : IsTup s.heap t items) (hs : s.heap.IsSliceOf sl vl vu vs) (pl : IsPart vl none) (pu : IsPart vu none) (ps : IsPart vs (some 2))
    (h : Q (.ref s.heap.objs.size) { s with heap := s.heap.push { cls := .type "tuple", data := .seq (evens items.toList).toArray } })
    (hsz : items.size ≤ sizeLine) : wpAny (model prog w) A (getItem (.ref t) (.ref sl)) Q E s := by
  have htake : sizeOk (.seq (evens items.toList).toArray) := by
    show (evens items.toList).toArray.size ≤ sizeLine
    rw [List.size_toArray, evens_len, Array.length_toList]
    omega
  obtain ⟨os, hos, hcs, hds⟩ := id hs
  have hTs : s.TypeIs (.ref sl) "slice" := ⟨os, hos, hcs⟩
  unfold getItem
  try with_reducible refine wpAny_holding ?_
  first | refine wpAny_bind (wpAny_pure ?_) | skip
  refine wpAny_bind (wpAny_sequenceKey ht.typeIs (by decide) ?_)
  refine wpAny_bind (wpAny_callSpecial?_slot (name := Str.ofString "__getitem__") ht.typeIs PyProof.Rows.slot_tuple_getitem
    (wpAny_call_entry PyProof.Rows.slot_tuple_getitem ht.typeIs entry_tuple_getitem ?_ (args_tuple_getitem _ _)))
  show wpAny _ _ (Builtin.Tuple.tupleItemsOf (.ref t) >>= _) _ _ s
  refine wpAny_bind (tupleItemsOf_ ht ?_)
  refine wpAny_bind (wpAny_typeOf hTs ?_)
  rw [if_pos (by decide)]
  refine wpAny_bind (sliceApplied_two hs pl pu ps ?_)
  show wpAny _ _ (if (((0 : Int)) == 0 && (2 : Int) == 1 && ((items.size + 1) / 2) == items.size) = true then _ else _) _ _ s
  rw [if_neg (by simp), pick_two]
  first
    | exact wpAny_bind (m := Builtin.Tuple.tupleExact _) (wpAny_newObj_type (wpAny_pure ⟨_, rfl, wpAny_pure h⟩) htake)
    | exact wpAny_bind (m := Builtin.Tuple.tupleExact _) (wpAny_newObj_type (wpAny_bind (wpAny_pure (wpAny_pure ⟨_, rfl, wpAny_pure h⟩))) htake)
    | exact wpAny_bind (wpAny_bind (m := Builtin.Tuple.tupleExact _) (wpAny_newObj_type (wpAny_pure (wpAny_pure ⟨_, rfl, wpAny_pure h⟩)) htake))
    | exact wpAny_bind (wpAny_bind (m := Builtin.Tuple.tupleExact _) (wpAny_newObj_type (wpAny_pure ⟨_, rfl, wpAny_pure h⟩) htake))
end
section
variable {X : Cx}
theorem evens_vals : ∀ {xs : List V} {us : List Value}, Vals xs us → Vals (evens xs) (evens us)
  | [], [], _ => .nil
  | [a], [u], h => h
  | a :: b :: r, u :: v :: s, .cons h1 (.cons h2 h3) => .cons h1 (evens_vals h3)
def tTwoT (K : PySem.W.Frag) (te : TE) : TE := fun σ H Q => te σ H fun x H1 => ∃ a xs, x = .ref a ∧ SqT K H1 a xs ∧ ∀ p, H1 p = none → Q (.ref p) (upd H1 p (.tup (evens xs)))
theorem pe_two {e : Expr} {te : TE} {k : Nat} {p1 p3 pos : Pos} (he : PE X e te) : PE X (.Subscript e (.Slice none none (some (.Constant (.int 2) k p1)) p3) pos) (tTwoT X.K te) := by
  refine ⟨fun pins s σ H Q I h => ?_⟩
  refine Subscript_ (thn (he.run pins s σ H _ I h) fun v s1 ⟨x, H1, I1, r1, q1⟩ => ?_)
  obtain ⟨a, xs, ex, hx, q⟩ := q1
  subst ex
  cases r1
  have hst : PO X (some (.Constant (.int 2) k p1)) (tPart (tC (.int 2))) := po_some pe_int
  refine wpAny_Slice (thn (po_none.run pins s1 σ H1 (fun o H2 => o = none ∧ H2 = H1) I1 ⟨rfl, rfl⟩) fun vl s2 ⟨l, H2, I2, pl, el, e2⟩ => ?_)
  subst el e2
  refine thn (po_none.run pins s2 σ H2 (fun o H3 => o = none ∧ H3 = H2) I2 ⟨rfl, rfl⟩) fun vu s3 ⟨u, H3, I3, pu, eu, e3⟩ => ?_
  subst eu e3
  refine thn (hst.run pins s3 σ H3 (fun o H4 => o = some 2 ∧ H4 = H3) I3 ⟨2, rfl, rfl, rfl⟩) fun vs s4 ⟨o, H4, I4, ps, eo, e4⟩ => ?_
  subst eo e4
  have I5 : Inv X pins σ H4 { s4 with heap := s4.heap.push { cls := .type "slice", data := .fields #[vl, vu, vs] } } := I4.kept (t' := s4.toks) fun b ob q => Heap.get?_push_of_some _ q
  obtain ⟨its, r, ht, hz⟩ := I5.tuple hx
  have hlen : its.toArray.size = xs.length := by rw [List.size_toArray]; exact r.length.symm
  show wpAny (model X.prog X.w) X.A (subscriptTail e (.Slice none none (some (.Constant (.int 2) k p1)) p3) (.ref a) (.ref s4.heap.objs.size)) (EP X pins σ Q) X.xe { s4 with heap := s4.heap.push { cls := .type "slice", data := .fields #[vl, vu, vs] } }
  refine tail_any (ops := [.ref a, .ref s4.heap.objs.size]) ht.typeIs (PyProof.Rows.slot_tuple_getitem.lookup) ?_ (by with_unfolding_all rfl)
  refine getItem_tuple_two ht (Heap.IsSliceOf.new _ vl vu vs) pl pu ps ?_ (by rw [hlen]; exact hz)
  refine ⟨.ref _, _, I5.laid (t' := s4.toks) (o := .tup (evens xs)) (fun b ob q => Heap.get?_push_of_some _ q) (Nat.le_refl _) ?_, rfl, q _ (I5.hok.fresh (Nat.le_refl _))⟩
  exact ⟨by rw [evens_len]; omega, _, evens_vals r, IsTup.new _ _⟩
end
end Kx
namespace K55
open PySem PySem.Spec PyProof.Rows L2 Kx SX LamX
def topS (i : Nat) : Stmt := PySem.Challenge.pw_anyletter_k55_marks_of_damages.main.body.getD i (.Pass ⟨0, 0, 0, 0⟩)
abbrev s_is_list : Stmt := topS 2
theorem sc_is_list : FnScope ["value"] ["value"] (defScope s_is_list) := ⟨rfl, rfl, rfl, by decide +kernel, rfl, by decide +kernel, by decide +kernel⟩
abbrev s_is_integer : Stmt := topS 3
theorem sc_is_integer : FnScope ["value"] ["value"] (defScope s_is_integer) := ⟨rfl, rfl, rfl, by decide +kernel, rfl, by decide +kernel, by decide +kernel⟩
abbrev s_is_within : Stmt := topS 4
theorem sc_is_within : FnScope ["value", "least", "most"] ["value", "least", "most"] (defScope s_is_within) := ⟨rfl, rfl, rfl, by decide +kernel, rfl, by decide +kernel, by decide +kernel⟩
abbrev s_are_letters : Stmt := topS 5
theorem sc_are_letters : FnScope ["text"] ["text"] (defScope s_are_letters) := ⟨rfl, rfl, rfl, by decide +kernel, rfl, by decide +kernel, by decide +kernel⟩
abbrev s_is_sign : Stmt := topS 6
theorem sc_is_sign : FnScope ["value"] ["value"] (defScope s_is_sign) := ⟨rfl, rfl, rfl, by decide +kernel, rfl, by decide +kernel, by decide +kernel⟩
abbrev s_is_text : Stmt := topS 7
theorem sc_is_text : FnScope ["value", "letters"] ["value"] (defScope s_is_text) := ⟨rfl, rfl, rfl, by decide +kernel, rfl, by decide +kernel, by decide +kernel⟩
abbrev s_is_edit : Stmt := topS 15
theorem sc_is_edit : FnScope ["value"] ["value"] (defScope s_is_edit) := ⟨rfl, rfl, rfl, by decide +kernel, rfl, by decide +kernel, by decide +kernel⟩
abbrev s_left_by_edit : Stmt := topS 16
theorem sc_left_by_edit : FnScope ["text", "edit", "at"] ["text", "edit"] (defScope s_left_by_edit) := ⟨rfl, rfl, rfl, by decide +kernel, rfl, by decide +kernel, by decide +kernel⟩
abbrev s_texts_behind : Stmt := topS 17
theorem sc_texts_behind : FnScope ["text", "edits", "texts", "edit", "left"] ["text", "edits"] (defScope s_texts_behind) := ⟨rfl, rfl, rfl, by decide +kernel, rfl, by decide +kernel, by decide +kernel⟩
abbrev s_checked_texts : Stmt := topS 18
theorem sc_checked_texts : FnScope ["text", "edits", "texts"] ["text", "edits"] (defScope s_checked_texts) := ⟨rfl, rfl, rfl, by decide +kernel, rfl, by decide +kernel, by decide +kernel⟩
abbrev s_damaged : Stmt := topS 19
theorem sc_damaged : FnScope ["text", "edits"] ["text", "edits"] (defScope s_damaged) := ⟨rfl, rfl, rfl, by decide +kernel, rfl, by decide +kernel, by decide +kernel⟩
abbrev s_Marking_init : Stmt := inClass (topS 22) 0
theorem sc_Marking_init : FnScope ["self", "length"] ["self", "length"] (defScope s_Marking_init) := ⟨rfl, rfl, rfl, by decide +kernel, rfl, by decide +kernel, by decide +kernel⟩
abbrev s_mark_edit : Stmt := topS 23
theorem sc_mark_edit : FnScope ["marking", "edit", "kind", "at"] ["marking", "edit"] (defScope s_mark_edit) := ⟨rfl, rfl, rfl, by decide +kernel, rfl, by decide +kernel, by decide +kernel⟩
abbrev s_mark_of : Stmt := topS 24
theorem sc_mark_of : FnScope ["is_new", "has_gap"] ["is_new", "has_gap"] (defScope s_mark_of) := ⟨rfl, rfl, rfl, by decide +kernel, rfl, by decide +kernel, by decide +kernel⟩
abbrev s_marks_of : Stmt := topS 25
theorem sc_marks_of : FnScope ["text", "edits", "left", "marking", "edit", "is_new", "has_gap", "marks", "lines", "begin"] ["text", "edits"] (defScope s_marks_of) := ⟨rfl, rfl, rfl, by decide +kernel, rfl, by decide +kernel, by decide +kernel⟩
abbrev s_law_pen : Stmt := topS 27
theorem sc_law_pen : FnScope ["script", "cell"] ["script"] (defScope s_law_pen) := ⟨rfl, rfl, rfl, by decide +kernel, rfl, by decide +kernel, by decide +kernel⟩
abbrev s_law_stroke : Stmt := topS 28
theorem sc_law_stroke : FnScope ["pen", "many", "rest", "turn", "cell", "mixed"] ["pen", "many"] (defScope s_law_stroke) := ⟨rfl, rfl, rfl, by decide +kernel, rfl, by decide +kernel, by decide +kernel⟩
abbrev s_law_one_of : Stmt := topS 29
theorem sc_law_one_of : FnScope ["pen", "some"] ["pen", "some"] (defScope s_law_one_of) := ⟨rfl, rfl, rfl, by decide +kernel, rfl, by decide +kernel, by decide +kernel⟩
abbrev s_law_heard : Stmt := topS 30
theorem sc_law_heard : FnScope ["ask", "caught", "error", "told", "word", "is_so"] ["ask"] (defScope s_law_heard) := ⟨rfl, rfl, rfl, by decide +kernel, rfl, by decide +kernel, by decide +kernel⟩
abbrev s_law_spot : Stmt := topS 31
theorem sc_law_spot : FnScope ["tokens", "at", "left", "spot", "token"] ["tokens", "at"] (defScope s_law_spot) := ⟨rfl, rfl, rfl, by decide +kernel, rfl, by decide +kernel, by decide +kernel⟩
abbrev s_law_ahead : Stmt := topS 32
theorem sc_law_ahead : FnScope ["tokens", "spot"] ["tokens", "spot"] (defScope s_law_ahead) := ⟨rfl, rfl, rfl, by decide +kernel, rfl, by decide +kernel, by decide +kernel⟩
abbrev s_law_edited : Stmt := topS 33
theorem sc_law_edited : FnScope ["tokens", "edit", "spot", "at", "behind"] ["tokens", "edit"] (defScope s_law_edited) := ⟨rfl, rfl, rfl, by decide +kernel, rfl, by decide +kernel, by decide +kernel⟩
abbrev s_law_lines : Stmt := topS 34
theorem sc_law_lines : FnScope ["tokens", "text", "marks", "is_gap", "token", "found", "begin"] ["tokens"] (defScope s_law_lines) := ⟨rfl, rfl, rfl, by decide +kernel, rfl, by decide +kernel, by decide +kernel⟩
abbrev s_law_edits : Stmt := topS 35
theorem sc_law_edits : FnScope ["pen", "text", "edits", "near", "turn", "at", "way", "sign"] ["pen", "text"] (defScope s_law_edits) := ⟨rfl, rfl, rfl, by decide +kernel, rfl, by decide +kernel, by decide +kernel⟩
abbrev s_law : Stmt := topS 36
theorem sc_law : FnScope ["script", "pen", "turn", "long", "place", "text", "edits", "hurt", "sign", "tokens", "edit", "due", "told", "none", "far", "some", "bad"] ["script"] (defScope s_law) := ⟨rfl, rfl, rfl, by decide +kernel, rfl, by decide +kernel, by decide +kernel⟩
abbrev s_BadText_init : Stmt := inClass (topS 10) 0
theorem sc_BadText_init : FnScope ["self", "part"] ["self", "part"] (defScope s_BadText_init) := ⟨rfl, rfl, rfl, by decide +kernel, rfl, by decide +kernel, by decide +kernel⟩
theorem in_BadText : IsInit s_BadText_init := ⟨_, _, _, _, rfl, sc_BadText_init, rfl, rfl⟩
abbrev s_BadEdits_init : Stmt := inClass (topS 11) 0
theorem sc_BadEdits_init : FnScope ["self", "part"] ["self", "part"] (defScope s_BadEdits_init) := ⟨rfl, rfl, rfl, by decide +kernel, rfl, by decide +kernel, by decide +kernel⟩
theorem in_BadEdits : IsInit s_BadEdits_init := ⟨_, _, _, _, rfl, sc_BadEdits_init, rfl, rfl⟩
structure Tx (K : PySem.W.Frag) (mg : Str → Option Value) where
  f_is_list : Addr
  fd_is_list : FuncData
  F_is_list : Fun K "is_list" "is_list" s_is_list f_is_list fd_is_list
  g_is_list : mg "is_list" = some (.ref f_is_list)
  b_is_list : Binds K fd_is_list ["value"] []
  f_is_integer : Addr
  fd_is_integer : FuncData
  F_is_integer : Fun K "is_integer" "is_integer" s_is_integer f_is_integer fd_is_integer
  g_is_integer : mg "is_integer" = some (.ref f_is_integer)
  b_is_integer : Binds K fd_is_integer ["value"] []
  f_is_within : Addr
  fd_is_within : FuncData
  F_is_within : Fun K "is_within" "is_within" s_is_within f_is_within fd_is_within
  g_is_within : mg "is_within" = some (.ref f_is_within)
  b_is_within : Binds K fd_is_within ["value", "least", "most"] []
  f_are_letters : Addr
  fd_are_letters : FuncData
  F_are_letters : Fun K "are_letters" "are_letters" s_are_letters f_are_letters fd_are_letters
  g_are_letters : mg "are_letters" = some (.ref f_are_letters)
  b_are_letters : Binds K fd_are_letters ["text"] []
  f_is_sign : Addr
  fd_is_sign : FuncData
  F_is_sign : Fun K "is_sign" "is_sign" s_is_sign f_is_sign fd_is_sign
  g_is_sign : mg "is_sign" = some (.ref f_is_sign)
  b_is_sign : Binds K fd_is_sign ["value"] []
  f_is_text : Addr
  fd_is_text : FuncData
  F_is_text : Fun K "is_text" "is_text" s_is_text f_is_text fd_is_text
  g_is_text : mg "is_text" = some (.ref f_is_text)
  b_is_text : Binds K fd_is_text ["value"] []
  f_is_edit : Addr
  fd_is_edit : FuncData
  F_is_edit : Fun K "is_edit" "is_edit" s_is_edit f_is_edit fd_is_edit
  g_is_edit : mg "is_edit" = some (.ref f_is_edit)
  b_is_edit : Binds K fd_is_edit ["value"] []
  f_left_by_edit : Addr
  fd_left_by_edit : FuncData
  F_left_by_edit : Fun K "left_by_edit" "left_by_edit" s_left_by_edit f_left_by_edit fd_left_by_edit
  g_left_by_edit : mg "left_by_edit" = some (.ref f_left_by_edit)
  b_left_by_edit : Binds K fd_left_by_edit ["text", "edit"] []
  f_texts_behind : Addr
  fd_texts_behind : FuncData
  F_texts_behind : Fun K "texts_behind" "texts_behind" s_texts_behind f_texts_behind fd_texts_behind
  g_texts_behind : mg "texts_behind" = some (.ref f_texts_behind)
  b_texts_behind : Binds K fd_texts_behind ["text", "edits"] []
  f_checked_texts : Addr
  fd_checked_texts : FuncData
  F_checked_texts : Fun K "checked_texts" "checked_texts" s_checked_texts f_checked_texts fd_checked_texts
  g_checked_texts : mg "checked_texts" = some (.ref f_checked_texts)
  b_checked_texts : Binds K fd_checked_texts ["text", "edits"] []
  f_damaged : Addr
  fd_damaged : FuncData
  F_damaged : Fun K "damaged" "damaged" s_damaged f_damaged fd_damaged
  g_damaged : mg "damaged" = some (.ref f_damaged)
  b_damaged : Binds K fd_damaged ["text", "edits"] []
  f_mark_edit : Addr
  fd_mark_edit : FuncData
  F_mark_edit : Fun K "mark_edit" "mark_edit" s_mark_edit f_mark_edit fd_mark_edit
  g_mark_edit : mg "mark_edit" = some (.ref f_mark_edit)
  b_mark_edit : Binds K fd_mark_edit ["marking", "edit"] []
  f_mark_of : Addr
  fd_mark_of : FuncData
  F_mark_of : Fun K "mark_of" "mark_of" s_mark_of f_mark_of fd_mark_of
  g_mark_of : mg "mark_of" = some (.ref f_mark_of)
  b_mark_of : Binds K fd_mark_of ["is_new", "has_gap"] []
  f_marks_of : Addr
  fd_marks_of : FuncData
  F_marks_of : Fun K "marks_of" "marks_of" s_marks_of f_marks_of fd_marks_of
  g_marks_of : mg "marks_of" = some (.ref f_marks_of)
  b_marks_of : Binds K fd_marks_of ["text", "edits"] []
  f_law_pen : Addr
  fd_law_pen : FuncData
  F_law_pen : Fun K "_law_pen" "_law_pen" s_law_pen f_law_pen fd_law_pen
  g_law_pen : mg "_law_pen" = some (.ref f_law_pen)
  b_law_pen : Binds K fd_law_pen ["script"] []
  f_law_stroke : Addr
  fd_law_stroke : FuncData
  F_law_stroke : Fun K "_law_stroke" "_law_stroke" s_law_stroke f_law_stroke fd_law_stroke
  g_law_stroke : mg "_law_stroke" = some (.ref f_law_stroke)
  b_law_stroke : Binds K fd_law_stroke ["pen", "many"] []
  f_law_one_of : Addr
  fd_law_one_of : FuncData
  F_law_one_of : Fun K "_law_one_of" "_law_one_of" s_law_one_of f_law_one_of fd_law_one_of
  g_law_one_of : mg "_law_one_of" = some (.ref f_law_one_of)
  b_law_one_of : Binds K fd_law_one_of ["pen", "some"] []
  f_law_heard : Addr
  fd_law_heard : FuncData
  F_law_heard : Fun K "_law_heard" "_law_heard" s_law_heard f_law_heard fd_law_heard
  g_law_heard : mg "_law_heard" = some (.ref f_law_heard)
  b_law_heard : Binds K fd_law_heard ["ask"] []
  f_law_spot : Addr
  fd_law_spot : FuncData
  F_law_spot : Fun K "_law_spot" "_law_spot" s_law_spot f_law_spot fd_law_spot
  g_law_spot : mg "_law_spot" = some (.ref f_law_spot)
  b_law_spot : Binds K fd_law_spot ["tokens", "at"] []
  f_law_ahead : Addr
  fd_law_ahead : FuncData
  F_law_ahead : Fun K "_law_ahead" "_law_ahead" s_law_ahead f_law_ahead fd_law_ahead
  g_law_ahead : mg "_law_ahead" = some (.ref f_law_ahead)
  b_law_ahead : Binds K fd_law_ahead ["tokens", "spot"] []
  f_law_edited : Addr
  fd_law_edited : FuncData
  F_law_edited : Fun K "_law_edited" "_law_edited" s_law_edited f_law_edited fd_law_edited
  g_law_edited : mg "_law_edited" = some (.ref f_law_edited)
  b_law_edited : Binds K fd_law_edited ["tokens", "edit"] []
  f_law_lines : Addr
  fd_law_lines : FuncData
  F_law_lines : Fun K "_law_lines" "_law_lines" s_law_lines f_law_lines fd_law_lines
  g_law_lines : mg "_law_lines" = some (.ref f_law_lines)
  b_law_lines : Binds K fd_law_lines ["tokens"] []
  f_law_edits : Addr
  fd_law_edits : FuncData
  F_law_edits : Fun K "_law_edits" "_law_edits" s_law_edits f_law_edits fd_law_edits
  g_law_edits : mg "_law_edits" = some (.ref f_law_edits)
  b_law_edits : Binds K fd_law_edits ["pen", "text"] []
  f_law : Addr
  fd_law : FuncData
  F_law : Fun K "law" "law" s_law f_law fd_law
  g_law : mg "law" = some (.ref f_law)
  b_law : Binds K fd_law ["script"] []
  n_law : PySem.W.nsIn K mainGlobals "law" = some (some (.ref f_law))
  f_Marking_init : Addr
  fd_Marking_init : FuncData
  F_Marking_init : Fun K "__init__" "Marking.__init__" s_Marking_init f_Marking_init fd_Marking_init
  b_Marking_init : Binds K fd_Marking_init ["self", "length"] []
  C_Marking : Addr
  gC_Marking : mg "Marking" = some (.ref C_Marking)
  cl_Marking : Cls K C_Marking
  mk_Marking : Mk K C_Marking f_Marking_init
  ob_Marking : PySem.W.mroIn K C_Marking (.type "object") = some true
  ne_Marking : PySem.W.findIn K (.ref C_Marking) "__ne__" = some (some (.builtin "object.__ne__"))
  oc_Marking : PySem.W.findIn K (.ref C_Marking) "__class__" = some (some (.builtin "object.__class__"))
  on_Marking : PySem.W.specialIn K (.builtin "object.__class__") "__get__" = some (some (.builtin "getset_descriptor.__get__"))
  ot_Marking : PySem.W.takesIn K (.builtin "object.__class__") = some true
  kc_Marking : PySem.W.isClsIn K C_Marking = true
  kt_Marking : PySem.W.typeIn K (.ref C_Marking) = some (.type "type")
  na_Marking_news : NoAttr K C_Marking "news"
  na_Marking_gaps : NoAttr K C_Marking "gaps"
  k_TooMany : Addr
  gk_TooMany : mg "TooMany" = some (.ref k_TooMany)
  kc_TooMany : PySem.W.isClsIn K k_TooMany = true
  kt_TooMany : PySem.W.typeIn K (.ref k_TooMany) = some (.type "type")
  k_BadText : Addr
  gk_BadText : mg "BadText" = some (.ref k_BadText)
  kc_BadText : PySem.W.isClsIn K k_BadText = true
  kt_BadText : PySem.W.typeIn K (.ref k_BadText) = some (.type "type")
  k_BadEdits : Addr
  gk_BadEdits : mg "BadEdits" = some (.ref k_BadEdits)
  kc_BadEdits : PySem.W.isClsIn K k_BadEdits = true
  kt_BadEdits : PySem.W.typeIn K (.ref k_BadEdits) = some (.type "type")
  su_BadText_TooMany : PySem.W.subIn K (.ref k_BadText) (.ref k_TooMany) = some false
  su_BadText_BadText : PySem.W.subIn K (.ref k_BadText) (.ref k_BadText) = some true
  su_BadText_BadEdits : PySem.W.subIn K (.ref k_BadText) (.ref k_BadEdits) = some false
  su_BadEdits_TooMany : PySem.W.subIn K (.ref k_BadEdits) (.ref k_TooMany) = some false
  su_BadEdits_BadText : PySem.W.subIn K (.ref k_BadEdits) (.ref k_BadText) = some false
  su_BadEdits_BadEdits : PySem.W.subIn K (.ref k_BadEdits) (.ref k_BadEdits) = some true
  m_isinstance : mg "isinstance" = none
  m_list : mg "list" = none
  m_tuple : mg "tuple" = none
  m_int : mg "int" = none
  m_bool : mg "bool" = none
  m_str : mg "str" = none
  m_len : mg "len" = none
  m_range : mg "range" = none
  m_max : mg "max" = none
  m_zip : mg "zip" = none
  m_abs : mg "abs" = none
  m_enumerate : mg "enumerate" = none
  m_min : mg "min" = none
  m_repr : mg "repr" = none
  e_BadText : Er K mg "BadText" "BadText.__init__" s_BadText_init "LetterError"
  e_BadEdits : Er K mg "BadEdits" "BadEdits.__init__" s_BadEdits_init "LetterError"
  t_MOST_SIGNS : Tok
  c_MOST_SIGNS : mg "MOST_SIGNS" = some (.int 200000 t_MOST_SIGNS)
  t_MOST_EDITS : Tok
  c_MOST_EDITS : mg "MOST_EDITS" = some (.int 12 t_MOST_EDITS)
  t_SIGNS_OF_LINE : Tok
  c_SIGNS_OF_LINE : mg "SIGNS_OF_LINE" = some (.int 60 t_SIGNS_OF_LINE)
section
variable {P : Program} {w : World} {K : PySem.W.Frag} {mg : Str → Option Value} {base : Heap} (T : Tx K mg)
/-! ### checks -/
def sp_is_list (K : PySem.W.Frag) : Sp := fun vs H Q _ => ∃ (x : V) (n : String) (b : Bool), vs = [x] ∧ TyX K H x (.type n) ∧ PySem.W.kitAny K (.type n) [.type "list", .type "tuple"] = some b ∧ ∀ H', Same H H' → Q (.bl b) H'
theorem ok_is_list : FnOk P w K mg base CX0 1 T.f_is_list T.fd_is_list ["value"] (sp_is_list K) := by
  refine T.F_is_list.ok sc_is_list (fun vs H Q E h => ?_) (fun cdv A outer s H vs Q E hr h => ?_)
  · obtain ⟨x, n, b, rfl, _⟩ := h
    rfl
  · obtain ⟨x, n, b, rfl, ht, hk, q⟩ := h
    refine ⟨_, (pss_one (ps_ret (pe_callB call_isiT (by rfl) T.m_isinstance (by decide +kernel) (pa_cons (pv 0) (pa_cons (pe_tup (pa_cons (pe_bltn (v := .ty "list") (by rfl) T.m_list (by decide +kernel) rfl) (pa_cons (pe_bltn (v := .ty "tuple") (by rfl) T.m_tuple (by decide +kernel) rfl) pa_nil))) pa_nil))))), ?_⟩
    refine ⟨x, rfl, by show 2 ≤ sizeLine; decide, fun p np => ?_⟩
    exact ⟨x, p, _, _, _, b, rfl, upd_same, .cons (.ty _) (.cons (.ty _) .nil), tyx_same (same_new np) ht, hk, q _ (same_new np)⟩
def sp_is_integer (K : PySem.W.Frag) : Sp := fun vs H Q _ => ∃ (x : V) (n : String) (a b : Bool), vs = [x] ∧ TyX K H x (.type n) ∧ kitB n "int" = some a ∧ kitB n "bool" = some b ∧ Q (.bl (a && !b)) H
theorem ok_is_integer : FnOk P w K mg base CX0 1 T.f_is_integer T.fd_is_integer ["value"] (sp_is_integer K) := by
  refine T.F_is_integer.ok sc_is_integer (fun vs H Q E h => ?_) (fun cdv A outer s H vs Q E hr h => ?_)
  · obtain ⟨x, n, a, b, rfl, _⟩ := h
    rfl
  · obtain ⟨x, n, a, b, rfl, ht, h1, h2, q⟩ := h
    refine ⟨_, (pss_one (ps_ret (pe_and (pe_callB call_isi (by rfl) T.m_isinstance (by decide +kernel) (pa_cons (pv 0) (pa_cons (pe_bltn (v := .ty "int") (by rfl) T.m_int (by decide +kernel) rfl) pa_nil))) (pe_one (pe_not (pe_callB call_isi (by rfl) T.m_isinstance (by decide +kernel) (pa_cons (pv 0) (pa_cons (pe_bltn (v := .ty "bool") (by rfl) T.m_bool (by decide +kernel) rfl) pa_nil)))))))), ?_⟩
    refine ⟨x, rfl, x, _, _, _, a, rfl, .ty _, ht, kit_ty h1, a, rfl, iteC (fun e => ?_) (fun e => ?_)⟩
    · refine ⟨x, rfl, x, _, _, _, b, rfl, .ty _, ht, kit_ty h2, b, rfl, ?_⟩
      rw [e] at q
      exact q
    · rw [e] at q
      exact q
def sp_is_within (K : PySem.W.Frag) : Sp := fun vs H Q _ => ∃ (x : V) (lo hi : Option Int), vs = [x, bdV lo, bdV hi] ∧ HasInt K H x ∧ Q (.bl (withinV x lo hi)) H
theorem ok_is_within : FnOk P w K mg base CX0 2 T.f_is_within T.fd_is_within ["value", "least", "most"] (sp_is_within K) := by
  refine T.F_is_within.ok sc_is_within (fun vs H Q E h => ?_) (fun cdv A outer s H vs Q E hr h => ?_)
  · obtain ⟨i, lo, hi, rfl, _⟩ := h
    rfl
  · obtain ⟨x, lo, hi, rfl, ⟨n, a, b, ht, k1, k2, e⟩, q⟩ := h
    refine ⟨_, (pss_cons (ps_if (pt_not (pt_val (pe_call (ok_is_integer T) (hr.mono (by decide)) (by rfl) T.g_is_integer T.F_is_integer.kp T.b_is_integer .nil pass0 (pa_cons (pv 0) pa_nil))))
      (pss_one (ps_ret pe_bl))
      pss_nil)
    (pss_one (ps_ret (pe_and (pe_or (pe_cmpR op_isN (pv 1) pe_non (nomark _)) (pe_one (pe_cmpR op_ge (pv 0) (pv 1) (nomark _)))) (pe_one (pe_or (pe_cmpR op_isN (pv 2) pe_non (nomark _)) (pe_one (pe_cmpR op_le (pv 0) (pv 2) (nomark _))))))))), ?_⟩
    refine ⟨_, rfl, x, n, a, b, rfl, ht, k1, k2, _, rfl, ?_⟩
    rw [e]
    cases x with
    | int i =>
      refine iteF ⟨_, rfl, rfl, _, rfl, ?_⟩
      cases lo with
      | none =>
        refine iteT ⟨_, rfl, iteT ⟨_, rfl, rfl, _, rfl, ?_⟩⟩
        cases hi with
        | none => exact iteT q
        | some h => exact iteF ⟨_, rfl, _, rfl, _, _, rfl, rfl, q⟩
      | some l =>
        have q' : Q (.bl (decide (l ≤ i) && hiB i hi)) H := q
        refine iteF ⟨_, rfl, _, rfl, _, _, rfl, rfl, _, rfl, iteC (fun e => ?_) (fun e => ?_)⟩
        · rw [e] at q'
          refine ⟨_, rfl, rfl, _, rfl, ?_⟩
          cases hi with
          | none => exact iteT q'
          | some h => exact iteF ⟨_, rfl, _, rfl, _, _, rfl, rfl, q'⟩
        · rw [e] at q'
          exact q'
    | _ => exact iteT q
/-! ### words, signs, texts -/
def sp_are_letters (K : PySem.W.Frag) : Sp := fun vs H Q _ => ∃ (l : List Nat), vs = [.str (S l)] ∧ Q (.bl (lowB l)) H
theorem ok_are_letters : FnOk P w K mg base CX0 1 T.f_are_letters T.fd_are_letters ["text"] (sp_are_letters K) := by
  refine T.F_are_letters.ok sc_are_letters (fun vs H Q E h => ?_) (fun cdv A outer s H vs Q E hr h => ?_)
  · obtain ⟨l, rfl, _⟩ := h
    rfl
  · obtain ⟨l, rfl, q⟩ := h
    rw [← letters_S] at q
    refine ⟨_, (pss_one (ps_ret (pe_and (pe_m0 PySem.F.slot_str_isascii PySem.F.type_str_isascii mt_isascii (pv 0)) (pe_and (pe_m0 PySem.F.slot_str_isalpha PySem.F.type_str_isalpha mt_isalpha (pv 0)) (pe_one (pe_m0 PySem.F.slot_str_islower PySem.F.type_str_islower mt_islower (pv 0))))))), ?_⟩
    refine ⟨_, rfl, ⟨_, rfl⟩, S l, rfl, rfl, trivial, _, rfl, iteC (fun e => ?_) (fun e => ?_)⟩
    · rw [e] at q
      refine ⟨_, rfl, ⟨_, rfl⟩, S l, rfl, rfl, trivial, _, rfl, iteC (fun e => ?_) (fun e => ?_)⟩
      · rw [e] at q
        exact ⟨_, rfl, ⟨_, rfl⟩, S l, rfl, rfl, trivial, q⟩
      · rw [e] at q
        exact q
    · rw [e] at q
      exact q
/-- a text, or what is none -/
def StrIs (K : PySem.W.Frag) (H : Hp) (x : V) (o : Option (List Nat)) : Prop := match o with
  | some l => x = .str (S l) ∧ l.length ≤ 1000000
  | none => ∃ n, TyX K H x (.type n) ∧ kitB n "str" = some false
theorem StrIs.same {K : PySem.W.Frag} {H H' : Hp} {x : V} {o : Option (List Nat)} (e : Same H H') (h : StrIs K H x o) : StrIs K H' x o := by
  cases o with
  | some l => exact h
  | none =>
    obtain ⟨n, h1, h2⟩ := h
    exact ⟨n, tyx_same e h1, h2⟩
theorem kit_str : kitB "str" "str" = some true := by decide +kernel
def signB (l : List Nat) : Bool := decide (l.length = 1) && l.all sg
def sp_is_sign (K : PySem.W.Frag) : Sp := fun vs H Q _ => ∃ (x : V) (o : Option (List Nat)), vs = [x] ∧ StrIs K H x o ∧ Q (.bl (o.elim false signB)) H
theorem ok_is_sign : FnOk P w K mg base CX0 2 T.f_is_sign T.fd_is_sign ["value"] (sp_is_sign K) := by
  refine T.F_is_sign.ok sc_is_sign (fun vs H Q E h => ?_) (fun cdv A outer s H vs Q E hr h => ?_)
  · obtain ⟨x, o, rfl, _⟩ := h
    rfl
  · obtain ⟨x, o, rfl, hx, q⟩ := h
    refine ⟨_, (pss_one (ps_ret (pe_and (pe_callB call_isi (by rfl) T.m_isinstance (by decide +kernel) (pa_cons (pv 0) (pa_cons (pe_bltn (v := .ty "str") (by rfl) T.m_str (by decide +kernel) rfl) pa_nil))) (pe_and (pe_cmpR op_eq (pe_callB call_len_str (by rfl) T.m_len PySem.boot_len (pa_cons (pv 0) pa_nil)) pe_int (nomark _)) (pe_one (pe_or (pe_cmpR op_eq (pv 0) pe_str (nomark _)) (pe_one (pe_call (ok_are_letters T) (hr.mono (by decide)) (by rfl) T.g_are_letters T.F_are_letters.kp T.b_are_letters .nil pass0 (pa_cons (pv 0) pa_nil))))))))), ?_⟩
    cases o with
    | none =>
      obtain ⟨n, h1, h2⟩ := hx
      exact ⟨x, rfl, x, _, _, _, false, rfl, .ty _, h1, kit_ty h2, _, rfl, iteF q⟩
    | some l =>
      obtain ⟨rfl, hl⟩ := hx
      refine ⟨_, rfl, _, _, _, _, true, rfl, .ty _, .base (.str (S l)), kit_ty kit_str, _, rfl, ?_⟩
      refine iteT (B := _) ?_
      have q' : Q (.bl (decide (l.length = 1) && l.all sg)) H := q
      have e1 : decide (V.int ((S l).length : Int) = V.int 1) = decide (l.length = 1) := by
        rw [S_len]
        by_cases h : l.length = 1
        · rw [decide_eq_true h, decide_eq_true (by rw [h]; rfl)]
        · rw [decide_eq_false h, decide_eq_false (fun e => h (by injection e with e; omega))]
      refine ⟨_, rfl, S l, rfl, by rw [S_len]; exact Nat.le_trans hl (by decide), rfl, _, rfl, ?_⟩
      rw [e1]
      cases h : decide (l.length = 1) with
      | false =>
        rw [h] at q'
        exact iteF q'
      | true =>
        rw [h] at q'
        refine iteT (B := _) ?_
        obtain ⟨c, rfl⟩ : ∃ c, l = [c] := List.length_eq_one_iff.mp (of_decide_eq_true h)
        have e2 : decide (V.str (S [c]) = V.str " ") = decide (c = 32) := by
          by_cases hc : c = 32
          · subst hc
            rfl
          · rw [decide_eq_false hc, decide_eq_false]
            intro e
            injection e with e
            have := congrArg (fun z : Str => z.cps.toList) e
            simp [S] at this
            exact hc (by have h2 : (Str.ofString " ").cps.toList = [32] := rfl; rw [h2] at this; simpa using this)
        refine ⟨_, rfl, rfl, _, rfl, ?_⟩
        rw [e2]
        cases hc : decide (c = 32) with
        | true =>
          refine iteT (B := _) ?_
          have : (true && [c].all sg) = true := by simp [sg, of_decide_eq_true hc]
          rw [this] at q'
          exact q'
        | false =>
          refine iteF (A := _) ?_
          refine ⟨_, rfl, [c], rfl, ?_⟩
          have : (true && [c].all sg) = lowB [c] := by
            unfold lowB
            simp [sg, of_decide_eq_false hc]
          rw [← this]
          exact q'
def sp_is_text (K : PySem.W.Frag) : Sp := fun vs H Q _ => ∃ (x : V) (o : Option (List Nat)), vs = [x] ∧ StrIs K H x o ∧ Q (.bl (o.elim false textB)) H
theorem ok_is_text : FnOk P w K mg base CX0 2 T.f_is_text T.fd_is_text ["value"] (sp_is_text K) := by
  refine okT T.F_is_text sc_is_text (by decide +kernel) (by decide) (fun vs H Q E h => ?_) (fun cdv A outer s H vs Q E hr h => ?_)
  · obtain ⟨x, o, rfl, _⟩ := h
    rfl
  · obtain ⟨x, o, rfl, hx, q⟩ := h
    refine ⟨_, (psst_cons (PST.of (ps_if (PW.pt (pw_or (pt_not (pt_val (pe_callB call_isi (by rfl) T.m_isinstance (by decide +kernel) (pa_cons (pv 0) (pa_cons (pe_bltn (v := .ty "str") (by rfl) T.m_str (by decide +kernel) rfl) pa_nil))))) (pw_or1 (pt_cmpR op_gt (pe_callB call_len_str (by rfl) T.m_len PySem.boot_len (pa_cons (pv 0) pa_nil)) (pe_glob (v := .int 200000) (by rfl) T.c_MOST_SIGNS ⟨_, rfl⟩) (nomark _)))))
      (pss_one (ps_ret pe_bl))
      pss_nil))
    (psst_cons (pst_set (i := 1) sc_is_text.nd rfl (.inl rfl) (CwR.pet_replC (pv 0)))
    (PSsT.of (pss_one (ps_ret (pe_or (pe_cmpR op_eq (pv 1) pe_str (nomark _)) (pe_one (pe_call (ok_are_letters T) (hr.mono (by decide)) (by rfl) T.g_are_letters T.F_are_letters.kp T.b_are_letters .nil pass0 (pa_cons (pv 1) pa_nil))))))))), ?_⟩
    cases o with
    | none =>
      obtain ⟨n, h1, h2⟩ := hx
      refine ⟨x, rfl, x, _, _, _, false, rfl, .ty _, h1, kit_ty h2, _, rfl, ?_⟩
      refine iteT (B := _) ?_
      refine iteT (B := _) ?_
      exact q
    | some l =>
      obtain ⟨rfl, hl⟩ := hx
      refine ⟨_, rfl, _, _, _, _, true, rfl, .ty _, .base (.str (S l)), kit_ty kit_str, _, rfl, ?_⟩
      refine iteF (A := _) ?_
      have q' : Q (.bl (decide (l.length ≤ 200000) && l.all sg)) H := q
      have e1 : decide ((200000 : Int) < ((S l).length : Int)) = !decide (l.length ≤ 200000) := by
        rw [S_len]
        by_cases h : l.length ≤ 200000
        · rw [decide_eq_true h, decide_eq_false (by omega)]
          rfl
        · rw [decide_eq_false h, decide_eq_true (by omega)]
          rfl
      refine ⟨_, rfl, S l, rfl, by rw [S_len]; exact Nat.le_trans hl (by decide), _, _, rfl, rfl, _, rfl, ?_⟩
      rw [e1]
      cases h : decide (l.length ≤ 200000) with
      | false =>
        rw [h] at q'
        refine iteT (B := _) ?_
        exact q'
      | true =>
        rw [h] at q'
        have h' : l.length ≤ 200000 := of_decide_eq_true h
        refine iteF (A := _) ?_
        refine ⟨_, rfl, S l, rfl, by rw [S_len]; show l.length + (l.length + 1) * 0 ≤ 16777216; omega, ?_⟩
        have eR : Txt.replace (S l) " " "" = S (l.filter (· != 32)) := replace_S l
        rw [eR]
        have q2 : Q (.bl ((l.filter (· != 32)).isEmpty || lowB (l.filter (· != 32)))) H := by
          rw [text_filter]
          exact q'
        refine ⟨_, rfl, rfl, _, rfl, ?_⟩
        rw [S_nil]
        cases hE : (l.filter (· != 32)).isEmpty with
        | true =>
          rw [hE] at q2
          refine iteT (B := _) ?_
          exact q2
        | false =>
          rw [hE] at q2
          refine iteF (A := _) ?_
          exact ⟨_, rfl, _, rfl, q2⟩
end
end K55
namespace K55
open PySem PySem.Spec PyProof.Rows L2 Kx SX LamX
section
variable {P : Program} {w : World} {K : PySem.W.Frag} {mg : Str → Option Value} {base : Heap} (T : Tx K mg)
theorem go_tup {σ : L2.St} {H : Hp} {t : TA} {Q : VK} (h : t σ H fun xs H1 => xs.length ≤ sizeLine ∧ ∀ p, H1 p = none → Q (.ref p) (upd H1 p (.tup xs))) : tTup t σ H Q := h
theorem ix_q {p : Addr} {xs : List V} {i : Int} {v : V} {H : Hp} {Q : VK} (h : SqQ K H p xs) (at' : atI xs i = some v) (q : Q v H) : rIx K (.ref p) (.int i) H Q := by
  rcases h with h | h
  · exact .inl ⟨p, xs, i, v, rfl, rfl, h, at', q⟩
  · exact .inr (.inl ⟨p, xs, i, v, rfl, rfl, h, at', q⟩)
/-- an edit -/
inductive Ed where
  | put (a c : Nat)
  | lost (a : Nat)
  | chg (a c : Nat)
deriving DecidableEq
def Ed.vs : Ed → List V
  | .put a c => [.str "put", .int (a : Nat), .str (S [c])]
  | .lost a => [.str "lost", .int (a : Nat)]
  | .chg a c => [.str "changed", .int (a : Nat), .str (S [c])]
def Ed.ok : Ed → Bool
  | .put _ c => sg c
  | .lost _ => true
  | .chg _ c => sg c
/-- the text behind an edit -/
def doE (t : List Nat) : Ed → Option (List Nat)
  | .put a c => if a ≤ t.length ∧ t.length < 200000 then some (t.take a ++ [c] ++ t.drop a) else none
  | .lost a => if a < t.length then some (t.take a ++ t.drop (a + 1)) else none
  | .chg a c => if a < t.length ∧ t.getD a 0 ≠ c then some (t.take a ++ [c] ++ t.drop (a + 1)) else none
def optS : Option (List Nat) → V
  | some l => .str (S l)
  | none => .non
theorem within0 (a : Nat) : withinV (.int (a : Nat)) (some 0) none = true := by
  show (decide ((0 : Int) ≤ (a : Int)) && true) = true
  rw [decide_eq_true (by omega)]
  rfl
/-- what is no edit -/
inductive BadE (K : PySem.W.Frag) (H : Hp) : V → Prop
  | kind {v : V} {n : String} : TyX K H v (.type n) → PySem.W.kitAny K (.type n) [.type "list", .type "tuple"] = some false → BadE K H v
  | size {p : Addr} {xs : List V} : SqQ K H p xs → xs.length ≠ 2 → xs.length ≠ 3 → BadE K H (.ref p)
  | word {p : Addr} {i : Int} {v : V} {r : List V} : SqQ K H p (.int i :: v :: r) → r.length ≤ 1 → BadE K H (.ref p)
  | place {p : Addr} {s : Str} {v : V} {r : List V} : SqQ K H p (.str s :: v :: r) → r.length ≤ 1 → HasInt K H v → withinV v (some 0) none = false → BadE K H (.ref p)
  | three {p : Addr} {a : Nat} {z : V} : SqQ K H p [.str "lost", .int (a : Nat), z] → BadE K H (.ref p)
  | two {p : Addr} {s : Str} {a : Nat} : SqQ K H p [.str s, .int (a : Nat)] → (s = "put" ∨ s = "changed" ∨ s = "gone") → BadE K H (.ref p)
  | other {p : Addr} {a : Nat} {z : V} : SqQ K H p [.str "Put", .int (a : Nat), z] → BadE K H (.ref p)
  | sign {p : Addr} {s : Str} {a : Nat} {z : V} {o : Option (List Nat)} : SqQ K H p [.str s, .int (a : Nat), z] → (s = "put" ∨ s = "changed") → StrIs K H z o → o.elim false signB = false → BadE K H (.ref p)
theorem BadE.same {H H' : Hp} {v : V} (e : Same H H') (h : BadE K H v) : BadE K H' v := by
  cases h with
  | kind h1 h2 => exact .kind (tyx_same e h1) h2
  | size h1 h2 h3 => exact .size (Same.q e h1) h2 h3
  | word h1 h2 => exact .word (Same.q e h1) h2
  | place h1 h2 h3 h4 => exact .place (Same.q e h1) h2 (h3.same e) h4
  | three h1 => exact .three (Same.q e h1)
  | two h1 h2 => exact .two (Same.q e h1) h2
  | other h1 => exact .other (Same.q e h1)
  | sign h1 h2 h3 h4 => exact .sign (Same.q e h1) h2 (h3.same e) h4
theorem cutTr {b : Bool} {A B : Prop} (h : b = true) (k : A) : if b = true then A else B := by
  rw [h]
  exact iteT (B := _) k
theorem kit_int_str : kitB "int" "str" = some false := by decide +kernel
def sp_is_edit (K : PySem.W.Frag) : Sp := fun vs H Q _ => ∃ v : V, vs = [v] ∧ ((∃ (p : Addr) (e : Ed), v = .ref p ∧ SqQ K H p e.vs ∧ e.ok = true ∧ ∀ H', Same H H' → Q (.bl true) H') ∨ (BadE K H v ∧ ∀ H', Same H H' → Q (.bl false) H'))
theorem ok_is_edit : FnOk P w K mg base CX0 3 T.f_is_edit T.fd_is_edit ["value"] (sp_is_edit K) := by
  refine T.F_is_edit.ok sc_is_edit (fun vs H Q E h => ?_) (fun cdv A outer s H vs Q E hr h => ?_)
  · obtain ⟨v, rfl, _⟩ := h
    rfl
  · obtain ⟨v, rfl, h⟩ := h
    refine ⟨_, (pss_cons (ps_if (PW.pt (pw_or (pt_not (pt_val (pe_call (ok_is_list T) (hr.mono (by decide)) (by rfl) T.g_is_list T.F_is_list.kp T.b_is_list .nil pass0 (pa_cons (pv 0) pa_nil)))) (pw_or1 (pt_cmpR op_notIn_seq (pe_callB call_len_seq (by rfl) T.m_len PySem.boot_len (pa_cons (pv 0) pa_nil)) (pe_tup (pa_cons pe_int (pa_cons pe_int pa_nil))) rfl))))
      (pss_one (ps_ret pe_bl))
      pss_nil)
    (pss_cons (ps_if (PW.pt (pw_or (pt_not (pt_val (pe_callB call_isi (by rfl) T.m_isinstance (by decide +kernel) (pa_cons (pe_ix ix_seq (pv 0) pe_int (fun _ _ => rfl)) (pa_cons (pe_bltn (v := .ty "str") (by rfl) T.m_str (by decide +kernel) rfl) pa_nil))))) (pw_or1 (pt_not (pt_val (pe_call (ok_is_within T) (hr.mono (by decide)) (by rfl) T.g_is_within T.F_is_within.kp T.b_is_within .nil pass0 (pa_cons (pe_ix ix_seq (pv 0) pe_int (fun _ _ => rfl)) (pa_cons pe_int (pa_cons pe_non pa_nil)))))))))
      (pss_one (ps_ret pe_bl))
      pss_nil)
    (pss_cons (ps_if (pt_cmpR op_eq (pe_ix ix_seq (pv 0) pe_int (fun _ _ => rfl)) pe_str (nomark _))
      (pss_one (ps_ret (pe_cmpR op_eq (pe_callB call_len_seq (by rfl) T.m_len PySem.boot_len (pa_cons (pv 0) pa_nil)) pe_int (nomark _))))
      pss_nil)
    (pss_one (ps_ret (pe_and (pe_cmpR op_in_seq (pe_ix ix_seq (pv 0) pe_int (fun _ _ => rfl)) (pe_tup (pa_cons pe_str (pa_cons pe_str pa_nil))) rfl) (pe_and (pe_cmpR op_eq (pe_callB call_len_seq (by rfl) T.m_len PySem.boot_len (pa_cons (pv 0) pa_nil)) pe_int (nomark _)) (pe_one (pe_call (ok_is_sign T) (hr.mono (by decide)) (by rfl) T.g_is_sign T.F_is_sign.kp T.b_is_sign .nil pass0 (pa_cons (pe_ix ix_seq (pv 0) pe_int (fun _ _ => rfl)) pa_nil)))))))))), ?_⟩
    rcases h with ⟨p, e, rfl, hq, ho, q⟩ | ⟨hb, q⟩
    ·
      obtain ⟨n, ht, hk⟩ := isl_q hq
      refine go_seq (go_if (go_or2 (go_not (go_b ⟨_, rfl, _, n, true, rfl, ht, hk, fun H1 e1 => ⟨_, rfl, iteF (A := _) ?_⟩⟩))))
      have hq1 := Same.q e1 hq
      refine go_test (go_op (go_cb (go_cons (go_var rfl (go_nil ⟨p, _, rfl, hq1, ?_⟩)))))
      refine go_tup (go_cons (go_c (go_cons (go_c (go_nil ⟨sz2, fun u nu => ?_⟩)))))
      have x1 := same_new (o := HO.tup [V.int 2, V.int 3]) nu
      have e2 := e1.trans x1
      have hu : upd H1 u (HO.tup [V.int 2, V.int 3]) u = some (.tup [V.int 2, V.int 3]) := upd_same
      have hq2 := Same.q x1 hq1
      generalize upd H1 u (HO.tup [V.int 2, V.int 3]) = H2 at e2 hu hq2 ⊢
      clear x1 hq1 hq ht hk e1 nu
      cases e with
      | put a c =>
        refine ⟨u, _, rfl, .inr (.inl (.inl hu)), rfl, rfl, _, rfl, iteF (A := _) ?_⟩
        dsimp only [tNext]
        refine go_seq (go_if (go_or2 (go_not (go_b ⟨_, rfl, ix_q hq2 (v := .str "put") rfl ⟨_, _, _, _, true, rfl, .ty _, .base (.str _), kit_ty kit_str, _, rfl, iteF (A := _) ?_⟩⟩))))
        refine go_not (go_b ⟨_, rfl, ix_q hq2 (v := .int (a : Nat)) rfl ⟨_, some 0, none, rfl, hasInt_int _, ?_⟩⟩)
        rw [within0]
        refine ⟨_, rfl, iteF (A := _) ?_⟩
        dsimp only [tNext]
        refine go_seq (go_if (go_test ⟨_, rfl, ix_q hq2 (v := .str "put") rfl ⟨rfl, _, rfl, iteF (A := _) ?_⟩⟩))
        dsimp only [tNext]
        refine go_ret (go_and (go_op ⟨_, rfl, ix_q hq2 (v := .str "put") rfl (go_tup (go_cons (go_c (go_cons (go_c (go_nil ⟨sz2, fun u2 nu2 => ?_⟩))))))⟩))
        have x2 := same_new (o := HO.tup [V.str "put", V.str "changed"]) nu2
        refine ⟨u2, _, rfl, .inr (.inl (.inl upd_same)), rfl, rfl, _, rfl, iteT (B := _) ?_⟩
        refine go_and (go_op (go_cb (go_cons (go_var rfl (go_nil ⟨p, _, rfl, Same.q x2 hq2, go_c ⟨rfl, _, rfl, iteT (B := _) ?_⟩⟩)))))
        refine ⟨_, rfl, ix_q (Same.q x2 hq2) (v := .str (S [c])) rfl ⟨_, some [c], rfl, ⟨rfl, show 1 ≤ 1000000 by decide⟩, ?_⟩⟩
        have : (some [c]).elim false signB = true := by
          show (decide (1 = 1) && ([c].all sg)) = true
          have : sg c = true := ho
          simp [this]
        rw [this]
        exact q _ (e2.trans x2)
      | lost a =>
        refine ⟨u, _, rfl, .inr (.inl (.inl hu)), rfl, rfl, _, rfl, iteF (A := _) ?_⟩
        dsimp only [tNext]
        refine go_seq (go_if (go_or2 (go_not (go_b ⟨_, rfl, ix_q hq2 (v := .str "lost") rfl ⟨_, _, _, _, true, rfl, .ty _, .base (.str _), kit_ty kit_str, _, rfl, iteF (A := _) ?_⟩⟩))))
        refine go_not (go_b ⟨_, rfl, ix_q hq2 (v := .int (a : Nat)) rfl ⟨_, some 0, none, rfl, hasInt_int _, ?_⟩⟩)
        rw [within0]
        refine ⟨_, rfl, iteF (A := _) ?_⟩
        dsimp only [tNext]
        refine go_seq (go_if (go_test ⟨_, rfl, ix_q hq2 (v := .str "lost") rfl ⟨rfl, _, rfl, iteT (B := _) ?_⟩⟩))
        refine go_ret (go_op (go_cb (go_cons (go_var rfl (go_nil ⟨p, _, rfl, hq2, go_c ⟨rfl, ?_⟩⟩)))))
        exact q _ e2
      | chg a c =>
        refine ⟨u, _, rfl, .inr (.inl (.inl hu)), rfl, rfl, _, rfl, iteF (A := _) ?_⟩
        dsimp only [tNext]
        refine go_seq (go_if (go_or2 (go_not (go_b ⟨_, rfl, ix_q hq2 (v := .str "changed") rfl ⟨_, _, _, _, true, rfl, .ty _, .base (.str _), kit_ty kit_str, _, rfl, iteF (A := _) ?_⟩⟩))))
        refine go_not (go_b ⟨_, rfl, ix_q hq2 (v := .int (a : Nat)) rfl ⟨_, some 0, none, rfl, hasInt_int _, ?_⟩⟩)
        rw [within0]
        refine ⟨_, rfl, iteF (A := _) ?_⟩
        dsimp only [tNext]
        refine go_seq (go_if (go_test ⟨_, rfl, ix_q hq2 (v := .str "changed") rfl ⟨rfl, _, rfl, iteF (A := _) ?_⟩⟩))
        dsimp only [tNext]
        refine go_ret (go_and (go_op ⟨_, rfl, ix_q hq2 (v := .str "changed") rfl (go_tup (go_cons (go_c (go_cons (go_c (go_nil ⟨sz2, fun u2 nu2 => ?_⟩))))))⟩))
        have x2 := same_new (o := HO.tup [V.str "put", V.str "changed"]) nu2
        refine ⟨u2, _, rfl, .inr (.inl (.inl upd_same)), rfl, rfl, _, rfl, iteT (B := _) ?_⟩
        refine go_and (go_op (go_cb (go_cons (go_var rfl (go_nil ⟨p, _, rfl, Same.q x2 hq2, go_c ⟨rfl, _, rfl, iteT (B := _) ?_⟩⟩)))))
        refine ⟨_, rfl, ix_q (Same.q x2 hq2) (v := .str (S [c])) rfl ⟨_, some [c], rfl, ⟨rfl, show 1 ≤ 1000000 by decide⟩, ?_⟩⟩
        have : (some [c]).elim false signB = true := by
          show (decide (1 = 1) && ([c].all sg)) = true
          have : sg c = true := ho
          simp [this]
        rw [this]
        exact q _ (e2.trans x2)
    · cases hb with
      | kind ht hk =>
        exact go_seq (go_if (go_or2 (go_not (go_b ⟨_, rfl, _, _, false, rfl, ht, hk, fun H1 e1 => ⟨_, rfl, iteT (B := _) (iteT (B := _) (go_ret (q H1 e1)))⟩⟩))))
      | @size p xs hq l2 l3 =>
      obtain ⟨n, ht, hk⟩ := isl_q hq
      refine go_seq (go_if (go_or2 (go_not (go_b ⟨_, rfl, _, n, true, rfl, ht, hk, fun H1 e1 => ⟨_, rfl, iteF (A := _) ?_⟩⟩))))
      have hq1 := Same.q e1 hq
      refine go_test (go_op (go_cb (go_cons (go_var rfl (go_nil ⟨_, _, rfl, hq1, ?_⟩)))))
      refine go_tup (go_cons (go_c (go_cons (go_c (go_nil ⟨sz2, fun u nu => ?_⟩)))))
      have x1 := same_new (o := HO.tup [V.int 2, V.int 3]) nu
      have e2 := e1.trans x1
      have hu : upd H1 u (HO.tup [V.int 2, V.int 3]) u = some (.tup [V.int 2, V.int 3]) := upd_same
      have hq2 := Same.q x1 hq1
      generalize upd H1 u (HO.tup [V.int 2, V.int 3]) = H2 at e2 hu hq2 ⊢
      have q2 := q H2 e2
      clear x1 hq1 hq ht hk e1 nu
      refine ⟨u, _, rfl, .inr (.inl (.inl hu)), rfl, rfl, _, rfl, ?_⟩
      have : (!inV (V.int (xs.length : Nat)) [V.int 2, V.int 3]) = true := by
        have h2 : eqV (V.int 2) (V.int (xs.length : Nat)) = false := by
          show ((2 : Int) == (xs.length : Int)) = false
          simp
          omega
        have h3 : eqV (V.int 3) (V.int (xs.length : Nat)) = false := by
          show ((3 : Int) == (xs.length : Int)) = false
          simp
          omega
        show (!(eqV (V.int 2) (V.int (xs.length : Nat)) || (eqV (V.int 3) (V.int (xs.length : Nat)) || false))) = true
        rw [h2, h3]
        rfl
      exact cutTr this (go_ret q2)
      | @word p i v r hq lr =>
      obtain ⟨n, ht, hk⟩ := isl_q hq
      refine go_seq (go_if (go_or2 (go_not (go_b ⟨_, rfl, _, n, true, rfl, ht, hk, fun H1 e1 => ⟨_, rfl, iteF (A := _) ?_⟩⟩))))
      have hq1 := Same.q e1 hq
      refine go_test (go_op (go_cb (go_cons (go_var rfl (go_nil ⟨_, _, rfl, hq1, ?_⟩)))))
      refine go_tup (go_cons (go_c (go_cons (go_c (go_nil ⟨sz2, fun u nu => ?_⟩)))))
      have x1 := same_new (o := HO.tup [V.int 2, V.int 3]) nu
      have e2 := e1.trans x1
      have hu : upd H1 u (HO.tup [V.int 2, V.int 3]) u = some (.tup [V.int 2, V.int 3]) := upd_same
      have hq2 := Same.q x1 hq1
      generalize upd H1 u (HO.tup [V.int 2, V.int 3]) = H2 at e2 hu hq2 ⊢
      have q2 := q H2 e2
      clear x1 hq1 hq ht hk e1 nu
      rcases r with _ | ⟨z, _ | ⟨z2, r2⟩⟩
      ·
        refine ⟨u, _, rfl, .inr (.inl (.inl hu)), rfl, rfl, _, rfl, iteF (A := _) ?_⟩
        dsimp only [tNext]
        exact go_seq (go_if (go_or2 (go_not (go_b ⟨_, rfl, ix_q hq2 (v := .int _) rfl ⟨_, _, _, _, false, rfl, .ty _, .base (.int _), kit_ty kit_int_str, _, rfl, iteT (B := _) (iteT (B := _) (go_ret q2))⟩⟩))))
      ·
        refine ⟨u, _, rfl, .inr (.inl (.inl hu)), rfl, rfl, _, rfl, iteF (A := _) ?_⟩
        dsimp only [tNext]
        exact go_seq (go_if (go_or2 (go_not (go_b ⟨_, rfl, ix_q hq2 (v := .int _) rfl ⟨_, _, _, _, false, rfl, .ty _, .base (.int _), kit_ty kit_int_str, _, rfl, iteT (B := _) (iteT (B := _) (go_ret q2))⟩⟩))))
      · simp at lr
      | @place p s v r hq lr hi hw =>
      obtain ⟨n, ht, hk⟩ := isl_q hq
      refine go_seq (go_if (go_or2 (go_not (go_b ⟨_, rfl, _, n, true, rfl, ht, hk, fun H1 e1 => ⟨_, rfl, iteF (A := _) ?_⟩⟩))))
      have hq1 := Same.q e1 hq
      refine go_test (go_op (go_cb (go_cons (go_var rfl (go_nil ⟨_, _, rfl, hq1, ?_⟩)))))
      refine go_tup (go_cons (go_c (go_cons (go_c (go_nil ⟨sz2, fun u nu => ?_⟩)))))
      have x1 := same_new (o := HO.tup [V.int 2, V.int 3]) nu
      have e2 := e1.trans x1
      have hu : upd H1 u (HO.tup [V.int 2, V.int 3]) u = some (.tup [V.int 2, V.int 3]) := upd_same
      have hq2 := Same.q x1 hq1
      generalize upd H1 u (HO.tup [V.int 2, V.int 3]) = H2 at e2 hu hq2 ⊢
      have hi := hi.same e2
      have q2 := q H2 e2
      clear x1 hq1 hq ht hk e1 nu
      rcases r with _ | ⟨z, _ | ⟨z2, r2⟩⟩
      ·
        refine ⟨u, _, rfl, .inr (.inl (.inl hu)), rfl, rfl, _, rfl, iteF (A := _) ?_⟩
        dsimp only [tNext]
        refine go_seq (go_if (go_or2 (go_not (go_b ⟨_, rfl, ix_q hq2 (v := .str s) rfl ⟨_, _, _, _, true, rfl, .ty _, .base (.str _), kit_ty kit_str, _, rfl, iteF (A := _) ?_⟩⟩))))
        refine go_not (go_b ⟨_, rfl, ix_q hq2 (v := v) rfl ⟨_, some 0, none, rfl, hi, ?_⟩⟩)
        rw [hw]
        exact ⟨_, rfl, iteT (B := _) (go_ret q2)⟩
      ·
        refine ⟨u, _, rfl, .inr (.inl (.inl hu)), rfl, rfl, _, rfl, iteF (A := _) ?_⟩
        dsimp only [tNext]
        refine go_seq (go_if (go_or2 (go_not (go_b ⟨_, rfl, ix_q hq2 (v := .str s) rfl ⟨_, _, _, _, true, rfl, .ty _, .base (.str _), kit_ty kit_str, _, rfl, iteF (A := _) ?_⟩⟩))))
        refine go_not (go_b ⟨_, rfl, ix_q hq2 (v := v) rfl ⟨_, some 0, none, rfl, hi, ?_⟩⟩)
        rw [hw]
        exact ⟨_, rfl, iteT (B := _) (go_ret q2)⟩
      · simp at lr
      | @three p a z hq =>
      obtain ⟨n, ht, hk⟩ := isl_q hq
      refine go_seq (go_if (go_or2 (go_not (go_b ⟨_, rfl, _, n, true, rfl, ht, hk, fun H1 e1 => ⟨_, rfl, iteF (A := _) ?_⟩⟩))))
      have hq1 := Same.q e1 hq
      refine go_test (go_op (go_cb (go_cons (go_var rfl (go_nil ⟨_, _, rfl, hq1, ?_⟩)))))
      refine go_tup (go_cons (go_c (go_cons (go_c (go_nil ⟨sz2, fun u nu => ?_⟩)))))
      have x1 := same_new (o := HO.tup [V.int 2, V.int 3]) nu
      have e2 := e1.trans x1
      have hu : upd H1 u (HO.tup [V.int 2, V.int 3]) u = some (.tup [V.int 2, V.int 3]) := upd_same
      have hq2 := Same.q x1 hq1
      generalize upd H1 u (HO.tup [V.int 2, V.int 3]) = H2 at e2 hu hq2 ⊢
      have q2 := q H2 e2
      clear x1 hq1 hq ht hk e1 nu
      refine ⟨u, _, rfl, .inr (.inl (.inl hu)), rfl, rfl, _, rfl, iteF (A := _) ?_⟩
      dsimp only [tNext]
      refine go_seq (go_if (go_or2 (go_not (go_b ⟨_, rfl, ix_q hq2 (v := .str "lost") rfl ⟨_, _, _, _, true, rfl, .ty _, .base (.str _), kit_ty kit_str, _, rfl, iteF (A := _) ?_⟩⟩))))
      refine go_not (go_b ⟨_, rfl, ix_q hq2 (v := .int (a : Nat)) rfl ⟨_, some 0, none, rfl, hasInt_int _, ?_⟩⟩)
      rw [within0]
      refine ⟨_, rfl, iteF (A := _) ?_⟩
      dsimp only [tNext]
      refine go_seq (go_if (go_test ⟨_, rfl, ix_q hq2 (v := .str "lost") rfl ⟨rfl, _, rfl, iteT (B := _) ?_⟩⟩))
      refine go_ret (go_op (go_cb (go_cons (go_var rfl (go_nil ⟨_, _, rfl, hq2, go_c ⟨rfl, ?_⟩⟩)))))
      exact q2
      | @two p s a hq hs =>
      obtain ⟨n, ht, hk⟩ := isl_q hq
      refine go_seq (go_if (go_or2 (go_not (go_b ⟨_, rfl, _, n, true, rfl, ht, hk, fun H1 e1 => ⟨_, rfl, iteF (A := _) ?_⟩⟩))))
      have hq1 := Same.q e1 hq
      refine go_test (go_op (go_cb (go_cons (go_var rfl (go_nil ⟨_, _, rfl, hq1, ?_⟩)))))
      refine go_tup (go_cons (go_c (go_cons (go_c (go_nil ⟨sz2, fun u nu => ?_⟩)))))
      have x1 := same_new (o := HO.tup [V.int 2, V.int 3]) nu
      have e2 := e1.trans x1
      have hu : upd H1 u (HO.tup [V.int 2, V.int 3]) u = some (.tup [V.int 2, V.int 3]) := upd_same
      have hq2 := Same.q x1 hq1
      generalize upd H1 u (HO.tup [V.int 2, V.int 3]) = H2 at e2 hu hq2 ⊢
      have q2 := q H2 e2
      clear x1 hq1 hq ht hk e1 nu
      refine ⟨u, _, rfl, .inr (.inl (.inl hu)), rfl, rfl, _, rfl, iteF (A := _) ?_⟩
      dsimp only [tNext]
      rcases hs with rfl | rfl | rfl
      ·
        refine go_seq (go_if (go_or2 (go_not (go_b ⟨_, rfl, ix_q hq2 (v := .str "put") rfl ⟨_, _, _, _, true, rfl, .ty _, .base (.str _), kit_ty kit_str, _, rfl, iteF (A := _) ?_⟩⟩))))
        refine go_not (go_b ⟨_, rfl, ix_q hq2 (v := .int (a : Nat)) rfl ⟨_, some 0, none, rfl, hasInt_int _, ?_⟩⟩)
        rw [within0]
        refine ⟨_, rfl, iteF (A := _) ?_⟩
        dsimp only [tNext]
        refine go_seq (go_if (go_test ⟨_, rfl, ix_q hq2 (v := .str "put") rfl ⟨rfl, _, rfl, iteF (A := _) ?_⟩⟩))
        dsimp only [tNext]
        refine go_ret (go_and (go_op ⟨_, rfl, ix_q hq2 (v := .str "put") rfl (go_tup (go_cons (go_c (go_cons (go_c (go_nil ⟨sz2, fun u2 nu2 => ?_⟩))))))⟩))
        have x2 := same_new (o := HO.tup [V.str "put", V.str "changed"]) nu2
        refine ⟨u2, _, rfl, .inr (.inl (.inl upd_same)), rfl, rfl, _, rfl, iteT (B := _) ?_⟩
        refine go_and (go_op (go_cb (go_cons (go_var rfl (go_nil ⟨_, _, rfl, Same.q x2 hq2, go_c ⟨rfl, _, rfl, iteF (A := _) ?_⟩⟩)))))
        exact q _ (e2.trans x2)
      ·
        refine go_seq (go_if (go_or2 (go_not (go_b ⟨_, rfl, ix_q hq2 (v := .str "changed") rfl ⟨_, _, _, _, true, rfl, .ty _, .base (.str _), kit_ty kit_str, _, rfl, iteF (A := _) ?_⟩⟩))))
        refine go_not (go_b ⟨_, rfl, ix_q hq2 (v := .int (a : Nat)) rfl ⟨_, some 0, none, rfl, hasInt_int _, ?_⟩⟩)
        rw [within0]
        refine ⟨_, rfl, iteF (A := _) ?_⟩
        dsimp only [tNext]
        refine go_seq (go_if (go_test ⟨_, rfl, ix_q hq2 (v := .str "changed") rfl ⟨rfl, _, rfl, iteF (A := _) ?_⟩⟩))
        dsimp only [tNext]
        refine go_ret (go_and (go_op ⟨_, rfl, ix_q hq2 (v := .str "changed") rfl (go_tup (go_cons (go_c (go_cons (go_c (go_nil ⟨sz2, fun u2 nu2 => ?_⟩))))))⟩))
        have x2 := same_new (o := HO.tup [V.str "put", V.str "changed"]) nu2
        refine ⟨u2, _, rfl, .inr (.inl (.inl upd_same)), rfl, rfl, _, rfl, iteT (B := _) ?_⟩
        refine go_and (go_op (go_cb (go_cons (go_var rfl (go_nil ⟨_, _, rfl, Same.q x2 hq2, go_c ⟨rfl, _, rfl, iteF (A := _) ?_⟩⟩)))))
        exact q _ (e2.trans x2)
      ·
        refine go_seq (go_if (go_or2 (go_not (go_b ⟨_, rfl, ix_q hq2 (v := .str "gone") rfl ⟨_, _, _, _, true, rfl, .ty _, .base (.str _), kit_ty kit_str, _, rfl, iteF (A := _) ?_⟩⟩))))
        refine go_not (go_b ⟨_, rfl, ix_q hq2 (v := .int (a : Nat)) rfl ⟨_, some 0, none, rfl, hasInt_int _, ?_⟩⟩)
        rw [within0]
        refine ⟨_, rfl, iteF (A := _) ?_⟩
        dsimp only [tNext]
        refine go_seq (go_if (go_test ⟨_, rfl, ix_q hq2 (v := .str "gone") rfl ⟨rfl, _, rfl, iteF (A := _) ?_⟩⟩))
        dsimp only [tNext]
        refine go_ret (go_and (go_op ⟨_, rfl, ix_q hq2 (v := .str "gone") rfl (go_tup (go_cons (go_c (go_cons (go_c (go_nil ⟨sz2, fun u2 nu2 => ?_⟩))))))⟩))
        have x2 := same_new (o := HO.tup [V.str "put", V.str "changed"]) nu2
        refine ⟨u2, _, rfl, .inr (.inl (.inl upd_same)), rfl, rfl, _, rfl, iteF (A := _) ?_⟩
        exact q _ (e2.trans x2)
      | @other p a z hq =>
      obtain ⟨n, ht, hk⟩ := isl_q hq
      refine go_seq (go_if (go_or2 (go_not (go_b ⟨_, rfl, _, n, true, rfl, ht, hk, fun H1 e1 => ⟨_, rfl, iteF (A := _) ?_⟩⟩))))
      have hq1 := Same.q e1 hq
      refine go_test (go_op (go_cb (go_cons (go_var rfl (go_nil ⟨_, _, rfl, hq1, ?_⟩)))))
      refine go_tup (go_cons (go_c (go_cons (go_c (go_nil ⟨sz2, fun u nu => ?_⟩)))))
      have x1 := same_new (o := HO.tup [V.int 2, V.int 3]) nu
      have e2 := e1.trans x1
      have hu : upd H1 u (HO.tup [V.int 2, V.int 3]) u = some (.tup [V.int 2, V.int 3]) := upd_same
      have hq2 := Same.q x1 hq1
      generalize upd H1 u (HO.tup [V.int 2, V.int 3]) = H2 at e2 hu hq2 ⊢
      have q2 := q H2 e2
      clear x1 hq1 hq ht hk e1 nu
      refine ⟨u, _, rfl, .inr (.inl (.inl hu)), rfl, rfl, _, rfl, iteF (A := _) ?_⟩
      dsimp only [tNext]
      refine go_seq (go_if (go_or2 (go_not (go_b ⟨_, rfl, ix_q hq2 (v := .str "Put") rfl ⟨_, _, _, _, true, rfl, .ty _, .base (.str _), kit_ty kit_str, _, rfl, iteF (A := _) ?_⟩⟩))))
      refine go_not (go_b ⟨_, rfl, ix_q hq2 (v := .int (a : Nat)) rfl ⟨_, some 0, none, rfl, hasInt_int _, ?_⟩⟩)
      rw [within0]
      refine ⟨_, rfl, iteF (A := _) ?_⟩
      dsimp only [tNext]
      refine go_seq (go_if (go_test ⟨_, rfl, ix_q hq2 (v := .str "Put") rfl ⟨rfl, _, rfl, iteF (A := _) ?_⟩⟩))
      dsimp only [tNext]
      refine go_ret (go_and (go_op ⟨_, rfl, ix_q hq2 (v := .str "Put") rfl (go_tup (go_cons (go_c (go_cons (go_c (go_nil ⟨sz2, fun u2 nu2 => ?_⟩))))))⟩))
      have x2 := same_new (o := HO.tup [V.str "put", V.str "changed"]) nu2
      refine ⟨u2, _, rfl, .inr (.inl (.inl upd_same)), rfl, rfl, _, rfl, iteF (A := _) ?_⟩
      exact q _ (e2.trans x2)
      | @sign p s a z o hq hs hz ho =>
      obtain ⟨n, ht, hk⟩ := isl_q hq
      refine go_seq (go_if (go_or2 (go_not (go_b ⟨_, rfl, _, n, true, rfl, ht, hk, fun H1 e1 => ⟨_, rfl, iteF (A := _) ?_⟩⟩))))
      have hq1 := Same.q e1 hq
      refine go_test (go_op (go_cb (go_cons (go_var rfl (go_nil ⟨_, _, rfl, hq1, ?_⟩)))))
      refine go_tup (go_cons (go_c (go_cons (go_c (go_nil ⟨sz2, fun u nu => ?_⟩)))))
      have x1 := same_new (o := HO.tup [V.int 2, V.int 3]) nu
      have e2 := e1.trans x1
      have hu : upd H1 u (HO.tup [V.int 2, V.int 3]) u = some (.tup [V.int 2, V.int 3]) := upd_same
      have hq2 := Same.q x1 hq1
      generalize upd H1 u (HO.tup [V.int 2, V.int 3]) = H2 at e2 hu hq2 ⊢
      have hz := hz.same e2
      have q2 := q H2 e2
      clear x1 hq1 hq ht hk e1 nu
      refine ⟨u, _, rfl, .inr (.inl (.inl hu)), rfl, rfl, _, rfl, iteF (A := _) ?_⟩
      dsimp only [tNext]
      rcases hs with rfl | rfl
      ·
        refine go_seq (go_if (go_or2 (go_not (go_b ⟨_, rfl, ix_q hq2 (v := .str "put") rfl ⟨_, _, _, _, true, rfl, .ty _, .base (.str _), kit_ty kit_str, _, rfl, iteF (A := _) ?_⟩⟩))))
        refine go_not (go_b ⟨_, rfl, ix_q hq2 (v := .int (a : Nat)) rfl ⟨_, some 0, none, rfl, hasInt_int _, ?_⟩⟩)
        rw [within0]
        refine ⟨_, rfl, iteF (A := _) ?_⟩
        dsimp only [tNext]
        refine go_seq (go_if (go_test ⟨_, rfl, ix_q hq2 (v := .str "put") rfl ⟨rfl, _, rfl, iteF (A := _) ?_⟩⟩))
        dsimp only [tNext]
        refine go_ret (go_and (go_op ⟨_, rfl, ix_q hq2 (v := .str "put") rfl (go_tup (go_cons (go_c (go_cons (go_c (go_nil ⟨sz2, fun u2 nu2 => ?_⟩))))))⟩))
        have x2 := same_new (o := HO.tup [V.str "put", V.str "changed"]) nu2
        refine ⟨u2, _, rfl, .inr (.inl (.inl upd_same)), rfl, rfl, _, rfl, iteT (B := _) ?_⟩
        refine go_and (go_op (go_cb (go_cons (go_var rfl (go_nil ⟨_, _, rfl, Same.q x2 hq2, go_c ⟨rfl, _, rfl, iteT (B := _) ?_⟩⟩)))))
        refine ⟨_, rfl, ix_q (Same.q x2 hq2) (v := z) rfl ⟨_, o, rfl, hz.same x2, ?_⟩⟩
        rw [ho]
        exact q _ (e2.trans x2)
      ·
        refine go_seq (go_if (go_or2 (go_not (go_b ⟨_, rfl, ix_q hq2 (v := .str "changed") rfl ⟨_, _, _, _, true, rfl, .ty _, .base (.str _), kit_ty kit_str, _, rfl, iteF (A := _) ?_⟩⟩))))
        refine go_not (go_b ⟨_, rfl, ix_q hq2 (v := .int (a : Nat)) rfl ⟨_, some 0, none, rfl, hasInt_int _, ?_⟩⟩)
        rw [within0]
        refine ⟨_, rfl, iteF (A := _) ?_⟩
        dsimp only [tNext]
        refine go_seq (go_if (go_test ⟨_, rfl, ix_q hq2 (v := .str "changed") rfl ⟨rfl, _, rfl, iteF (A := _) ?_⟩⟩))
        dsimp only [tNext]
        refine go_ret (go_and (go_op ⟨_, rfl, ix_q hq2 (v := .str "changed") rfl (go_tup (go_cons (go_c (go_cons (go_c (go_nil ⟨sz2, fun u2 nu2 => ?_⟩))))))⟩))
        have x2 := same_new (o := HO.tup [V.str "put", V.str "changed"]) nu2
        refine ⟨u2, _, rfl, .inr (.inl (.inl upd_same)), rfl, rfl, _, rfl, iteT (B := _) ?_⟩
        refine go_and (go_op (go_cb (go_cons (go_var rfl (go_nil ⟨_, _, rfl, Same.q x2 hq2, go_c ⟨rfl, _, rfl, iteT (B := _) ?_⟩⟩)))))
        refine ⟨_, rfl, ix_q (Same.q x2 hq2) (v := z) rfl ⟨_, o, rfl, hz.same x2, ?_⟩⟩
        rw [ho]
        exact q _ (e2.trans x2)
theorem S_app (a b : List Nat) : (S a ++ S b : Str) = S (a ++ b) := by
  show (⟨_⟩ : Str) = _
  simp [S]
theorem cut2 {a b c : List Nat} {r : Str} (h : r = S (a ++ b ++ c)) : r = S (a ++ b ++ c) := h
theorem sgetD {l : List Nat} {a : Nat} (h : a < l.length) : atI (S l).cps.toList (a : Int) = some (l.getD a 0) := by
  have e0 : (S l).cps.toList = l := by simp [S]
  rw [e0, at_nat h, List.getD_eq_getElem?_getD, List.getElem?_eq_getElem h]
  rfl
theorem len_le {l : List Nat} (h : l.length ≤ 200000) : (S l).length ≤ sizeLine := by
  rw [S_len]
  exact Nat.le_trans h (by decide)
theorem app_le {a b : List Nat} (h : a.length + b.length ≤ 400000) : (S a).length + (S b).length ≤ sizeLine := by
  rw [S_len, S_len]
  exact Nat.le_trans h (by decide)
theorem cut_toN (l : List Nat) (a : Nat) : Txt.slice (S l) none (some (a : Int)) = S (l.take a) := slice_toS l a
theorem cut_fromN (l : List Nat) (a : Nat) : Txt.slice (S l) (some (a : Int)) none = S (l.drop a) := slice_fromS l a
theorem cut_fromN1 (l : List Nat) (a : Nat) : Txt.slice (S l) (some ((a : Int) + 1)) none = S (l.drop (a + 1)) := slice_fromS l (a + 1)
def sp_left_by_edit (K : PySem.W.Frag) : Sp := fun vs H Q _ => ∃ (t : List Nat) (v : V), vs = [.str (S t), v] ∧ t.length ≤ 200000 ∧ ((∃ (p : Addr) (e : Ed), v = .ref p ∧ SqQ K H p e.vs ∧ e.ok = true ∧ ∀ H', Same H H' → Q (optS (doE t e)) H') ∨ (BadE K H v ∧ ∀ H', Same H H' → Q .non H'))
theorem ok_left_by_edit : FnOk P w K mg base CX0 4 T.f_left_by_edit T.fd_left_by_edit ["text", "edit"] (sp_left_by_edit K) := by
  refine T.F_left_by_edit.ok sc_left_by_edit (fun vs H Q E h => ?_) (fun cdv A outer s H vs Q E hr h => ?_)
  · obtain ⟨t, v, rfl, _⟩ := h
    rfl
  · obtain ⟨t, v, rfl, hl, h⟩ := h
    refine ⟨_, (pss_cons (ps_if (pt_not (pt_val (pe_call (ok_is_edit T) (hr.mono (by decide)) (by rfl) T.g_is_edit T.F_is_edit.kp T.b_is_edit .nil pass0 (pa_cons (pv 1) pa_nil))))
      (pss_one (ps_ret pe_non))
      pss_nil)
    (pss_cons (ps_set (i := 2) sc_left_by_edit.nd rfl (.inl rfl) (pe_ix ix_seq (pv 1) pe_int (fun _ _ => rfl)))
    (pss_cons (ps_if (pt_cmpR op_eq (pe_ix ix_seq (pv 1) pe_int (fun _ _ => rfl)) pe_str (nomark _))
      (pss_cons (ps_if (PW.pt (pw_or (pt_cmpR op_gt (pv 2) (pe_callB call_len_str (by rfl) T.m_len PySem.boot_len (pa_cons (pv 0) pa_nil)) (nomark _)) (pw_or1 (pt_cmpR op_ge (pe_callB call_len_str (by rfl) T.m_len PySem.boot_len (pa_cons (pv 0) pa_nil)) (pe_glob (v := .int 200000) (by rfl) T.c_MOST_SIGNS ⟨_, rfl⟩) (nomark _)))))
        (pss_one (ps_ret pe_non))
        pss_nil)
      (pss_one (ps_ret (pe_op op_add_str (pe_op op_add_str (pe_slice C8.sl_txt (pv 0) po_none (po_some (pv 2))) (pe_ix ix_seq (pv 1) pe_int (fun _ _ => rfl))) (pe_slice C8.sl_txt (pv 0) (po_some (pv 2)) po_none)))))
      pss_nil)
    (pss_cons (ps_if (pt_cmpR op_ge (pv 2) (pe_callB call_len_str (by rfl) T.m_len PySem.boot_len (pa_cons (pv 0) pa_nil)) (nomark _))
      (pss_one (ps_ret pe_non))
      pss_nil)
    (pss_cons (ps_if (pt_cmpR op_eq (pe_ix ix_seq (pv 1) pe_int (fun _ _ => rfl)) pe_str (nomark _))
      (pss_one (ps_ret (pe_op op_add_str (pe_slice C8.sl_txt (pv 0) po_none (po_some (pv 2))) (pe_slice C8.sl_txt (pv 0) (po_some (pe_op op_add (pv 2) pe_int)) po_none))))
      pss_nil)
    (pss_cons (ps_if (pt_cmpR op_eq (pe_ix ix_str (pv 0) (pv 2) (fun _ _ => rfl)) (pe_ix ix_seq (pv 1) pe_int (fun _ _ => rfl)) (nomark _))
      (pss_one (ps_ret pe_non))
      pss_nil)
    (pss_one (ps_ret (pe_op op_add_str (pe_op op_add_str (pe_slice C8.sl_txt (pv 0) po_none (po_some (pv 2))) (pe_ix ix_seq (pv 1) pe_int (fun _ _ => rfl))) (pe_slice C8.sl_txt (pv 0) (po_some (pe_op op_add (pv 2) pe_int)) po_none)))))))))), ?_⟩
    rcases h with ⟨p, e, rfl, hq, ho, q⟩ | ⟨hb, q⟩
    case inr => exact go_seq (go_if (go_not (go_b ⟨_, rfl, v, rfl, .inr ⟨hb, fun H1 e1 => ⟨_, rfl, iteT (B := _) (go_ret (q H1 e1))⟩⟩⟩)))
    refine go_seq (go_if (go_not (go_b ⟨_, rfl, _, rfl, .inl ⟨p, e, rfl, hq, ho, fun H1 e1 => ⟨_, rfl, iteF (A := _) ?_⟩⟩⟩)))
    have hq1 := Same.q e1 hq
    have q1 := q H1 e1
    clear hq q
    dsimp only [tNext]
    cases e with
    | put a c =>
      refine go_seq (go_asg ⟨_, rfl, ix_q hq1 (v := .int (a : Nat)) rfl ?_⟩)
      dsimp only [gName]
      refine go_seq (go_if (go_test ⟨_, rfl, ix_q hq1 (v := .str "put") rfl ⟨rfl, _, rfl, iteT (B := _) ?_⟩⟩))
      have e1' : decide (((S t).length : Int) < (a : Int)) = !decide (a ≤ t.length) := by
        rw [S_len]
        by_cases h : a ≤ t.length
        · rw [decide_eq_true h, decide_eq_false (by omega)]
          rfl
        · rw [decide_eq_false h, decide_eq_true (by omega)]
          rfl
      refine go_seq (go_if (go_or2 (go_test (go_op (go_var rfl (go_cb (go_cons (go_var rfl (go_nil ⟨S t, rfl, len_le hl, _, _, rfl, rfl, _, rfl, ?_⟩)))))))))
      rw [e1']
      cases h : decide (a ≤ t.length) with
      | false =>
        have d : doE t (.put a c) = none := if_neg (fun z => of_decide_eq_false h z.1)
        rw [d] at q1
        exact iteT (B := _) (iteT (B := _) (go_ret q1))
      | true =>
        have h' := of_decide_eq_true h
        refine iteF (A := _) ?_
        refine go_test (go_op (go_cb (go_cons (go_var rfl (go_nil ⟨S t, rfl, len_le hl, _, _, rfl, rfl, _, rfl, ?_⟩)))))
        have e2' : decide ((200000 : Int) ≤ ((S t).length : Int)) = !decide (t.length < 200000) := by
          rw [S_len]
          by_cases h : t.length < 200000
          · rw [decide_eq_true h, decide_eq_false (by omega)]
            rfl
          · rw [decide_eq_false h, decide_eq_true (by omega)]
            rfl
        show if decide ((200000 : Int) ≤ ((S t).length : Int)) = true then _ else _
        rw [e2']
        cases h2 : decide (t.length < 200000) with
        | false =>
          have d : doE t (.put a c) = none := if_neg (fun z => of_decide_eq_false h2 z.2)
          rw [d] at q1
          exact iteT (B := _) (go_ret q1)
        | true =>
          have h2' := of_decide_eq_true h2
          have d : doE t (.put a c) = some (t.take a ++ [c] ++ t.drop a) := if_pos ⟨h', h2'⟩
          rw [d] at q1
          refine iteF (A := _) ?_
          dsimp only [tNext]
          refine go_ret (go_op (go_op ⟨_, rfl, _, rfl, (a : Int), rfl, S t, rfl, len_le hl, ?_⟩))
          rw [cut_toN]
          refine ⟨_, rfl, ix_q hq1 (v := .str (S [c])) rfl ⟨_, _, rfl, rfl, app_le (by rw [List.length_take]; show _ + 1 ≤ _; omega), ?_⟩⟩
          rw [S_app]
          refine ⟨_, rfl, _, rfl, (a : Int), rfl, S t, rfl, len_le hl, ?_⟩
          rw [cut_fromN]
          refine ⟨_, _, rfl, rfl, app_le (by rw [List.length_append, List.length_take, List.length_drop]; show _ + 1 + _ ≤ _; omega), ?_⟩
          rw [S_app]
          exact q1
    | lost a =>
      refine go_seq (go_asg ⟨_, rfl, ix_q hq1 (v := .int (a : Nat)) rfl ?_⟩)
      dsimp only [gName]
      refine go_seq (go_if (go_test ⟨_, rfl, ix_q hq1 (v := .str "lost") rfl ⟨rfl, _, rfl, iteF (A := _) ?_⟩⟩))
      dsimp only [tNext]
      have e1' : decide (((S t).length : Int) ≤ (a : Int)) = !decide (a < t.length) := by
        rw [S_len]
        by_cases h : a < t.length
        · rw [decide_eq_true h, decide_eq_false (by omega)]
          rfl
        · rw [decide_eq_false h, decide_eq_true (by omega)]
          rfl
      refine go_seq (go_if (go_test (go_op (go_var rfl (go_cb (go_cons (go_var rfl (go_nil ⟨S t, rfl, len_le hl, _, _, rfl, rfl, _, rfl, ?_⟩))))))))
      rw [e1']
      cases h : decide (a < t.length) with
      | false =>
        have d : doE t (.lost a) = none := if_neg (of_decide_eq_false h)
        rw [d] at q1
        exact iteT (B := _) (go_ret q1)
      | true =>
        have h' := of_decide_eq_true h
        have d : doE t (.lost a) = some (t.take a ++ t.drop (a + 1)) := if_pos h'
        rw [d] at q1
        refine iteF (A := _) ?_
        dsimp only [tNext]
        refine go_seq (go_if (go_test ⟨_, rfl, ix_q hq1 (v := .str "lost") rfl ⟨rfl, _, rfl, iteT (B := _) ?_⟩⟩))
        refine go_ret (go_op ⟨_, rfl, _, rfl, (a : Int), rfl, S t, rfl, len_le hl, ?_⟩)
        rw [cut_toN]
        refine ⟨_, rfl, _, rfl, (a : Int), 1, rfl, rfl, (a : Int) + 1, rfl, S t, rfl, len_le hl, ?_⟩
        rw [cut_fromN1]
        refine ⟨_, _, rfl, rfl, app_le (by rw [List.length_take, List.length_drop]; omega), ?_⟩
        rw [S_app]
        exact q1
    | chg a c =>
      refine go_seq (go_asg ⟨_, rfl, ix_q hq1 (v := .int (a : Nat)) rfl ?_⟩)
      dsimp only [gName]
      refine go_seq (go_if (go_test ⟨_, rfl, ix_q hq1 (v := .str "changed") rfl ⟨rfl, _, rfl, iteF (A := _) ?_⟩⟩))
      dsimp only [tNext]
      have e1' : decide (((S t).length : Int) ≤ (a : Int)) = !decide (a < t.length) := by
        rw [S_len]
        by_cases h : a < t.length
        · rw [decide_eq_true h, decide_eq_false (by omega)]
          rfl
        · rw [decide_eq_false h, decide_eq_true (by omega)]
          rfl
      refine go_seq (go_if (go_test (go_op (go_var rfl (go_cb (go_cons (go_var rfl (go_nil ⟨S t, rfl, len_le hl, _, _, rfl, rfl, _, rfl, ?_⟩))))))))
      rw [e1']
      cases h : decide (a < t.length) with
      | false =>
        have d : doE t (.chg a c) = none := if_neg (fun z => of_decide_eq_false h z.1)
        rw [d] at q1
        exact iteT (B := _) (go_ret q1)
      | true =>
        have h' := of_decide_eq_true h
        refine iteF (A := _) ?_
        dsimp only [tNext]
        refine go_seq (go_if (go_test ⟨_, rfl, ix_q hq1 (v := .str "changed") rfl ⟨rfl, _, rfl, iteF (A := _) ?_⟩⟩))
        dsimp only [tNext]
        refine go_seq (go_if (go_test ⟨_, rfl, _, rfl, S t, (a : Int), t.getD a 0, rfl, rfl, len_le hl, sgetD h', _, rfl, ix_q hq1 (v := .str (S [c])) rfl ⟨rfl, _, rfl, ?_⟩⟩))
        have e3 : decide (V.str ⟨#[t.getD a 0]⟩ = V.str (S [c])) = decide (t.getD a 0 = c) := by
          by_cases h : t.getD a 0 = c
          · rw [decide_eq_true h, decide_eq_true (by rw [h])]
          · rw [decide_eq_false h, decide_eq_false]
            intro z
            injection z with z
            have := congrArg (fun x : Str => x.cps.toList) z
            exact h (by simpa using this)
        rw [e3]
        by_cases h3 : t.getD a 0 = c
        · have d : doE t (.chg a c) = none := if_neg (fun z => z.2 h3)
          rw [d] at q1
          rw [decide_eq_true h3]
          exact iteT (B := _) (go_ret q1)
        · have d : doE t (.chg a c) = some (t.take a ++ [c] ++ t.drop (a + 1)) := if_pos ⟨h', h3⟩
          rw [d] at q1
          rw [decide_eq_false h3]
          refine iteF (A := _) ?_
          dsimp only [tNext]
          refine go_ret (go_op (go_op ⟨_, rfl, _, rfl, (a : Int), rfl, S t, rfl, len_le hl, ?_⟩))
          rw [cut_toN]
          refine ⟨_, rfl, ix_q hq1 (v := .str (S [c])) rfl ⟨_, _, rfl, rfl, app_le (by rw [List.length_take]; show _ + 1 ≤ _; omega), ?_⟩⟩
          rw [S_app]
          refine ⟨_, rfl, _, rfl, (a : Int), 1, rfl, rfl, (a : Int) + 1, rfl, S t, rfl, len_le hl, ?_⟩
          rw [cut_fromN1]
          refine ⟨_, _, rfl, rfl, app_le (by rw [List.length_append, List.length_take, List.length_drop]; show _ + 1 + _ ≤ _; omega), ?_⟩
          rw [S_app]
          exact q1
end
end K55
namespace K55
open PySem PySem.Spec PyProof.Rows L2 Kx SX LamX
def tx (l : List Nat) : V := .str (S l)
/-- edits done one behind another -/
inductive Path : List Nat → List Ed → List Nat → Prop
  | nil (t : List Nat) : Path t [] t
  | cons {t t' u : List Nat} {e : Ed} {r : List Ed} : doE t e = some t' → Path t' r u → Path t (e :: r) u
theorem Path.app {t c u : List Nat} {a b : List Ed} (h : Path t a c) (k : Path c b u) : Path t (a ++ b) u := by
  induction h with
  | nil => exact k
  | cons d _ ih => exact .cons d (ih k)
theorem Path.snoc {t c u : List Nat} {a : List Ed} {e : Ed} (h : Path t a c) (d : doE c e = some u) : Path t (a ++ [e]) u := h.app (.cons d (.nil u))
theorem Path.split {t u : List Nat} {es : List Ed} (i : Nat) (h : Path t es u) : ∃ c, Path t (es.take i) c ∧ Path c (es.drop i) u := by
  induction h generalizing i with
  | nil t => exact ⟨t, by rw [List.take_nil]; exact .nil t, by rw [List.drop_nil]; exact .nil t⟩
  | @cons t t' u e r d k ih =>
    cases i with
    | zero => exact ⟨t, .nil t, .cons d k⟩
    | succ i =>
      obtain ⟨c, h1, h2⟩ := ih i
      exact ⟨c, .cons d h1, h2⟩
theorem Path.det {t u v : List Nat} {es : List Ed} (h : Path t es u) (k : Path t es v) : u = v := by
  induction h with
  | nil =>
    cases k
    rfl
  | cons d _ ih =>
    cases k with
    | cons d' k' =>
      rw [d] at d'
      cases d'
      exact ih k'
theorem inv_put {t u : List Nat} {a c : Nat} (d : doE t (.put a c) = some u) : (a ≤ t.length ∧ t.length < 200000) ∧ u = t.take a ++ [c] ++ t.drop a := by
  by_cases h : a ≤ t.length ∧ t.length < 200000
  · have e : doE t (.put a c) = some _ := if_pos h
    rw [e] at d
    exact ⟨h, (Option.some.inj d).symm⟩
  · have e : doE t (.put a c) = none := if_neg h
    rw [e] at d
    cases d
theorem inv_lost {t u : List Nat} {a : Nat} (d : doE t (.lost a) = some u) : a < t.length ∧ u = t.take a ++ t.drop (a + 1) := by
  by_cases h : a < t.length
  · have e : doE t (.lost a) = some _ := if_pos h
    rw [e] at d
    exact ⟨h, (Option.some.inj d).symm⟩
  · have e : doE t (.lost a) = none := if_neg h
    rw [e] at d
    cases d
theorem inv_chg {t u : List Nat} {a c : Nat} (d : doE t (.chg a c) = some u) : (a < t.length ∧ t.getD a 0 ≠ c) ∧ u = t.take a ++ [c] ++ t.drop (a + 1) := by
  by_cases h : a < t.length ∧ t.getD a 0 ≠ c
  · have e : doE t (.chg a c) = some _ := if_pos h
    rw [e] at d
    exact ⟨h, (Option.some.inj d).symm⟩
  · have e : doE t (.chg a c) = none := if_neg h
    rw [e] at d
    cases d
theorem doE_len {t u : List Nat} {e : Ed} (d : doE t e = some u) : u.length ≤ t.length + 1 ∧ (t.length ≤ 200000 → u.length ≤ 200000) := by
  cases e with
  | put a c =>
    obtain ⟨h, rfl⟩ := inv_put d
    have : (t.take a ++ [c] ++ t.drop a).length = t.length + 1 := by simp; omega
    omega
  | lost a =>
    obtain ⟨h, rfl⟩ := inv_lost d
    have : (t.take a ++ t.drop (a + 1)).length = t.length - 1 := by simp; omega
    omega
  | chg a c =>
    obtain ⟨h, rfl⟩ := inv_chg d
    have : (t.take a ++ [c] ++ t.drop (a + 1)).length = t.length := by simp; omega
    omega
theorem Path.len {t u : List Nat} {es : List Ed} (h : Path t es u) : u.length ≤ t.length + es.length ∧ (t.length ≤ 200000 → u.length ≤ 200000) := by
  induction h with
  | nil t => exact ⟨Nat.le_refl _, fun h => h⟩
  | cons d _ ih =>
    have := doE_len d
    rw [List.length_cons]
    omega
def nxt (t : List Nat) (e : Ed) : List Nat := (doE t e).getD t
/-- the text and what each edit leaves -/
def trail (t : List Nat) : List Ed → List (List Nat)
  | [] => [t]
  | e :: r => t :: trail (nxt t e) r
theorem trail_len (t : List Nat) (es : List Ed) : (trail t es).length = es.length + 1 := by
  induction es generalizing t with
  | nil => rfl
  | cons e r ih =>
    show (trail (nxt t e) r).length + 1 = _
    rw [ih]
    rfl
theorem trail_snoc {t c : List Nat} {es : List Ed} (e : Ed) (h : Path t es c) : trail t (es ++ [e]) = trail t es ++ [nxt c e] := by
  induction h with
  | nil t => rfl
  | @cons t t' u f r d _ ih =>
    have : nxt t f = t' := by unfold nxt; rw [d]; rfl
    show t :: trail (nxt t f) (r ++ [e]) = t :: trail (nxt t f) r ++ [nxt u e]
    rw [this, ih]
    rfl
theorem trail_last {t c : List Nat} {es : List Ed} (h : Path t es c) : ∃ ini, trail t es = ini ++ [c] := by
  induction h with
  | nil t => exact ⟨[], rfl⟩
  | @cons t t' u f r d _ ih =>
    obtain ⟨ini, hi⟩ := ih
    have : nxt t f = t' := by unfold nxt; rw [d]; rfl
    exact ⟨t :: ini, by show t :: trail (nxt t f) r = _; rw [this, hi]; rfl⟩
theorem trail_at {t u : List Nat} {es : List Ed} {i : Nat} (hi : i ≤ es.length) (h : Path t es u) : ∃ c, (trail t es)[i]? = some c ∧ Path t (es.take i) c := by
  induction h generalizing i with
  | nil t =>
    obtain rfl : i = 0 := by simpa using hi
    exact ⟨t, rfl, .nil t⟩
  | @cons t t' u f r d _ ih =>
    cases i with
    | zero => exact ⟨t, rfl, .nil t⟩
    | succ i =>
      obtain ⟨c, h1, h2⟩ := ih (i := i) (by simpa using hi)
      have : nxt t f = t' := by unfold nxt; rw [d]; rfl
      refine ⟨c, ?_, .cons d h2⟩
      show (trail (nxt t f) r)[i]? = _
      rw [this]
      exact h1
def Stuck (t : List Nat) (es : List Ed) : Prop := ∃ i e c, es[i]? = some e ∧ Path t (es.take i) c ∧ doE c e = none
theorem Path.not {t u : List Nat} {es : List Ed} (h : Path t es u) (k : Stuck t es) : False := by
  obtain ⟨i, e, c, he, hp, hd⟩ := k
  obtain ⟨c', h1, h2⟩ := h.split i
  have hi := (List.getElem?_eq_some_iff.mp he).1
  rw [List.drop_eq_getElem_cons hi] at h2
  have : es[i] = e := (List.getElem?_eq_some_iff.mp he).2
  rw [this, ← hp.det h1] at h2
  cases h2 with
  | cons d _ =>
    rw [hd] at d
    cases d
def un (t : List Nat) : Ed → Ed
  | .put a _ => .lost a
  | .lost a => .put a (t.getD a 0)
  | .chg a _ => .chg a (t.getD a 0)
/-- the edits that lead back, the first one first -/
def backs (t : List Nat) : List Ed → List Ed
  | [] => []
  | e :: r => un t e :: backs (nxt t e) r
theorem backs_len (t : List Nat) (es : List Ed) : (backs t es).length = es.length := by
  induction es generalizing t with
  | nil => rfl
  | cons e r ih =>
    show (backs (nxt t e) r).length + 1 = _
    rw [ih]
    rfl
theorem backs_snoc {t c : List Nat} {es : List Ed} (e : Ed) (h : Path t es c) : backs t (es ++ [e]) = backs t es ++ [un c e] := by
  induction h with
  | nil t => rfl
  | @cons t t' u f r d _ ih =>
    have : nxt t f = t' := by unfold nxt; rw [d]; rfl
    show un t f :: backs (nxt t f) (r ++ [e]) = un t f :: backs (nxt t f) r ++ [un u e]
    rw [this, ih]
    rfl
theorem backs_at {t u c : List Nat} {es : List Ed} {i : Nat} {e : Ed} (h : Path t es u) (he : es[i]? = some e) (hc : Path t (es.take i) c) : (backs t es)[i]? = some (un c e) := by
  induction h generalizing i with
  | nil t => cases he
  | @cons t t' u f r d _ ih =>
    cases i with
    | zero =>
      cases he
      cases hc
      rfl
    | succ i =>
      have : nxt t f = t' := by unfold nxt; rw [d]; rfl
      cases hc with
      | cons d' hc' =>
        rw [d] at d'
        cases d'
        show (backs (nxt t f) r)[i]? = _
        rw [this]
        exact ih he hc'
/-- what is undone is there again -/
theorem undo_one {t u : List Nat} {e : Ed} (hl : t.length ≤ 200000) (d : doE t e = some u) : doE u (un t e) = some t ∧ un u (un t e) = e := by
  cases e with
  | put a c =>
    obtain ⟨h, rfl⟩ := inv_put d
    have h1 : (t.take a).length = a := by rw [List.length_take]; omega
    have e1 : (t.take a ++ [c] ++ t.drop a).take a = t.take a := by
      rw [List.append_assoc, List.take_append_of_le_length (by omega), List.take_of_length_le (by omega)]
    have e2 : (t.take a ++ [c] ++ t.drop a).drop (a + 1) = t.drop a := by
      rw [List.drop_append_of_le_length (by simp; omega)]
      rw [List.drop_of_length_le (by simp; omega)]
      rfl
    have e3 : (t.take a ++ [c] ++ t.drop a).getD a 0 = c := by
      rw [List.getD_eq_getElem?_getD, List.append_assoc, List.getElem?_append_right (by omega), h1, Nat.sub_self]
      rfl
    constructor
    · show (if a < (t.take a ++ [c] ++ t.drop a).length then _ else _) = _
      rw [if_pos (by simp; omega), e1, e2, List.take_append_drop]
    · show Ed.put a _ = _
      rw [e3]
  | lost a =>
    obtain ⟨h, rfl⟩ := inv_lost d
    have h1 : (t.take a).length = a := by rw [List.length_take]; omega
    have e1 : (t.take a ++ t.drop (a + 1)).take a = t.take a := by
      rw [List.take_append_of_le_length (by omega), List.take_of_length_le (by omega)]
    have e2 : (t.take a ++ t.drop (a + 1)).drop a = t.drop (a + 1) := by
      rw [List.drop_append_of_le_length (by omega), List.drop_of_length_le (by omega)]
      rfl
    have e3 : t.take a ++ [t.getD a 0] ++ t.drop (a + 1) = t := by
      have : t.getD a 0 = t[a] := by rw [List.getD_eq_getElem?_getD, List.getElem?_eq_getElem h]; rfl
      rw [this, List.append_assoc]
      show t.take a ++ (t[a] :: t.drop (a + 1)) = t
      rw [← List.drop_eq_getElem_cons h, List.take_append_drop]
    constructor
    · show (if a ≤ (t.take a ++ t.drop (a + 1)).length ∧ (t.take a ++ t.drop (a + 1)).length < 200000 then _ else _) = _
      rw [if_pos (by simp; omega), e1, e2, e3]
    · rfl
  | chg a c =>
    obtain ⟨h, rfl⟩ := inv_chg d
    have h1 : (t.take a).length = a := by rw [List.length_take]; omega
    have e1 : (t.take a ++ [c] ++ t.drop (a + 1)).take a = t.take a := by
      rw [List.append_assoc, List.take_append_of_le_length (by omega), List.take_of_length_le (by omega)]
    have e2 : (t.take a ++ [c] ++ t.drop (a + 1)).drop (a + 1) = t.drop (a + 1) := by
      rw [List.drop_append_of_le_length (by simp; omega)]
      rw [List.drop_of_length_le (by simp; omega)]
      rfl
    have e4 : (t.take a ++ [c] ++ t.drop (a + 1)).getD a 0 = c := by
      rw [List.getD_eq_getElem?_getD, List.append_assoc, List.getElem?_append_right (by omega), h1, Nat.sub_self]
      rfl
    have e3 : t.take a ++ [t.getD a 0] ++ t.drop (a + 1) = t := by
      have : t.getD a 0 = t[a] := by rw [List.getD_eq_getElem?_getD, List.getElem?_eq_getElem h.1]; rfl
      rw [this, List.append_assoc]
      show t.take a ++ (t[a] :: t.drop (a + 1)) = t
      rw [← List.drop_eq_getElem_cons h.1, List.take_append_drop]
    constructor
    · show (if a < (t.take a ++ [c] ++ t.drop (a + 1)).length ∧ (t.take a ++ [c] ++ t.drop (a + 1)).getD a 0 ≠ t.getD a 0 then _ else _) = _
      rw [e4, if_pos ⟨by simp; omega, fun z => h.2 z.symm⟩, e1, e2, e3]
    · show Ed.chg a _ = _
      rw [e4]
theorem undo_all {t u : List Nat} {es : List Ed} (hl : t.length ≤ 200000) (h : Path t es u) : Path u (backs t es).reverse t ∧ (backs u (backs t es).reverse).reverse = es := by
  induction h with
  | nil t => exact ⟨.nil t, rfl⟩
  | @cons t t' u f r d k ih =>
    have hl' := (doE_len d).2 hl
    obtain ⟨h1, h2⟩ := ih hl'
    obtain ⟨g1, g2⟩ := undo_one hl d
    have : nxt t f = t' := by unfold nxt; rw [d]; rfl
    have eb : (backs t (f :: r)).reverse = (backs t' r).reverse ++ [un t f] := by
      show (un t f :: backs (nxt t f) r).reverse = _
      rw [this, List.reverse_cons]
    rw [eb]
    refine ⟨h1.snoc g1, ?_⟩
    rw [backs_snoc _ h1, List.reverse_append, h2, g2]
    rfl
theorem doE_sg {t u : List Nat} {e : Ed} (hs : ∀ c ∈ t, sg c = true) (he : e.ok = true) (d : doE t e = some u) : (∀ c ∈ u, sg c = true) ∧ (un t e).ok = true := by
  have hg : ∀ a, a < t.length → sg (t.getD a 0) = true := fun a ha => by
    rw [List.getD_eq_getElem?_getD, List.getElem?_eq_getElem ha]
    exact hs _ (List.getElem_mem ..)
  cases e with
  | put a c =>
    obtain ⟨h, rfl⟩ := inv_put d
    refine ⟨fun x hx => ?_, rfl⟩
    simp only [List.mem_append, List.mem_singleton] at hx
    rcases hx with (hx | rfl) | hx
    · exact hs _ (List.mem_of_mem_take hx)
    · exact he
    · exact hs _ (List.mem_of_mem_drop hx)
  | lost a =>
    obtain ⟨h, rfl⟩ := inv_lost d
    refine ⟨fun x hx => ?_, hg a h⟩
    simp only [List.mem_append] at hx
    rcases hx with hx | hx
    · exact hs _ (List.mem_of_mem_take hx)
    · exact hs _ (List.mem_of_mem_drop hx)
  | chg a c =>
    obtain ⟨h, rfl⟩ := inv_chg d
    refine ⟨fun x hx => ?_, hg a h.1⟩
    simp only [List.mem_append, List.mem_singleton] at hx
    rcases hx with (hx | rfl) | hx
    · exact hs _ (List.mem_of_mem_take hx)
    · exact he
    · exact hs _ (List.mem_of_mem_drop hx)
theorem path_sg {t u : List Nat} {es : List Ed} (hs : ∀ c ∈ t, sg c = true) (he : ∀ e ∈ es, e.ok = true) (h : Path t es u) : (∀ c ∈ u, sg c = true) ∧ ∀ e ∈ backs t es, e.ok = true := by
  induction h with
  | nil t => exact ⟨hs, fun e m => by cases m⟩
  | @cons t t' u f r d k ih =>
    obtain ⟨g1, g2⟩ := doE_sg hs (he f List.mem_cons_self) d
    obtain ⟨h1, h2⟩ := ih g1 (fun e m => he e (List.mem_cons_of_mem _ m))
    have : nxt t f = t' := by unfold nxt; rw [d]; rfl
    refine ⟨h1, fun e m => ?_⟩
    rcases List.mem_cons.mp m with rfl | m
    · exact g2
    · rw [this] at m
      exact h2 e m
end K55
namespace K55
open PySem PySem.Spec PyProof.Rows L2 Kx SX LamX
section
variable {P : Program} {w : World} {K : PySem.W.Frag} {mg : Str → Option Value} {base : Heap} (T : Tx K mg)
theorem cutIf {b : Bool} {A B : Prop} (h : b = false) (k : B) : if b = true then A else B := by
  rw [h]
  exact iteF (A := _) k
theorem same_none {H H1 : Hp} {D : Addr} (e : Same H H1) (n : H1 D = none) : H D = none := by
  cases h : H D with
  | none => rfl
  | some o =>
    rw [e _ _ h] at n
    cases n
/-- edits as they may be told: a list or a tuple of lists or tuples -/
def EdsQ (K : PySem.W.Frag) (H : Hp) (p : Addr) (es : List Ed) : Prop := ∃ ps : List Addr, SqQ K H p (ps.map V.ref) ∧ ps.length = es.length ∧ ∀ (i : Nat) (q : Addr) (e : Ed), ps[i]? = some q → es[i]? = some e → SqQ K H q e.vs
theorem EdsQ.same {H H' : Hp} {p : Addr} {es : List Ed} (e : Same H H') (h : EdsQ K H p es) : EdsQ K H' p es := by
  obtain ⟨ps, h1, h2, h3⟩ := h
  exact ⟨ps, Same.q e h1, h2, fun i q d a b => Same.q e (h3 i q d a b)⟩
theorem ref_get {ps : List Addr} {i : Nat} {x : V} (h : (ps.map V.ref)[i]? = some x) : ∃ q, ps[i]? = some q ∧ x = .ref q := by
  obtain ⟨q, h1, h2⟩ := map_at h
  exact ⟨q, h1, h2⟩
theorem ed_of {ps : List Addr} {es : List Ed} {i : Nat} {q : Addr} (l : ps.length = es.length) (h : ps[i]? = some q) : ∃ e, es[i]? = some e := by
  have := (List.getElem?_eq_some_iff.mp h).1
  exact ⟨_, List.getElem?_eq_getElem (by omega)⟩
theorem take_snoc {es : List Ed} {i : Nat} {e : Ed} (h : es[i]? = some e) : es.take (i + 1) = es.take i ++ [e] := by
  rw [List.take_add_one, h]
  rfl
/-- what cannot be done to c: no edit, or one that leads nowhere -/
def OddAt (K : PySem.W.Frag) (H : Hp) (c : List Nat) (v : V) : Prop := BadE K H v ∨ ∃ (p : Addr) (e : Ed), v = .ref p ∧ SqQ K H p e.vs ∧ e.ok = true ∧ doE c e = none
theorem OddAt.same {H H' : Hp} {c : List Nat} {v : V} (e : Same H H') (h : OddAt K H c v) : OddAt K H' c v := by
  rcases h with h | ⟨p, d, h1, h2, h3, h4⟩
  · exact .inl (h.same e)
  · exact .inr ⟨p, d, h1, Same.q e h2, h3, h4⟩
/-- edits, then what cannot be done, then whatever -/
def BadAt (K : PySem.W.Frag) (H : Hp) (t : List Nat) (xs : List V) : Prop := ∃ (qs : List Addr) (es : List Ed) (c : List Nat) (v : V) (r : List V), qs.length = es.length ∧ (∀ (i : Nat) (q : Addr) (e : Ed), qs[i]? = some q → es[i]? = some e → SqQ K H q e.vs) ∧ (∀ e ∈ es, e.ok = true) ∧ Path t es c ∧ xs = qs.map V.ref ++ v :: r ∧ OddAt K H c v
theorem BadAt.same {H H' : Hp} {t : List Nat} {xs : List V} (e : Same H H') (h : BadAt K H t xs) : BadAt K H' t xs := by
  obtain ⟨qs, es, c, v, r, h1, h2, h3, h4, h5, h6⟩ := h
  exact ⟨qs, es, c, v, r, h1, fun i q d a b => Same.q e (h2 i q d a b), h3, h4, h5, h6.same e⟩
def sp_texts_behind (K : PySem.W.Frag) : Sp := fun vs H Q _ => ∃ (t : List Nat) (p : Addr), vs = [.str (S t), .ref p] ∧ t.length ≤ 200000 ∧ ((∃ es : List Ed, EdsQ K H p es ∧ (∀ e ∈ es, e.ok = true) ∧ es.length ≤ 1000 ∧
  (∀ (u : List Nat) (D : Addr) (H' : Hp), Path t es u → Same H H' → H' D = some (.lst ((trail t es).map tx)) → Q (.ref D) H') ∧ (∀ H', Stuck t es → Same H H' → Q .non H')) ∨
  (∃ xs, SqQ K H p xs ∧ xs.length ≤ 1000 ∧ BadAt K H t xs ∧ ∀ H', Same H H' → Q .non H'))
theorem ok_texts_behind : FnOk P w K mg base CX0 5 T.f_texts_behind T.fd_texts_behind ["text", "edits"] (sp_texts_behind K) := by
  refine T.F_texts_behind.ok sc_texts_behind (fun vs H Q E h => ?_) (fun cdv A outer s H vs Q E hr h => ?_)
  · obtain ⟨t, p, rfl, _⟩ := h
    rfl
  · obtain ⟨t, p, rfl, hl, h⟩ := h
    refine ⟨_, (pss_cons (ps_if (pt_not (pt_val (pe_call (ok_is_list T) (hr.mono (by decide)) (by rfl) T.g_is_list T.F_is_list.kp T.b_is_list .nil pass0 (pa_cons (pv 1) pa_nil))))
      (pss_one (ps_ret pe_non))
      pss_nil)
    (pss_cons (ps_set (i := 2) sc_texts_behind.nd rfl (.inl rfl) (pe_lst (pa_cons (pv 0) pa_nil)))
    (pss_cons (ps_for PassesOwn.never rfl (pi_seq (pv 1)) (pg_name (i := 3) sc_texts_behind.nd rfl (.inl rfl))
      (pss_cons (ps_set (i := 4) sc_texts_behind.nd rfl (.inl rfl) (pe_call (ok_left_by_edit T) (hr.mono (by decide)) (by rfl) T.g_left_by_edit T.F_left_by_edit.kp T.b_left_by_edit .nil pass0 (pa_cons (pe_ix ix_list (pv 2) (pe_un un_neg pe_int) (fun _ _ => rfl)) (pa_cons (pv 3) pa_nil))))
      (pss_cons (ps_if (pt_cmpR op_isN (pv 4) pe_non (nomark _))
        (pss_one (ps_ret pe_non))
        pss_nil)
      (pss_one (ps_expr (pe_bm PySem.F.plainAttrs_list PySem.F.slot_list_append PySem.F.type_list_append mt_append (pv 2) (pa_cons (pv 4) pa_nil)))))))
    (pss_one (ps_ret (pv 2)))))), ?_⟩
    rcases h with ⟨es, ⟨ps, hq, lp, hp⟩, ho, le, q1, q2⟩ | ⟨xs, hq, lx, hb, q⟩
    ·
      obtain ⟨n, ht, hk⟩ := isl_q hq
      refine go_seq (go_if (go_not (go_b ⟨_, rfl, _, n, true, rfl, ht, hk, fun H1 e1 => ⟨_, rfl, iteF (A := _) ?_⟩⟩)))
      dsimp only [tNext]
      refine go_seq (go_asg (go_lst (go_cons (go_var rfl (go_nil ⟨sz1, fun D nD => ?_⟩)))))
      have e2 := e1.trans (same_new (o := HO.lst [V.str (S t)]) nD)
      have nD0 : H D = none := same_none e1 nD
      have hD : upd H1 D (HO.lst [V.str (S t)]) D = some (.lst [V.str (S t)]) := upd_same
      generalize upd H1 D (HO.lst [V.str (S t)]) = H2 at e2 hD ⊢
      clear ht hk e1 nD
      dsimp only [gName]
      refine go_seq (for_seq (a := p) (xs := ps.map V.ref) (by exact rfl) hq e2 (fun i σ H' => ∃ (o3 o4 : Option V) (c : List Nat), σ = [some (.str (S t)), some (.ref p), some (.ref D), o3, o4] ∧ Path t (es.take i) c ∧ H' D = some (.lst ((trail t (es.take i)).map tx)) ∧ Same H H')
        ⟨none, none, t, rfl, .nil t, hD, e2⟩ (fun i σ' H' _ h => ?_) (fun i v σ' Hd hv h => ?_) (fun σ' Hd h => ?_))
      · obtain ⟨_, _, _, _, _, _, e⟩ := h
        exact e
      · obtain ⟨o3, o4, c, rfl, hc, hDd, ed⟩ := h
        obtain ⟨y, hy, rfl⟩ := ref_get hv
        obtain ⟨e, he⟩ := ed_of lp hy
        have hye := Same.q ed (hp i y e hy he)
        obtain ⟨ini, hini⟩ := trail_last hc
        have lc : c.length ≤ 200000 := (Path.len hc).2 hl
        have hi : i < es.length := (List.getElem?_eq_some_iff.mp he).1
        dsimp only [gName]
        refine go_seq (go_asg ⟨_, rfl, 1, rfl, D, _, -1, tx c, rfl, rfl, .inl (.inl hDd), by rw [hini, List.map_append]; exact at_last, _, rfl, c, _, rfl, lc, .inl ⟨y, e, rfl, hye, ho e (List.mem_of_getElem? he), fun H3 e3 => ?_⟩⟩)
        dsimp only [gName]
        cases hd : doE c e with
        | none => exact go_seq (go_if (go_test ⟨_, rfl, rfl, _, rfl, iteT (B := _) (go_ret (q2 H3 ⟨i, e, c, he, hc, hd⟩ (ed.trans e3)))⟩))
        | some u =>
          refine go_seq (go_if (go_test ⟨_, rfl, rfl, _, rfl, iteF (A := _) ?_⟩))
          dsimp only [tNext]
          have hD3 := e3 _ _ hDd
          refine ⟨_, rfl, .inl ⟨rfl, _, .inl (.inl hD3)⟩, _, rfl, D, _, _, rfl, rfl, hD3, ?_, ?_⟩
          · rw [List.length_map, trail_len, List.length_take]
            exact Nat.lt_of_lt_of_le (show min i es.length + 1 < 1002 by omega) (by decide)
          · have et : trail t (es.take (i + 1)) = trail t (es.take i) ++ [u] := by
              rw [take_snoc he, trail_snoc e hc]
              unfold nxt
              rw [hd]
              rfl
            refine ⟨_, _, u, rfl, by rw [take_snoc he]; exact hc.snoc hd, ?_, same_set (ed.trans e3) nD0⟩
            rw [upd_same, et, List.map_append]
            rfl
      · obtain ⟨o3, o4, c, rfl, hc, hDd, ed⟩ := h
        rw [List.length_map, lp, List.take_length] at hc hDd
        exact go_ret (go_var rfl (q1 c D Hd hc ed hDd))
    · obtain ⟨qs, es, c, v, r, lq, hp, ho, hP, ex, hO⟩ := hb
      have lxs : es.length < xs.length := by
        rw [ex, List.length_append, List.length_map, List.length_cons]
        omega
      obtain ⟨n, ht, hk⟩ := isl_q hq
      refine go_seq (go_if (go_not (go_b ⟨_, rfl, _, n, true, rfl, ht, hk, fun H1 e1 => ⟨_, rfl, iteF (A := _) ?_⟩⟩)))
      dsimp only [tNext]
      refine go_seq (go_asg (go_lst (go_cons (go_var rfl (go_nil ⟨sz1, fun D nD => ?_⟩)))))
      have e2 := e1.trans (same_new (o := HO.lst [V.str (S t)]) nD)
      have nD0 : H D = none := same_none e1 nD
      have hD : upd H1 D (HO.lst [V.str (S t)]) D = some (.lst [V.str (S t)]) := upd_same
      generalize upd H1 D (HO.lst [V.str (S t)]) = H2 at e2 hD ⊢
      clear ht hk e1 nD
      dsimp only [gName]
      refine go_seq (for_seq (a := p) (xs := xs) (by exact rfl) hq e2 (fun i σ H' => ∃ (o3 o4 : Option V) (c : List Nat), σ = [some (.str (S t)), some (.ref p), some (.ref D), o3, o4] ∧ i ≤ es.length ∧ Path t (es.take i) c ∧ H' D = some (.lst ((trail t (es.take i)).map tx)) ∧ Same H H')
        ⟨none, none, t, rfl, Nat.zero_le _, .nil t, hD, e2⟩ (fun i σ' H' _ h => ?_) (fun i w σ' Hd hv h => ?_) (fun σ' Hd h => ?_))
      · obtain ⟨_, _, _, _, _, _, _, e⟩ := h
        exact e
      · obtain ⟨o3, o4, c', rfl, hi, hc, hDd, ed⟩ := h
        obtain ⟨ini, hini⟩ := trail_last hc
        have lc : c'.length ≤ 200000 := (Path.len hc).2 hl
        dsimp only [gName]
        rcases Nat.lt_or_ge i es.length with hlt | hge
        · have hw : ∃ y, qs[i]? = some y ∧ w = .ref y := by
            rw [ex, List.getElem?_append_left (by rw [List.length_map]; omega)] at hv
            obtain ⟨y, h1, h2⟩ := ref_get hv
            exact ⟨y, h1, h2⟩
          obtain ⟨y, hy, rfl⟩ := hw
          obtain ⟨e, he⟩ : ∃ e, es[i]? = some e := ⟨_, List.getElem?_eq_getElem hlt⟩
          have hye := Same.q ed (hp i y e hy he)
          refine go_seq (go_asg ⟨_, rfl, 1, rfl, D, _, -1, tx c', rfl, rfl, .inl (.inl hDd), by rw [hini, List.map_append]; exact at_last, _, rfl, c', _, rfl, lc, .inl ⟨y, e, rfl, hye, ho e (List.mem_of_getElem? he), fun H3 e3 => ?_⟩⟩)
          dsimp only [gName]
          cases hd : doE c' e with
          | none => exact (hP.not ⟨i, e, c', he, hc, hd⟩).elim
          | some u =>
            refine go_seq (go_if (go_test ⟨_, rfl, rfl, _, rfl, iteF (A := _) ?_⟩))
            dsimp only [tNext]
            have hD3 := e3 _ _ hDd
            refine ⟨_, rfl, .inl ⟨rfl, _, .inl (.inl hD3)⟩, _, rfl, D, _, _, rfl, rfl, hD3, ?_, ?_⟩
            · rw [List.length_map, trail_len, List.length_take]
              exact Nat.lt_of_lt_of_le (show min i es.length + 1 < 1002 by omega) (by decide)
            · have et : trail t (es.take (i + 1)) = trail t (es.take i) ++ [u] := by
                rw [take_snoc he, trail_snoc e hc]
                unfold nxt
                rw [hd]
                rfl
              refine ⟨_, _, u, rfl, hlt, by rw [take_snoc he]; exact hc.snoc hd, ?_, same_set (ed.trans e3) nD0⟩
              rw [upd_same, et, List.map_append]
              rfl
        · obtain rfl : i = es.length := by omega
          have hw : w = v := by
            rw [ex, List.getElem?_append_right (by rw [List.length_map]; omega), List.length_map, lq, Nat.sub_self] at hv
            exact (Option.some.inj hv).symm
          subst hw
          rw [List.take_length] at hc
          obtain rfl : c = c' := hP.det hc
          rcases hO.same ed with hB | ⟨y, e, rfl, hye, hoe, hd⟩
          · refine go_seq (go_asg ⟨_, rfl, 1, rfl, D, _, -1, tx c, rfl, rfl, .inl (.inl hDd), by rw [hini, List.map_append]; exact at_last, _, rfl, c, _, rfl, lc, .inr ⟨hB, fun H3 e3 => ?_⟩⟩)
            dsimp only [gName]
            exact go_seq (go_if (go_test ⟨_, rfl, rfl, _, rfl, iteT (B := _) (go_ret (q H3 (ed.trans e3)))⟩))
          · refine go_seq (go_asg ⟨_, rfl, 1, rfl, D, _, -1, tx c, rfl, rfl, .inl (.inl hDd), by rw [hini, List.map_append]; exact at_last, _, rfl, c, _, rfl, lc, .inl ⟨y, e, rfl, hye, hoe, fun H3 e3 => ?_⟩⟩)
            rw [hd]
            dsimp only [gName]
            exact go_seq (go_if (go_test ⟨_, rfl, rfl, _, rfl, iteT (B := _) (go_ret (q H3 (ed.trans e3)))⟩))
      · obtain ⟨_, _, _, _, hi, _⟩ := h
        omega
/-- what are no edits of t -/
def NoEds (K : PySem.W.Frag) (H : Hp) (t : List Nat) (y : V) : Prop := (∃ n : String, TyX K H y (.type n) ∧ PySem.W.kitAny K (.type n) [.type "list", .type "tuple"] = some false) ∨ (∃ p xs, y = .ref p ∧ SqQ K H p xs ∧ xs.length ≤ 1000 ∧ (12 < xs.length ∨ BadAt K H t xs))
theorem NoEds.same {H H' : Hp} {t : List Nat} {y : V} (e : Same H H') (h : NoEds K H t y) : NoEds K H' t y := by
  rcases h with ⟨n, h1, h2⟩ | ⟨p, xs, h1, h2, h3, h4⟩
  · exact .inl ⟨n, tyx_same e h1, h2⟩
  · exact .inr ⟨p, xs, h1, Same.q e h2, h3, h4.imp id fun h => h.same e⟩
/-- what a call with a text and edits gives -/
def AskS (K : PySem.W.Frag) (CT CE : Addr) (R : List Nat → List Nat → List Ed → V → Hp → Prop) : Sp := fun vs H Q E => ∃ x y : V, vs = [x, y] ∧
  ((∃ o, StrIs K H x o ∧ o.elim false textB = false ∧ RaisedPart E CT H "text") ∨ (∃ t, x = .str (S t) ∧ textB t = true ∧ NoEds K H t y ∧ RaisedPart E CE H "edits") ∨
   (∃ (t u : List Nat) (p : Addr) (es : List Ed), x = .str (S t) ∧ y = .ref p ∧ textB t = true ∧ EdsQ K H p es ∧ (∀ e ∈ es, e.ok = true) ∧ es.length ≤ 12 ∧ t.length ≤ 1000 ∧ Path t es u ∧ ∀ r H', Same H H' → R t u es r H' → Q r H'))
def RTexts : List Nat → List Nat → List Ed → V → Hp → Prop := fun t u es r H' => ∃ D, r = .ref D ∧ H' D = some (.lst ((trail t es).map tx))
theorem ok_checked_texts : FnOk P w K mg base (L2.CX P w) 9 T.f_checked_texts T.fd_checked_texts ["text", "edits"] (AskS K T.e_BadText.C T.e_BadEdits.C RTexts) := by
  refine T.F_checked_texts.okX sc_checked_texts (fun vs H Q E h => ?_) (fun cdv A outer s H vs Q E hr h => ?_)
  · obtain ⟨x, y, rfl, _⟩ := h
    rfl
  · obtain ⟨x, y, rfl, h⟩ := h
    refine ⟨_, (pss_cons (ps_if (pt_not (pt_val (pe_call (ok_is_text T) (hr.mono (by decide)) (by rfl) T.g_is_text T.F_is_text.kp T.b_is_text .nil pass0 (pa_cons (pv 0) pa_nil))))
      (pss_one (ps_raise rfl (takes_of rfl rfl rfl rfl) (pmk_oex T.e_BadText.oex T.e_BadText.iC T.e_BadText.tI (ok_init T.e_BadText in_BadText) (hr.mono (by decide)) T.e_BadText.b .nil pass0 (by rfl) T.e_BadText.gC (pa_cons pe_str pa_nil))))
      pss_nil)
    (pss_cons (ps_if (PW.pt (pw_or (pt_not (pt_val (pe_call (ok_is_list T) (hr.mono (by decide)) (by rfl) T.g_is_list T.F_is_list.kp T.b_is_list .nil pass0 (pa_cons (pv 1) pa_nil)))) (pw_or1 (pt_cmpR op_gt (pe_callB call_len_seq (by rfl) T.m_len PySem.boot_len (pa_cons (pv 1) pa_nil)) (pe_glob (v := .int 12) (by rfl) T.c_MOST_EDITS ⟨_, rfl⟩) (nomark _)))))
      (pss_one (ps_raise rfl (takes_of rfl rfl rfl rfl) (pmk_oex T.e_BadEdits.oex T.e_BadEdits.iC T.e_BadEdits.tI (ok_init T.e_BadEdits in_BadEdits) (hr.mono (by decide)) T.e_BadEdits.b .nil pass0 (by rfl) T.e_BadEdits.gC (pa_cons pe_str pa_nil))))
      pss_nil)
    (pss_cons (ps_set (i := 2) sc_checked_texts.nd rfl (.inl rfl) (pe_call (ok_texts_behind T) (hr.mono (by decide)) (by rfl) T.g_texts_behind T.F_texts_behind.kp T.b_texts_behind .nil pass0 (pa_cons (pv 0) (pa_cons (pv 1) pa_nil))))
    (pss_cons (ps_if (pt_cmpR op_isN (pv 2) pe_non (nomark _))
      (pss_one (ps_raise rfl (takes_of rfl rfl rfl rfl) (pmk_oex T.e_BadEdits.oex T.e_BadEdits.iC T.e_BadEdits.tI (ok_init T.e_BadEdits in_BadEdits) (hr.mono (by decide)) T.e_BadEdits.b .nil pass0 (by rfl) T.e_BadEdits.gC (pa_cons pe_str pa_nil))))
      pss_nil)
    (pss_one (ps_ret (pv 2))))))), ?_⟩
    rcases h with ⟨o, ho, hB, hR⟩ | ⟨t, rfl, htx, hN, hR⟩ | ⟨t, u, p, es, rfl, rfl, htx, hE, ho, le, lt, hu, q⟩
    · refine go_seq (go_if (go_not (go_b ⟨_, rfl, _, o, rfl, ho, ?_⟩)))
      rw [hB]
      refine ⟨_, rfl, iteT (B := _) ?_⟩
      exact mk_part T.e_BadText.oex T.e_BadText.np fun d H' e3 hd => hR d H' e3 hd
    · have hl : t.length ≤ 200000 := by
        unfold textB at htx
        rw [Bool.and_eq_true] at htx
        exact of_decide_eq_true htx.1
      refine go_seq (go_if (go_not (go_b ⟨_, rfl, _, some t, rfl, ⟨rfl, Nat.le_trans hl (by decide)⟩, ?_⟩)))
      have : (some t).elim false textB = true := htx
      rw [this]
      refine ⟨_, rfl, iteF (A := _) ?_⟩
      dsimp only [tNext]
      rcases hN with ⟨n, ht, hk⟩ | ⟨p, xs, rfl, hq, lx, hx⟩
      · exact go_seq (go_if (go_or2 (go_not (go_b ⟨_, rfl, _, n, false, rfl, ht, hk, fun H1 e1 => ⟨_, rfl, iteT (B := _) (iteT (B := _) (mk_part T.e_BadEdits.oex T.e_BadEdits.np fun d H' e3 hd => hR d H' (e1.trans e3) hd))⟩⟩))))
      obtain ⟨n, ht, hk⟩ := isl_q hq
      refine go_seq (go_if (go_or2 (go_not (go_b ⟨_, rfl, _, n, true, rfl, ht, hk, fun H1 e1 => ⟨_, rfl, iteF (A := _) ?_⟩⟩))))
      refine go_test (go_op (go_cb (go_cons (go_var rfl (go_nil ⟨p, _, rfl, Same.q e1 hq, _, _, rfl, rfl, _, rfl, iteC (fun h => ?_) (fun h => ?_)⟩)))))
      · exact mk_part T.e_BadEdits.oex T.e_BadEdits.np fun d H' e3 hd => hR d H' (e1.trans e3) hd
      have h : ¬ 12 < xs.length := fun z => of_decide_eq_false h (by omega)
      rcases hx with hx | hx
      · exact (h hx).elim
      dsimp only [tNext]
      refine go_seq (go_asg ⟨_, rfl, _, rfl, t, p, rfl, hl, .inr ⟨xs, Same.q e1 hq, lx, hx.same e1, fun H2 e2 => ?_⟩⟩)
      dsimp only [gName]
      refine go_seq (go_if (go_test ⟨_, rfl, rfl, _, rfl, iteT (B := _) ?_⟩))
      exact mk_part T.e_BadEdits.oex T.e_BadEdits.np fun d H' e3 hd => hR d H' ((e1.trans e2).trans e3) hd
    · have hl : t.length ≤ 200000 := by omega
      refine go_seq (go_if (go_not (go_b ⟨_, rfl, _, some t, rfl, ⟨rfl, Nat.le_trans hl (by decide)⟩, ?_⟩)))
      have : (some t).elim false textB = true := htx
      rw [this]
      refine ⟨_, rfl, iteF (A := _) ?_⟩
      dsimp only [tNext]
      obtain ⟨ps, hq, lp, hp⟩ := id hE
      obtain ⟨n, ht, hk⟩ := isl_q hq
      refine go_seq (go_if (go_or2 (go_not (go_b ⟨_, rfl, _, n, true, rfl, ht, hk, fun H1 e1 => ⟨_, rfl, iteF (A := _) ?_⟩⟩))))
      refine go_test (go_op (go_cb (go_cons (go_var rfl (go_nil ⟨p, _, rfl, Same.q e1 hq, _, _, rfl, rfl, _, rfl, ?_⟩)))))
      have hd : decide ((12 : Int) < ((ps.map V.ref).length : Int)) = false := by
        rw [List.length_map, lp]
        exact decide_eq_false (by omega)
      refine cutIf hd ?_
      dsimp only [tNext]
      refine go_seq (go_asg ⟨_, rfl, _, rfl, t, p, rfl, hl, .inl ⟨es, hE.same e1, ho, by omega, fun u' D H2 hu' e2 hD => ?_, fun H2 hs e2 => (hu.not hs).elim⟩⟩)
      dsimp only [gName]
      refine go_seq (go_if (go_test ⟨_, rfl, rfl, _, rfl, iteF (A := _) ?_⟩))
      dsimp only [tNext]
      exact go_ret (go_var rfl (q _ H2 (e1.trans e2) ⟨D, rfl, hD⟩))
def RDam : List Nat → List Nat → List Ed → V → Hp → Prop := fun t u es r _ => r = .str (S u)
theorem ok_damaged : FnOk P w K mg base (L2.CX P w) 10 T.f_damaged T.fd_damaged ["text", "edits"] (AskS K T.e_BadText.C T.e_BadEdits.C RDam) := by
  refine T.F_damaged.okX sc_damaged (fun vs H Q E h => ?_) (fun cdv A outer s H vs Q E hr h => ?_)
  · obtain ⟨x, y, rfl, _⟩ := h
    rfl
  · obtain ⟨x, y, rfl, h⟩ := h
    refine ⟨_, (pss_one (ps_ret (pe_ix ix_list (pe_call (ok_checked_texts T) (hr.mono (by decide)) (by rfl) T.g_checked_texts T.F_checked_texts.kp T.b_checked_texts .nil (passes_call (takes_of rfl rfl rfl rfl) (fun _ _ _ _ h => h)) (pa_cons (pv 0) (pa_cons (pv 1) pa_nil))) (pe_un un_neg pe_int) (fun _ _ => rfl)))), ?_⟩
    rcases h with h | h | ⟨t, u, p, es, rfl, rfl, htx, hE, ho, le, lt, hu, q⟩
    · exact go_ret ⟨_, rfl, _, rfl, x, y, rfl, .inl h⟩
    · exact go_ret ⟨_, rfl, _, rfl, x, y, rfl, .inr (.inl h)⟩
    · obtain ⟨ini, hini⟩ := trail_last hu
      refine go_ret ⟨_, rfl, _, rfl, _, _, rfl, .inr (.inr ⟨t, u, p, es, rfl, rfl, htx, hE, ho, le, lt, hu, fun r H1 e1 ⟨D, hr, hD⟩ => ?_⟩)⟩
      subst hr
      exact ⟨1, rfl, D, _, -1, tx u, rfl, rfl, .inl (.inl hD), by rw [hini, List.map_append]; exact at_last, q _ H1 e1 rfl⟩
end
end K55
namespace K55
open PySem PySem.Spec PyProof.Rows L2 Kx SX LamX
section
variable {P : Program} {w : World} {K : PySem.W.Frag} {mg : Str → Option Value} {base : Heap} (T : Tx K mg)
/-- marks: the flags of signs at n, of gaps at g -/
def MarkN (C : Addr) (H : Hp) (x n g : Addr) (ns gs : List Bool) : Prop := ∃ dx, H x = some (.ins C dx [("news", .ref n), ("gaps", .ref g)]) ∧ H n = some (.lst (ns.map V.bl)) ∧ H g = some (.lst (gs.map V.bl)) ∧ n ≠ g
theorem rep_bl (n : Nat) (b : Bool) : (List.replicate n [V.bl b]).flatten = (List.replicate n b).map V.bl := by
  induction n with
  | zero => rfl
  | succ n ih => rw [List.replicate_succ, List.flatten_cons, ih, List.replicate_succ]; rfl
def sp_Marking_init (K : PySem.W.Frag) (C : Addr) : Sp := fun vs H Q _ => ∃ (p dx : Addr) (len : Nat), vs = [.ref p, .int (len : Nat)] ∧ H p = some (.ins C dx []) ∧ len ≤ 1000 ∧
  ∀ (H' : Hp) (n g : Addr), (∀ b u, H b = some u → b ≠ p → H' b = some u) → H n = none → H g = none → MarkN C H' p n g (List.replicate len false) (List.replicate (len + 1) false) → Q .non H'
theorem ok_Marking_init : FnOk P w K mg base CX0 1 T.f_Marking_init T.fd_Marking_init ["self", "length"] (sp_Marking_init K T.C_Marking) := by
  refine T.F_Marking_init.ok sc_Marking_init (fun vs H Q E h => ?_) (fun cdv A outer s H vs Q E hr h => ?_)
  · obtain ⟨p, dx, len, rfl, _⟩ := h
    rfl
  · obtain ⟨p, dx, len, rfl, hp, hl, q⟩ := h
    refine ⟨_, (pss_cons (ps_fld (pv 0) (pe_op op_rep (pe_lst (pa_cons pe_bl pa_nil)) (pv 1)) rfl)
    (pss_one (ps_fld (pv 0) (pe_op op_rep (pe_lst (pa_cons pe_bl pa_nil)) (pe_op op_add (pv 1) pe_int)) rfl))), ?_⟩
    refine go_seq ⟨sz1, fun l nl => ⟨_, rfl, ?_⟩⟩
    refine ⟨l, (len : Nat), _, rfl, rfl, upd_same, by omega, by omega, ?_, fun n nn => ?_⟩
    · show 1 * ((len : Nat) : Int).toNat ≤ sizeLine
      exact Nat.le_trans (show 1 * ((len : Nat) : Int).toNat ≤ 1000 by omega) (by decide)
    rw [Int.toNat_natCast, rep_bl]
    have x1 := same_new (o := HO.lst [V.bl false]) nl
    have x2 := same_new (o := HO.lst ((List.replicate len false).map V.bl)) nn
    have hp2 := (x1.trans x2) _ _ hp
    have hn : upd (upd H l (HO.lst [V.bl false])) n (HO.lst ((List.replicate len false).map V.bl)) n = some (.lst ((List.replicate len false).map V.bl)) := upd_same
    have xA := x1.trans x2
    have n0 : H n = none := same_none x1 nn
    generalize upd (upd H l (HO.lst [V.bl false])) n (HO.lst ((List.replicate len false).map V.bl)) = H2 at hp2 hn xA ⊢
    have hpn : p ≠ n := fun z => by
      rw [z, hn] at hp2
      cases hp2
    refine ⟨_, rfl, p, _, dx, _, rfl, hp2, T.cl_Marking, T.na_Marking_news, (show 0 < 1000 by decide), ?_⟩
    dsimp only
    have hp3 : upd H2 p (.ins T.C_Marking dx (putF "news" (.ref n) [])) p = some (.ins T.C_Marking dx [("news", .ref n)]) := upd_same
    have hn3 : upd H2 p (.ins T.C_Marking dx (putF "news" (.ref n) [])) n = some (.lst ((List.replicate len false).map V.bl)) := by rw [upd_ne (Ne.symm hpn)]; exact hn
    have k3 : ∀ b u, H b = some u → b ≠ p → upd H2 p (.ins T.C_Marking dx (putF "news" (.ref n) [])) b = some u := fun b u hb hne => by rw [upd_ne hne]; exact xA _ _ hb
    have f3 : ∀ b, upd H2 p (.ins T.C_Marking dx (putF "news" (.ref n) [])) b = none → H b = none := fun b hb => by
      by_cases e : b = p
      · rw [e, upd_same] at hb
        cases hb
      · rw [upd_ne e] at hb
        exact same_none xA hb
    generalize upd H2 p (.ins T.C_Marking dx (putF "news" (.ref n) [])) = H3 at hp3 hn3 k3 f3 ⊢
    clear x1 x2 nn nl hp2 hn xA
    refine ⟨sz1, fun l2 nl2 => ⟨_, rfl, _, _, rfl, rfl, ?_⟩⟩
    refine ⟨l2, ((len + 1 : Nat) : Int), _, rfl, rfl, upd_same, by omega, by omega, ?_, fun g ng => ?_⟩
    · show 1 * ((len + 1 : Nat) : Int).toNat ≤ sizeLine
      exact Nat.le_trans (show 1 * ((len + 1 : Nat) : Int).toNat ≤ 1001 by omega) (by decide)
    rw [Int.toNat_natCast, rep_bl]
    have x1 := same_new (o := HO.lst [V.bl false]) nl2
    have x2 := same_new (o := HO.lst ((List.replicate (len + 1) false).map V.bl)) ng
    have xA := x1.trans x2
    have hg : upd (upd H3 l2 (HO.lst [V.bl false])) g (HO.lst ((List.replicate (len + 1) false).map V.bl)) g = some (.lst ((List.replicate (len + 1) false).map V.bl)) := upd_same
    have hp4 := xA _ _ hp3
    have hn4 := xA _ _ hn3
    have g0 : H g = none := f3 _ (same_none x1 ng)
    have hng : n ≠ g := fun z => by
      rw [← z, x1 _ _ hn3] at ng
      cases ng
    have k4 : ∀ b u, H b = some u → b ≠ p → upd (upd H3 l2 (HO.lst [V.bl false])) g (HO.lst ((List.replicate (len + 1) false).map V.bl)) b = some u := fun b u hb hne => xA _ _ (k3 b u hb hne)
    generalize upd (upd H3 l2 (HO.lst [V.bl false])) g (HO.lst ((List.replicate (len + 1) false).map V.bl)) = H4 at hg hp4 hn4 k4 ⊢
    have hpg : p ≠ g := fun z => by
      rw [z, hg] at hp4
      cases hp4
    refine ⟨_, rfl, p, _, dx, _, rfl, hp4, T.cl_Marking, T.na_Marking_gaps, (show 1 < 1000 by decide), ?_⟩
    dsimp only
    refine q _ n g (fun b u hb hne => by rw [upd_ne hne]; exact k4 b u hb hne) n0 g0 ⟨dx, upd_same, ?_, ?_, hng⟩
    · rw [upd_ne (Ne.symm hpn)]
      exact hn4
    · rw [upd_ne (Ne.symm hpg)]
      exact hg
theorem erase_bl : ∀ (l : List Bool) (a : Nat), (l.map V.bl).eraseIdx a = (l.eraseIdx a).map V.bl
  | [], _ => rfl
  | b :: r, 0 => rfl
  | b :: r, a + 1 => by
    show V.bl b :: (r.map V.bl).eraseIdx a = V.bl b :: (r.eraseIdx a).map V.bl
    rw [erase_bl r a]
theorem set_bl (l : List Bool) (a : Nat) (b : Bool) : (l.map V.bl).set a (.bl b) = (l.set a b).map V.bl := by rw [List.map_set]
theorem seqI {a n : Nat} (h : a < n) : seqIndex? (a : Int) n = some a := by
  unfold seqIndex?
  have h1 : ¬ ((a : Int) < 0) := by omega
  simp only [h1, if_false]
  have h2 : (decide (0 ≤ (a : Int)) && decide ((a : Int) < (n : Int))) = true := by
    rw [decide_eq_true (by omega), decide_eq_true (by omega)]
    rfl
  rw [if_pos h2, Int.toNat_natCast]
theorem ixI {a n : Nat} (h : a < n) : ixN n (a : Int) = some a := by
  unfold ixN
  have h1 : (0 : Int) ≤ (a : Int) := by omega
  have h2 : (a : Int) < (n : Int) := by omega
  simp only [h1, h2, if_true, and_self, Int.toNat_natCast]
/-- what an edit makes of the marks -/
def markE : Ed → List Bool × List Bool → List Bool × List Bool
  | .put a _, (ns, gs) => (ns.take a ++ [true] ++ ns.drop a, gs.take a ++ [false] ++ gs.drop a)
  | .chg a _, (ns, gs) => (ns.set a true, gs)
  | .lost a, (ns, gs) => (ns.eraseIdx a, (gs.eraseIdx a).set a true)
def fits : Ed → Nat → Prop
  | .put a _, n => a ≤ n
  | .chg a _, n => a < n
  | .lost a, n => a < n
def sp_mark_edit (K : PySem.W.Frag) (C : Addr) : Sp := fun vs H Q _ => ∃ (x p n g : Addr) (ns gs : List Bool) (e : Ed), vs = [.ref x, .ref p] ∧ MarkN C H x n g ns gs ∧ SqQ K H p e.vs ∧ fits e ns.length ∧ gs.length = ns.length + 1 ∧ ns.length ≤ 2000 ∧
  ∀ H', (∀ b u, H b = some u → b ≠ n → b ≠ g → H' b = some u) → MarkN C H' x n g (markE e (ns, gs)).1 (markE e (ns, gs)).2 → Q .non H'
theorem ok_mark_edit : FnOk P w K mg base CX0 1 T.f_mark_edit T.fd_mark_edit ["marking", "edit"] (sp_mark_edit K T.C_Marking) := by
  refine T.F_mark_edit.ok sc_mark_edit (fun vs H Q E h => ?_) (fun cdv A outer s H vs Q E hr h => ?_)
  · obtain ⟨x, p, n, g, ns, gs, e, rfl, _⟩ := h
    rfl
  · obtain ⟨x, p, n, g, ns, gs, e, rfl, hM, hq, hf, lg, ln, q⟩ := h
    refine ⟨_, (pss_cons (ps_par (i := 2) (j := 3) rfl sc_mark_edit.nd rfl rfl (by decide) rfl rfl (pa_cons (pe_ix ix_seq (pv 1) pe_int (fun _ _ => rfl)) (pa_cons (pe_ix ix_seq (pv 1) pe_int (fun _ _ => rfl)) pa_nil)) (by rfl))
    (pss_one (ps_if (pt_cmpR op_eq (pv 2) pe_str (nomark _))
      (pss_cons (ps_expr (pe_bm PySem.F.plainAttrs_list PySem.F.slot_list_insert PySem.F.type_list_insert mt_insert (pe_fld (pv 0) rfl) (pa_cons (pv 3) (pa_cons pe_bl pa_nil))))
      (pss_one (ps_expr (pe_bm PySem.F.plainAttrs_list PySem.F.slot_list_insert PySem.F.type_list_insert mt_insert (pe_fld (pv 0) rfl) (pa_cons (pv 3) (pa_cons pe_bl pa_nil))))))
      (pss_one (ps_if (pt_cmpR op_eq (pv 2) pe_str (nomark _))
        (pss_one (ps_asg pe_bl (pg_sub (pe_fld (pv 0) rfl) (pv 3) set_list)))
        (pss_cons (ps_expr (pe_bm PySem.F.plainAttrs_list PySem.F.slot_list_pop PySem.F.type_list_pop mt_popAt (pe_fld (pv 0) rfl) (pa_cons (pv 3) pa_nil)))
        (pss_cons (ps_expr (pe_bm PySem.F.plainAttrs_list PySem.F.slot_list_pop PySem.F.type_list_pop mt_popAt (pe_fld (pv 0) rfl) (pa_cons (pv 3) pa_nil)))
        (pss_one (ps_asg pe_bl (pg_sub (pe_fld (pv 0) rfl) (pv 3) set_list)))))))))), ?_⟩
    obtain ⟨dx, hx, hn, hg, hng⟩ := id hM
    cases e with
    | put a c =>
      refine go_seq ⟨_, rfl, ix_q hq (v := .str "put") rfl ⟨_, rfl, ix_q hq (v := .int (a : Nat)) rfl ⟨_, _, rfl, ?_⟩⟩⟩
      dsimp only
      refine go_if (go_test ⟨_, rfl, rfl, _, rfl, iteT (B := _) ?_⟩)
      have ha : a ≤ ns.length := hf
      have lsz : ∀ k, k ≤ 2001 → k < sizeLine := fun k h => Nat.lt_of_le_of_lt h (by decide)
      refine go_seq ⟨_, rfl, x, _, dx, _, .ref n, rfl, hx, T.cl_Marking, T.na_Marking_news, rfl, .inl ⟨rfl, _, .inl (.inl hn)⟩, _, rfl, n, _, (a : Int), .bl true, rfl, rfl, hn, by rw [List.length_map]; exact lsz _ (by omega), by omega, by omega, ?_⟩
      rw [Int.toNat_natCast]
      have hxn : x ≠ n := fun z => by
        rw [z, hn] at hx
        cases hx
      have hxg : x ≠ g := fun z => by
        rw [z, hg] at hx
        cases hx
      have e1 : (ns.map V.bl).take a ++ [V.bl true] ++ (ns.map V.bl).drop a = (ns.take a ++ [true] ++ ns.drop a).map V.bl := by
        rw [List.map_append, List.map_append, List.map_take, List.map_drop]
        rfl
      have e2 : (gs.map V.bl).take a ++ [V.bl false] ++ (gs.map V.bl).drop a = (gs.take a ++ [false] ++ gs.drop a).map V.bl := by
        rw [List.map_append, List.map_append, List.map_take, List.map_drop]
        rfl
      rw [e1]
      have hx2 : upd H n (.lst ((ns.take a ++ [true] ++ ns.drop a).map V.bl)) x = H x := upd_ne hxn
      rw [hx] at hx2
      have hg2 : upd H n (.lst ((ns.take a ++ [true] ++ ns.drop a).map V.bl)) g = H g := upd_ne (Ne.symm hng)
      rw [hg] at hg2
      refine ⟨_, rfl, x, _, dx, _, .ref g, rfl, hx2, T.cl_Marking, T.na_Marking_gaps, rfl, .inl ⟨rfl, _, .inl (.inl hg2)⟩, _, rfl, g, _, (a : Int), .bl false, rfl, rfl, hg2, by rw [List.length_map]; exact lsz _ (by omega), by omega, by omega, ?_⟩
      rw [Int.toNat_natCast, e2]
      refine q _ (fun b u hb h1 h2 => by rw [upd_ne h2, upd_ne h1]; exact hb) ⟨dx, ?_, ?_, upd_same, hng⟩
      · rw [upd_ne hxg]
        exact hx2
      · rw [upd_ne hng, upd_same]
        rfl
    | lost a =>
      refine go_seq ⟨_, rfl, ix_q hq (v := .str "lost") rfl ⟨_, rfl, ix_q hq (v := .int (a : Nat)) rfl ⟨_, _, rfl, ?_⟩⟩⟩
      dsimp only
      refine go_if (go_test ⟨_, rfl, rfl, _, rfl, iteF (A := _) ?_⟩)
      refine go_if (go_test ⟨_, rfl, rfl, _, rfl, iteF (A := _) ?_⟩)
      have ha : a < ns.length := hf
      have hxn : x ≠ n := fun z => by
        rw [z, hn] at hx
        cases hx
      have hxg : x ≠ g := fun z => by
        rw [z, hg] at hx
        cases hx
      refine go_seq ⟨_, rfl, x, _, dx, _, .ref n, rfl, hx, T.cl_Marking, T.na_Marking_news, rfl, .inl ⟨rfl, _, .inl (.inl hn)⟩, _, rfl, n, _, (a : Int), a, .bl (ns.getD a false), rfl, rfl, hn, by omega, by omega, by rw [List.length_map]; exact seqI ha, by simp [List.getD_eq_getElem?_getD, ha], ?_⟩
      have e1 : (ns.map V.bl).eraseIdx a = (ns.eraseIdx a).map V.bl := erase_bl _ _
      rw [e1]
      have hx2 : upd H n (.lst ((ns.eraseIdx a).map V.bl)) x = H x := upd_ne hxn
      rw [hx] at hx2
      have hg2 : upd H n (.lst ((ns.eraseIdx a).map V.bl)) g = H g := upd_ne (Ne.symm hng)
      rw [hg] at hg2
      have ag : a < gs.length := by omega
      refine go_seq ⟨_, rfl, x, _, dx, _, .ref g, rfl, hx2, T.cl_Marking, T.na_Marking_gaps, rfl, .inl ⟨rfl, _, .inl (.inl hg2)⟩, _, rfl, g, _, (a : Int), a, .bl (gs.getD a false), rfl, rfl, hg2, by omega, by omega, by rw [List.length_map]; exact seqI ag, by simp [List.getD_eq_getElem?_getD, ag], ?_⟩
      have e2 : (gs.map V.bl).eraseIdx a = (gs.eraseIdx a).map V.bl := erase_bl _ _
      rw [e2]
      have hx3 : upd (upd H n (.lst ((ns.eraseIdx a).map V.bl))) g (.lst ((gs.eraseIdx a).map V.bl)) x = upd H n (.lst ((ns.eraseIdx a).map V.bl)) x := upd_ne hxg
      rw [hx2] at hx3
      have lge : ((gs.eraseIdx a).map V.bl).length = ns.length := by rw [List.length_map, List.length_eraseIdx_of_lt ag]; omega
      refine ⟨_, rfl, x, _, dx, _, .ref g, rfl, hx3, T.cl_Marking, T.na_Marking_gaps, rfl, _, rfl, g, _, (a : Int), a, rfl, rfl, upd_same, by rw [lge]; exact ixI ha, ?_⟩
      dsimp only
      rw [set_bl]
      refine q _ (fun b u hb h1 h2 => by rw [upd_ne h2, upd_ne h2, upd_ne h1]; exact hb) ⟨dx, ?_, ?_, upd_same, hng⟩
      · rw [upd_ne hxg]
        exact hx3
      · rw [upd_ne hng, upd_ne hng, upd_same]
        rfl
    | chg a c =>
      refine go_seq ⟨_, rfl, ix_q hq (v := .str "changed") rfl ⟨_, rfl, ix_q hq (v := .int (a : Nat)) rfl ⟨_, _, rfl, ?_⟩⟩⟩
      dsimp only
      refine go_if (go_test ⟨_, rfl, rfl, _, rfl, iteF (A := _) ?_⟩)
      refine go_if (go_test ⟨_, rfl, rfl, _, rfl, iteT (B := _) ?_⟩)
      have ha : a < ns.length := hf
      have hxn : x ≠ n := fun z => by
        rw [z, hn] at hx
        cases hx
      refine ⟨_, rfl, x, _, dx, _, .ref n, rfl, hx, T.cl_Marking, T.na_Marking_news, rfl, _, rfl, n, _, (a : Int), a, rfl, rfl, hn, by rw [List.length_map]; exact ixI ha, ?_⟩
      dsimp only
      rw [set_bl]
      refine q _ (fun b u hb h1 h2 => by rw [upd_ne h1]; exact hb) ⟨dx, ?_, upd_same, ?_, hng⟩
      · rw [upd_ne hxn]
        exact hx
      · rw [upd_ne (Ne.symm hng)]
        exact hg
end
end K55
namespace K55
open PySem PySem.Spec PyProof.Rows L2 Kx SX LamX
/-! ### rows of sixty signs -/
theorem rg60 {m : Nat} (h0 : 1 ≤ m) (h1 : m ≤ 2000) : RgC 0 (m : Int) 60 ((m + 59) / 60) := by
  have : ∀ m : Fin 2001, 1 ≤ m.val → (Builtin.Range.small 0 (m.val : Int) 60 = true ∧ Builtin.Range.rangeSize 0 (m.val : Int) 60 = (((m.val + 59) / 60 : Nat) : Int)) := by decide +kernel
  have h := this ⟨m, by omega⟩ h0
  exact ⟨by decide, by decide, h.1, h.2⟩
theorem cut60 (l : List Nat) (a : Nat) : Txt.slice (S l) (some (a : Int)) (some ((a : Int) + 60)) = S ((l.drop a).take 60) := by
  rw [slice_S]
  have e1 : HT.sIx l.length 0 (some (a : Int)) = min a l.length := by
    show (if (a : Int) < 0 then ((a : Int) + (l.length : Int)).toNat else min (a : Int).toNat l.length) = _
    rw [if_neg (by omega), Int.toNat_natCast]
  have e2 : HT.sIx l.length l.length (some ((a : Int) + 60)) = min (a + 60) l.length := by
    show (if (a : Int) + 60 < 0 then ((a : Int) + 60 + (l.length : Int)).toNat else min ((a : Int) + 60).toNat l.length) = _
    rw [if_neg (by omega)]
    congr 1
  rw [e1, e2]
  congr 1
  by_cases h : a ≤ l.length
  · rw [Nat.min_eq_left h]
    by_cases h2 : a + 60 ≤ l.length
    · rw [Nat.min_eq_left h2]
      congr 1
      omega
    · rw [Nat.min_eq_right (by omega), List.take_of_length_le (by rw [List.length_drop]; omega), List.take_of_length_le (by rw [List.length_drop]; omega)]
  · rw [List.drop_of_length_le (show l.length ≤ a by omega), List.drop_of_length_le (by omega)]
    simp
theorem ixLast {xs : List V} {v : V} : ixN (xs ++ [v]).length (-1) = some xs.length := by
  unfold ixN
  rw [if_neg (by omega), if_pos (by rw [List.length_append]; show -((xs.length + 1 : Nat) : Int) ≤ -1; omega)]
  congr 1
  rw [List.length_append]
  show ((-1 : Int) + ((xs.length + 1 : Nat) : Int)).toNat = xs.length
  omega
def linesL (l m : List Nat) : Nat → List (List Nat)
  | 0 => []
  | k + 1 => linesL l m k ++ [(l.drop (60 * k)).take 60, (m.drop (60 * k)).take 60]
theorem linesL_len (l m : List Nat) : ∀ k, (linesL l m k).length = 2 * k
  | 0 => rfl
  | k + 1 => by
    show (linesL l m k ++ [_, _]).length = _
    rw [List.length_append, linesL_len l m k]
    show 2 * k + 2 = _
    omega
/-- the rows, a sign at the end if something is lost there -/
def finL (l m : List Nat) (j : Nat) (g : Bool) : List (List Nat) := linesL l m j ++ [(l.drop (60 * j)).take 60, (m.drop (60 * j)).take 60 ++ (if g then [95] else [])]
/-- how many rows -/
def rows (n : Nat) : Nat := (max n 1 + 59) / 60
theorem rows_pos (n : Nat) : 1 ≤ rows n := by
  unfold rows
  omega
def markC (n g : Bool) : Nat := if g then (if n then 35 else 95) else (if n then 94 else 32)
def zipM (ns gs : List Bool) : List Nat := List.zipWith markC ns gs
def marksN (t : List Nat) (es : List Ed) : List Bool × List Bool := es.foldl (fun s e => markE e s) (List.replicate t.length false, List.replicate (t.length + 1) false)
theorem marksN_snoc (t : List Nat) (es : List Ed) (e : Ed) : marksN t (es ++ [e]) = markE e (marksN t es) := by
  unfold marksN
  rw [List.foldl_append]
  rfl
theorem fits_of {c u : List Nat} {e : Ed} (d : doE c e = some u) : fits e c.length := by
  cases e with
  | put a k => exact (inv_put d).1.1
  | lost a => exact (inv_lost d).1
  | chg a k => exact (inv_chg d).1.1
theorem markE_len {c u : List Nat} {e : Ed} {s : List Bool × List Bool} (d : doE c e = some u) (h1 : s.1.length = c.length) (h2 : s.2.length = c.length + 1) : (markE e s).1.length = u.length ∧ (markE e s).2.length = u.length + 1 := by
  obtain ⟨ns, gs⟩ := s
  cases e with
  | put a k =>
    obtain ⟨h, rfl⟩ := inv_put d
    have h1 : ns.length = c.length := h1
    have h2 : gs.length = c.length + 1 := h2
    constructor
    · show (ns.take a ++ [true] ++ ns.drop a).length = (c.take a ++ [k] ++ c.drop a).length
      simp only [List.length_append, List.length_take, List.length_drop, List.length_singleton]
      omega
    · show (gs.take a ++ [false] ++ gs.drop a).length = (c.take a ++ [k] ++ c.drop a).length + 1
      simp only [List.length_append, List.length_take, List.length_drop, List.length_singleton]
      omega
  | lost a =>
    obtain ⟨h, rfl⟩ := inv_lost d
    have h1 : ns.length = c.length := h1
    have h2 : gs.length = c.length + 1 := h2
    constructor
    · show (ns.eraseIdx a).length = (c.take a ++ c.drop (a + 1)).length
      rw [List.length_eraseIdx_of_lt (by omega)]
      simp only [List.length_append, List.length_take, List.length_drop]
      omega
    · show ((gs.eraseIdx a).set a true).length = (c.take a ++ c.drop (a + 1)).length + 1
      rw [List.length_set, List.length_eraseIdx_of_lt (by omega)]
      simp only [List.length_append, List.length_take, List.length_drop]
      omega
  | chg a k =>
    obtain ⟨h, rfl⟩ := inv_chg d
    have h1 : ns.length = c.length := h1
    have h2 : gs.length = c.length + 1 := h2
    constructor
    · show (ns.set a true).length = (c.take a ++ [k] ++ c.drop (a + 1)).length
      rw [List.length_set]
      simp only [List.length_append, List.length_take, List.length_drop, List.length_singleton]
      omega
    · show gs.length = (c.take a ++ [k] ++ c.drop (a + 1)).length + 1
      simp only [List.length_append, List.length_take, List.length_drop, List.length_singleton]
      omega
theorem marksN_len {t u : List Nat} {es : List Ed} (h : Path t es u) : (marksN t es).1.length = u.length ∧ (marksN t es).2.length = u.length + 1 := by
  have : ∀ (s : List Bool × List Bool) (t u : List Nat) (es : List Ed), Path t es u → s.1.length = t.length → s.2.length = t.length + 1 → (es.foldl (fun s e => markE e s) s).1.length = u.length ∧ (es.foldl (fun s e => markE e s) s).2.length = u.length + 1 := by
    intro s t u es h
    induction h generalizing s with
    | nil t => exact fun a b => ⟨a, b⟩
    | cons d _ ih =>
      intro a b
      obtain ⟨c1, c2⟩ := markE_len d a b
      exact ih _ c1 c2
  exact this _ t u es h (List.length_replicate ..) (List.length_replicate ..)
section
variable {P : Program} {w : World} {K : PySem.W.Frag} {mg : Str → Option Value} {base : Heap} (T : Tx K mg)
def sp_mark_of (K : PySem.W.Frag) : Sp := fun vs H Q _ => ∃ n g : Bool, vs = [.bl n, .bl g] ∧ Q (.str (S [markC n g])) H
theorem ok_mark_of : FnOk P w K mg base CX0 1 T.f_mark_of T.fd_mark_of ["is_new", "has_gap"] (sp_mark_of K) := by
  refine T.F_mark_of.ok sc_mark_of (fun vs H Q E h => ?_) (fun cdv A outer s H vs Q E hr h => ?_)
  · obtain ⟨n, g, rfl, _⟩ := h
    rfl
  · obtain ⟨n, g, rfl, q⟩ := h
    refine ⟨_, (pss_cons (ps_if (pt_val (pv 1))
      (pss_one (ps_ret (pe_ifExp (pt_val (pv 0)) pe_str pe_str)))
      pss_nil)
    (pss_one (ps_ret (pe_ifExp (pt_val (pv 0)) pe_str pe_str)))), ?_⟩
    cases g with
    | true =>
      cases n with
      | true => exact go_seq (go_if ⟨_, rfl, _, rfl, iteT (B := _) (go_ret ⟨_, rfl, _, rfl, iteT (B := _) q⟩)⟩)
      | false => exact go_seq (go_if ⟨_, rfl, _, rfl, iteT (B := _) (go_ret ⟨_, rfl, _, rfl, iteF (A := _) q⟩)⟩)
    | false =>
      cases n with
      | true =>
        refine go_seq (go_if ⟨_, rfl, _, rfl, iteF (A := _) ?_⟩)
        dsimp only [tNext]
        exact go_ret ⟨_, rfl, _, rfl, iteT (B := _) q⟩
      | false =>
        refine go_seq (go_if ⟨_, rfl, _, rfl, iteF (A := _) ?_⟩)
        dsimp only [tNext]
        exact go_ret ⟨_, rfl, _, rfl, iteF (A := _) q⟩
def RMarks : List Nat → List Nat → List Ed → V → Hp → Prop := fun t u es r H' => ∃ D, r = .ref D ∧ H' D = some (.tup ((finL u (zipM (marksN t es).1 (marksN t es).2) (rows u.length - 1) ((marksN t es).2.getD u.length false)).map tx))
theorem ok_marks_of : FnOk P w K mg base (L2.CX P w) 13 T.f_marks_of T.fd_marks_of ["text", "edits"] (AskS K T.e_BadText.C T.e_BadEdits.C RMarks) := by
  refine T.F_marks_of.okX sc_marks_of (fun vs H Q E h => ?_) (fun cdv A outer s H vs Q E hr h => ?_)
  · obtain ⟨x, y, rfl, _⟩ := h
    rfl
  · obtain ⟨x, y, rfl, h⟩ := h
    refine ⟨_, (pss_cons (ps_set (i := 2) sc_marks_of.nd rfl (.inl rfl) (pe_call (ok_damaged T) (hr.mono (by decide)) (by rfl) T.g_damaged T.F_damaged.kp T.b_damaged .nil (passes_call (takes_of rfl rfl rfl rfl) (fun _ _ _ _ h => h)) (pa_cons (pv 0) (pa_cons (pv 1) pa_nil))))
    (pss_cons (ps_set (i := 3) sc_marks_of.nd rfl (.inl rfl) (pe_make T.mk_Marking (ok_Marking_init T) (hr.mono (by decide)) (by rfl) T.gC_Marking T.b_Marking_init .nil pass0 (pa_cons (pe_callB call_len_str (by rfl) T.m_len PySem.boot_len (pa_cons (pv 0) pa_nil)) pa_nil)))
    (pss_cons (ps_for (passes_of rfl) rfl (pi_seq (pv 1)) (pg_name (i := 4) sc_marks_of.nd rfl (.inl rfl))
      (pss_one (ps_expr (pe_call (ok_mark_edit T) (hr.mono (by decide)) (by rfl) T.g_mark_edit T.F_mark_edit.kp T.b_mark_edit .nil pass0 (pa_cons (pv 3) (pa_cons (pv 4) pa_nil))))))
    (pss_cons (ps_set (i := 7) sc_marks_of.nd rfl (.inl rfl) (pe_join pe_str (pe_lc (own := [("is_new", 5), ("has_gap", 6)]) rfl sc_marks_of.nd (pi_zip (by rfl) T.m_zip (pa_cons (pe_fld (pv 3) rfl) (pa_cons (pe_fld (pv 3) rfl) pa_nil))) (blkOk_by (own := [("is_new", 5), ("has_gap", 6)]) (N := ["text", "edits", "left", "marking", "edit", "is_new", "has_gap", "marks", "lines", "begin"]) (sc := defScope s_marks_of) (by decide +kernel)) (fun _ _ _ _ _ => (inK_pg_tup (K := K) (n := 2) (t := (gCons (gName 5) (gCons (gName 6) gNil))) rfl rfl (pgs_cons (pg_name (i := 5) sc_marks_of.nd rfl (.inl rfl)) (pgs_cons (pg_name (i := 6) sc_marks_of.nd rfl (.inl rfl)) pgs_nil)))) (fun _ _ _ _ _ => pts_nil) (fun _ _ _ _ _ => (pe_call (ok_mark_of T) (hr.mono (by decide)) (by rfl) T.g_mark_of T.F_mark_of.kp T.b_mark_of .nil pass0 (pa_cons (pv 5) (pa_cons (pv 6) pa_nil)))))))
    (pss_cons (ps_set (i := 8) sc_marks_of.nd rfl (.inl rfl) (pe_lst pa_nil))
    (pss_cons (ps_for (passes_of rfl) rfl (pi_range3 (by rfl) T.m_range (pa_cons pe_int (pa_cons (pe_callB (call_max2 rfl) (by rfl) T.m_max (by decide +kernel) (pa_cons (pe_callB call_len_str (by rfl) T.m_len PySem.boot_len (pa_cons (pv 2) pa_nil)) (pa_cons pe_int pa_nil))) (pa_cons (pe_glob (v := .int 60) (by rfl) T.c_SIGNS_OF_LINE ⟨_, rfl⟩) pa_nil)))) (pg_name (i := 9) sc_marks_of.nd rfl (.inl rfl))
      (pss_one (ps_expr (pe_bm PySem.F.plainAttrs_list PySem.F.slot_list_extend PySem.F.type_list_extend mt_extend (pv 8) (pa_cons (pe_lst (pa_cons (pe_slice C8.sl_txt (pv 2) (po_some (pv 9)) (po_some (pe_op op_add (pv 9) (pe_glob (v := .int 60) (by rfl) T.c_SIGNS_OF_LINE ⟨_, rfl⟩)))) (pa_cons (pe_slice C8.sl_txt (pv 7) (po_some (pv 9)) (po_some (pe_op op_add (pv 9) (pe_glob (v := .int 60) (by rfl) T.c_SIGNS_OF_LINE ⟨_, rfl⟩)))) pa_nil))) pa_nil)))))
    (pss_cons (ps_if (pt_val (pe_ix ix_list (pe_fld (pv 3) rfl) (pe_un un_neg pe_int) (fun _ _ => rfl)))
      (pss_one (ps_asg (pe_op op_add_str (pe_ix ix_list (pv 8) (pe_un un_neg pe_int) (fun _ _ => rfl)) pe_str) (pg_sub (pv 8) (pe_un un_neg pe_int) set_list)))
      pss_nil)
    (pss_one (ps_ret (pe_callTy call_tuple_of (by rfl) T.m_tuple (by decide +kernel) (pa_cons (pv 8) pa_nil))))))))))), ?_⟩
    rcases h with h | h | ⟨t, u, p, es, rfl, rfl, htx, hE, ho, le, lt, hu, q⟩
    · exact go_seq (go_asg ⟨_, rfl, _, rfl, x, y, rfl, .inl h⟩)
    · exact go_seq (go_asg ⟨_, rfl, _, rfl, x, y, rfl, .inr (.inl h)⟩)
    have lu := (Path.len hu).1
    refine go_seq (go_asg ⟨_, rfl, _, rfl, _, _, rfl, .inr (.inr ⟨t, u, p, es, rfl, rfl, htx, hE, ho, le, lt, hu, fun r H1 e1 hr => ?_⟩)⟩)
    subst hr
    dsimp only [gName]
    refine go_seq (go_asg ⟨_, rfl, S t, rfl, len_le (by omega), fun x dx nx ndx _ => ⟨x, dx, t.length, ?_, upd_same, lt, fun H2 n g keep n0 g0 hM => ⟨rfl, ?_⟩⟩⟩)
    · rw [S_len]
      rfl
    have s12 : Same H1 H2 := fun b u h => keep b u (by rw [upd_ne (ne_of_none h nx), upd_ne (ne_of_none h ndx)]; exact h) (ne_of_none h nx)
    have un : ∀ {m : Addr}, upd (upd H1 dx (HO.own x)) x (HO.ins T.C_Marking dx []) m = none → H1 m = none := fun {m} h => by
      by_cases a1 : m = x
      · rw [a1, upd_same] at h
        cases h
      rw [upd_ne a1] at h
      by_cases a2 : m = dx
      · rw [a2, upd_same] at h
        cases h
      rw [upd_ne a2] at h
      exact h
    have n1 := un n0
    have g1 := un g0
    clear keep n0 g0 un nx ndx
    dsimp only [gName]
    obtain ⟨ps, hq, lp, hp⟩ := hE.same e1
    refine go_seq (for_seq (a := p) (xs := ps.map V.ref) (by exact rfl) hq s12 (fun i σ H' => ∃ o4, σ = [some (.str (S t)), some (.ref p), some (.str (S u)), some (.ref x), o4, none, none, none, none, none] ∧ MarkN T.C_Marking H' x n g (marksN t (es.take i)).1 (marksN t (es.take i)).2 ∧ Same H1 H')
      ⟨none, rfl, hM, s12⟩ (fun i σ' H' _ h => ?_) (fun i v σ' Hd hv h => ?_) (fun σ' Hd h => ?_))
    · obtain ⟨_, _, _, e⟩ := h
      exact e
    · obtain ⟨o4, rfl, hM, ed⟩ := h
      obtain ⟨q', hq', rfl⟩ := ref_get hv
      obtain ⟨e, he⟩ := ed_of lp hq'
      have hi : i < es.length := (List.getElem?_eq_some_iff.mp he).1
      obtain ⟨c, hc1, hc2⟩ := trail_at (i := i) (by omega) hu
      have lc := (Path.len hc2).1
      rw [List.length_take] at lc
      obtain ⟨c2, g2, g3⟩ := hu.split (i + 1)
      have hd : doE c e = some c2 := by
        rw [take_snoc he] at g2
        cases hh : doE c e with
        | none => exact (hu.not ⟨i, e, c, he, hc2, hh⟩).elim
        | some z => rw [g2.det (hc2.snoc hh)]
      obtain ⟨k1, k2⟩ := marksN_len hc2
      dsimp only [gName]
      refine ⟨_, rfl, _, rfl, x, q', n, g, _, _, e, rfl, hM, Same.q ed (hp i q' e hq' he), by rw [k1]; exact fits_of hd, by rw [k1, k2], by rw [k1]; omega, fun H3 k3 hM3 => ?_⟩
      refine ⟨_, rfl, ?_, fun b w hb => k3 b w (ed _ _ hb) (ne_of_none hb n1) (ne_of_none hb g1)⟩
      rw [take_snoc he, marksN_snoc]
      exact hM3
    obtain ⟨o4, rfl, hM, ed⟩ := h
    rw [List.length_map, lp, List.take_length] at hM
    obtain ⟨k1, k2⟩ := marksN_len hu
    have e2 := e1.trans ed
    clear hq hp lp s12 n1 g1 e1
    have q2 : ∀ (D : Addr) (H' : Hp), Same H H' → H' D = some (.tup ((finL u (zipM (marksN t es).1 (marksN t es).2) (rows u.length - 1) ((marksN t es).2.getD u.length false)).map tx)) → Q (.ref D) H' := fun D H' e hD => q _ H' e ⟨D, rfl, hD⟩
    clear q
    generalize marksN t es = ms at hM k1 k2 q2 ⊢
    obtain ⟨ns, gs⟩ := ms
    obtain ⟨dx, hx, hn, hg, hng⟩ := id hM
    dsimp only
    have k1 : ns.length = u.length := k1
    have k2 : gs.length = u.length + 1 := k2
    have hn : Hd n = some (.lst (ns.map V.bl)) := hn
    have hg : Hd g = some (.lst (gs.map V.bl)) := hg
    have lz : (zipM ns gs).length = u.length := by
      unfold zipM
      rw [List.length_zipWith]
      omega
    refine go_seq (go_asg ⟨⟨_, rfl⟩, _, rfl, x, _, dx, _, .ref n, rfl, hx, T.cl_Marking, T.na_Marking_news, rfl, _, rfl, x, _, dx, _, .ref g, rfl, hx, T.cl_Marking, T.na_Marking_gaps, rfl, n, g, _, _, rfl, .inl (.inl hn), .inl (.inl hg), fun D nD => lc_out (walk_zip rfl) (signsV (zipM ns gs)) (by rw [List.length_map, List.length_map]; unfold signsV; rw [List.length_map, lz]; omega) nD (by rw [List.length_map, List.length_map]; omega) (fun Hc e => ⟨.inl (.inl (e _ _ hn)), .inl (.inl (e _ _ hg))⟩) (fun i y z Hc Hx Q' R' _ hzi e hy q' => ?_) (fun H3 e3 hD => ?_)⟩)
    · obtain ⟨v, x', y', rfl, nt, rfl, h1, h2⟩ := hy
      obtain ⟨b1, hb1, rfl⟩ := map_at h1
      obtain ⟨b2, hb2, rfl⟩ := map_at h2
      obtain ⟨cz, hcz, rfl⟩ := map_at hzi
      have : cz = markC b1 b2 := by
        unfold zipM at hcz
        rw [List.getElem?_zipWith, hb1, hb2] at hcz
        exact (Option.some.inj hcz).symm
      subst this
      refine ⟨v, _, rfl, .inl (.inl upd_same), rfl, _, _, rfl, _, _, rfl, rfl, rfl, ?_⟩
      refine iteT (B := True) ?_
      exact ⟨_, rfl, _, rfl, b1, b2, rfl, q' _ (same_new nt)⟩
    rw [signs_map] at hD
    refine ⟨"", D, (zipM ns gs).map fun c => S [c], rfl, rfl, .inl (.inl (.inl hD)), ?_, ?_⟩
    · rw [sum_signs, List.length_map, lz]
      show u.length + u.length * 0 ≤ 16777216
      omega
    rw [join_signs]
    have e3' := e2.trans e3
    have hx3 := e3 _ _ hx
    have hg3 := e3 _ _ hg
    clear hD nD hn hx hg e3 e2 ed hM
    dsimp only [gName]
    refine go_seq (go_asg (go_lst (go_nil ⟨Nat.zero_le _, fun L nL => ?_⟩)))
    have hL : upd H3 L (HO.lst []) L = some (.lst ((linesL u (zipM ns gs) 0).map tx)) := upd_same
    have x4 := same_new (o := HO.lst []) nL
    have e4 := e3'.trans x4
    have nLH : H L = none := same_none e3' nL
    have hx4 := x4 _ _ hx3
    have hg4 := x4 _ _ hg3
    have hLx : L ≠ x := fun z => by
      rw [z, hx3] at nL
      cases nL
    have hLg : L ≠ g := fun z => by
      rw [z, hg3] at nL
      cases nL
    generalize upd H3 L (HO.lst []) = H4 at hL e4 hx4 hg4 ⊢
    clear x4 nL e3' hx3 hg3
    dsimp only [gName]
    have mx : (if (1 : Int) > ((S u).length : Int) then (1 : Int) else ((S u).length : Int)) = ((max u.length 1 : Nat) : Int) := by
      rw [S_len]
      split <;> omega
    refine go_seq ⟨_, rfl, S u, rfl, len_le (by omega), _, _, rfl, ?_⟩
    rw [mx]
    refine ⟨_, _, _, rows u.length, rfl, rg60 (by omega) (by omega), for_rangeC (fun i σ H' => ∃ o9, σ = [some (.str (S t)), some (.ref p), some (.str (S u)), some (.ref x), o4, none, none, some (.str (S (zipM ns gs))), some (.ref L), o9] ∧ H' L = some (.lst ((linesL u (zipM ns gs) i).map tx)) ∧ H' x = some (.ins T.C_Marking dx [("news", .ref n), ("gaps", .ref g)]) ∧ H' g = some (.lst (gs.map V.bl)) ∧ Same H H')
      ⟨none, rfl, hL, hx4, hg4, e4⟩ (fun i σ' Hc hi h => ?_) (fun σ' Hc h => ?_)⟩
    · obtain ⟨o9, rfl, hL, hx, hg, ec⟩ := h
      dsimp only [gName]
      have eb : (0 + (i : Int) * 60) = ((60 * i : Nat) : Int) := by omega
      rw [eb]
      have lr : rows u.length ≤ 40 := by
        unfold rows
        omega
      refine ⟨_, rfl, .inl ⟨rfl, _, .inl (.inl hL)⟩, _, rfl, _, rfl, ((60 * i : Nat) : Int), rfl, _, rfl, _, _, rfl, rfl, ((60 * i : Nat) : Int) + 60, rfl, S u, rfl, len_le (by omega), ?_⟩
      rw [cut60]
      refine ⟨_, rfl, _, rfl, ((60 * i : Nat) : Int), rfl, _, rfl, _, _, rfl, rfl, ((60 * i : Nat) : Int) + 60, rfl, S (zipM ns gs), rfl, len_le (by omega), ?_⟩
      rw [cut60]
      refine ⟨sz2, fun Z nZ => ⟨L, Z, _, _, rfl, rfl, same_new nZ _ _ hL, upd_same, ?_, ?_⟩⟩
      · rw [List.length_map, linesL_len]
        exact Nat.le_trans (show 2 * i + 2 ≤ 200 by omega) (by decide)
      have xz := same_new (o := HO.lst [tx ((u.drop (60 * i)).take 60), tx (((zipM ns gs).drop (60 * i)).take 60)]) nZ
      dsimp only
      refine ⟨_, rfl, ?_, ?_, ?_, same_set (ec.trans xz) nLH⟩
      · rw [upd_same]
        show _ = some (HO.lst ((linesL u (zipM ns gs) i ++ [_, _]).map tx))
        rw [List.map_append]
        rfl
      · rw [upd_ne (Ne.symm hLx)]
        exact xz _ _ hx
      · rw [upd_ne (Ne.symm hLg)]
        exact xz _ _ hg
    · obtain ⟨o9, rfl, hL, hx, hg, ec⟩ := h
      dsimp only
      obtain ⟨j, hj⟩ : ∃ j, rows u.length = j + 1 := ⟨rows u.length - 1, by have := rows_pos u.length; omega⟩
      rw [hj] at hL
      have q' : ∀ (D : Addr) (H' : Hp), Same H H' → H' D = some (.tup ((finL u (zipM ns gs) j (gs.getD u.length false)).map tx)) → Q (.ref D) H' := fun D H' e hD => q2 D H' e (by rw [hj]; exact hD)
      have hgs : gs = gs.take u.length ++ [gs.getD u.length false] := by
        have h1 : u.length < gs.length := by omega
        rw [List.getD_eq_getElem?_getD, List.getElem?_eq_getElem h1]
        show gs = gs.take u.length ++ [gs[u.length]]
        have h2 := List.take_append_getElem (l := gs) h1
        rw [List.take_of_length_le (show gs.length ≤ u.length + 1 by omega)] at h2
        exact h2.symm
      generalize gs.getD u.length false = gl at q' hgs ⊢
      have e0 : (linesL u (zipM ns gs) (j + 1)).map tx = (linesL u (zipM ns gs) j ++ [(u.drop (60 * j)).take 60]).map tx ++ [tx (((zipM ns gs).drop (60 * j)).take 60)] := by
        show (linesL u (zipM ns gs) j ++ [_, _]).map tx = _
        rw [List.map_append, List.map_append, List.append_assoc]
        rfl
      have ef : ∀ b, (finL u (zipM ns gs) j b).map tx = (linesL u (zipM ns gs) j ++ [(u.drop (60 * j)).take 60]).map tx ++ [tx (((zipM ns gs).drop (60 * j)).take 60 ++ (if b then [95] else []))] := fun b => by
        unfold finL
        rw [List.map_append, List.map_append, List.append_assoc]
        rfl
      rw [ef] at q'
      rw [e0] at hL
      have lB : (((zipM ns gs).drop (60 * j)).take 60).length ≤ 60 := by rw [List.length_take]; omega
      have li : ((linesL u (zipM ns gs) j ++ [(u.drop (60 * j)).take 60]).map tx).length = 2 * j + 1 := by
        rw [List.length_map, List.length_append, linesL_len]
        rfl
      generalize (linesL u (zipM ns gs) j ++ [(u.drop (60 * j)).take 60]).map tx = ini at hL q' li
      generalize ((zipM ns gs).drop (60 * j)).take 60 = B at hL q' lB
      have eg : gs.map V.bl = (gs.take u.length).map V.bl ++ [V.bl gl] := (congrArg (List.map V.bl) hgs).trans (by rw [List.map_append]; rfl)
      rw [eg] at hg
      refine go_seq (go_if (go_b ⟨_, rfl, x, _, dx, _, .ref g, rfl, hx, T.cl_Marking, T.na_Marking_gaps, rfl, 1, rfl, g, _, -1, .bl gl, rfl, rfl, .inl (.inl hg), at_last, _, rfl, ?_⟩))
      cases gl with
      | true =>
        refine iteT (B := _) ?_
        refine go_asg ⟨_, rfl, 1, rfl, L, _, -1, tx B, rfl, rfl, .inl (.inl hL), at_last, S B, S [95], rfl, rfl, app_le (by show B.length + 1 ≤ _; omega), ?_⟩
        rw [S_app]
        refine ⟨_, rfl, 1, rfl, L, _, -1, ini.length, rfl, rfl, hL, ixLast, ?_⟩
        have es : (ini ++ [tx B]).set ini.length (V.str (S (B ++ [95]))) = ini ++ [tx (B ++ [95])] := by
          rw [List.set_append_right _ _ (Nat.le_refl _), Nat.sub_self]
          rfl
        rw [es]
        dsimp only
        have e5 : Same H (upd Hc L (.lst (ini ++ [tx (B ++ [95])]))) := same_set ec nLH
        refine go_ret ⟨_, rfl, L, _, rfl, .inl ⟨.inl (.inl upd_same), fun D nD => ?_⟩⟩
        exact q' D _ (e5.trans (same_new nD)) upd_same
      | false =>
        refine iteF (A := _) ?_
        dsimp only [tNext]
        refine go_ret ⟨_, rfl, L, _, rfl, .inl ⟨.inl (.inl hL), fun D nD => ?_⟩⟩
        refine q' D _ (ec.trans (same_new nD)) ?_
        rw [upd_same]
        show some (HO.tup (ini ++ [tx B])) = some (HO.tup (ini ++ [tx (B ++ [])]))
        rw [List.append_nil]
end
end K55
namespace K55
open PySem PySem.Spec PyProof.Rows L2 Kx SX LamX
section
variable {K : PySem.W.Frag}
/-- edits, a tuple of tuples -/
def EdsT (H : Hp) (D : Addr) (es : List Ed) : Prop := ∃ ps : List Addr, H D = some (.tup (ps.map V.ref)) ∧ ps.length = es.length ∧ ∀ (i : Nat) (q : Addr) (e : Ed), ps[i]? = some q → es[i]? = some e → H q = some (.tup e.vs)
theorem EdsT.same {H H' : Hp} {p : Addr} {es : List Ed} (e : Same H H') (h : EdsT H p es) : EdsT H' p es := by
  obtain ⟨ps, h1, h2, h3⟩ := h
  exact ⟨ps, e _ _ h1, h2, fun i q d a b => e _ _ (h3 i q d a b)⟩
theorem EdsT.q {H : Hp} {p : Addr} {es : List Ed} (h : EdsT H p es) : EdsQ K H p es := by
  obtain ⟨ps, h1, h2, h3⟩ := h
  exact ⟨ps, .inr (.inl (.inl h1)), h2, fun i q e a b => .inr (.inl (.inl (h3 i q e a b)))⟩
/-- edits, a list of tuples -/
def EdsL (H : Hp) (D : Addr) (es : List Ed) : Prop := ∃ ps : List Addr, H D = some (.lst (ps.map V.ref)) ∧ ps.length = es.length ∧ ∀ (i : Nat) (q : Addr) (e : Ed), ps[i]? = some q → es[i]? = some e → H q = some (.tup e.vs)
theorem EdsL.same {H H' : Hp} {p : Addr} {es : List Ed} (e : Same H H') (h : EdsL H p es) : EdsL H' p es := by
  obtain ⟨ps, h1, h2, h3⟩ := h
  exact ⟨ps, e _ _ h1, h2, fun i q d a b => e _ _ (h3 i q d a b)⟩
theorem EdsL.q {H : Hp} {p : Addr} {es : List Ed} (h : EdsL H p es) : EdsQ K H p es := by
  obtain ⟨ps, h1, h2, h3⟩ := h
  exact ⟨ps, .inl (.inl (.inl h1)), h2, fun i q e a b => .inr (.inl (.inl (h3 i q e a b)))⟩
/-- one edit more -/
theorem EdsL.add {H H' : Hp} {D t : Addr} {es : List Ed} {e : Ed} (h : EdsL H D es) (m : Mv D H H') (ht : H' t = some (.tup e.vs)) (hD : ∀ ps : List Addr, H D = some (.lst (ps.map V.ref)) → H' D = some (.lst (ps.map V.ref ++ [.ref t]))) : EdsL H' D (es ++ [e]) := by
  obtain ⟨ps, h1, h2, h3⟩ := h
  refine ⟨ps ++ [t], by rw [hD ps h1, List.map_append]; rfl, by rw [List.length_append, List.length_append, h2]; rfl, fun i q d a b => ?_⟩
  by_cases hi : i < ps.length
  · rw [List.getElem?_append_left hi] at a
    rw [List.getElem?_append_left (by omega)] at b
    have := h3 i q d a b
    exact m _ _ (fun z => by rw [z, h1] at this; cases this) this
  · have : i = ps.length := by
      have := (List.getElem?_eq_some_iff.mp a).1
      rw [List.length_append] at this
      have h1 : ([t] : List Addr).length = 1 := rfl
      omega
    subst this
    rw [List.getElem?_append_right (by omega), Nat.sub_self] at a
    rw [h2, List.getElem?_append_right (by omega), Nat.sub_self] at b
    cases a
    cases b
    exact ht
theorem EdsL.rev {H H' : Hp} {D D' : Addr} {es : List Ed} (e : Same H H') (h : EdsL H D es) (hD : ∀ ps : List Addr, H D = some (.lst (ps.map V.ref)) → H' D' = some (.tup (ps.map V.ref).reverse)) : EdsT H' D' es.reverse := by
  obtain ⟨ps, h1, h2, h3⟩ := h
  refine ⟨ps.reverse, by rw [hD ps h1, List.map_reverse], by rw [List.length_reverse, List.length_reverse, h2], fun i q d a b => ?_⟩
  have hi := (List.getElem?_eq_some_iff.mp a).1
  rw [List.length_reverse] at hi
  rw [List.getElem?_reverse (by omega)] at a b
  rw [← h2] at b
  exact e _ _ (h3 _ q d a b)
/-! ### edits as data -/
def Ed.ds : Ed → List PyData
  | .put a c => [.str "put", .int (a : Nat), .str (S [c])]
  | .lost a => [.str "lost", .int (a : Nat)]
  | .chg a c => [.str "changed", .int (a : Nat), .str (S [c])]
def Ed.pl : Ed → Nat
  | .put a _ => a
  | .lost a => a
  | .chg a _ => a
def Ed.fine (e : Ed) : Prop := e.ok = true ∧ e.pl < 1000000
theorem ed_dp {H : Hp} (e : Ed) : DpAll K H e.vs e.ds := by
  cases e with
  | put a c => exact .cons (.str _) (.cons (.int _) (.cons (.str _) .nil))
  | lost a => exact .cons (.str _) (.cons (.int _) .nil)
  | chg a c => exact .cons (.str _) (.cons (.int _) (.cons (.str _) .nil))
theorem sg_cd {c : Nat} (h : sg c = true) : cdC [c] := by
  have hc : c < 1114112 := by
    unfold sg low at h
    simp only [Bool.or_eq_true, Bool.and_eq_true, decide_eq_true_eq] at h
    omega
  unfold cdC
  simp [hc]
theorem ed_sh {e : Ed} (h : e.fine) : ∃ m, m ≤ 11 ∧ ShA 0 m e.ds := by
  obtain ⟨h1, h2⟩ := h
  cases e with
  | put a c =>
    have := ShA.cons (sh_str (x := "put") (l := [112, 117, 116]) rfl (by unfold cdC; decide)) (.cons (sh_int (i := (a : Nat)) (by have : a < 1000000 := h2; omega)) (.cons (sh_str (x := S [c]) rfl (sg_cd h1)) .nil))
    exact ⟨_, by simp, this⟩
  | lost a =>
    have := ShA.cons (sh_str (x := "lost") (l := [108, 111, 115, 116]) rfl (by unfold cdC; decide)) (.cons (sh_int (i := (a : Nat)) (by have : a < 1000000 := h2; omega)) .nil)
    exact ⟨_, by simp, this⟩
  | chg a c =>
    have := ShA.cons (sh_str (x := "changed") (l := [99, 104, 97, 110, 103, 101, 100]) rfl (by unfold cdC; decide)) (.cons (sh_int (i := (a : Nat)) (by have : a < 1000000 := h2; omega)) (.cons (sh_str (x := S [c]) rfl (sg_cd h1)) .nil))
    exact ⟨_, by simp, this⟩
/-- one edit, a tuple or a list -/
def edD (b : Bool) (e : Ed) : PyData := if b = true then .tuple e.ds else .list e.ds
theorem edD_sh {b : Bool} {e : Ed} (h : e.fine) : Sh 1 11 (edD b e) := by
  obtain ⟨m, hm, g⟩ := ed_sh h
  cases b with
  | true => exact g.tup.up (Nat.le_refl _) hm
  | false => exact g.lst.up (Nat.le_refl _) hm
theorem eds_sh {b : Bool} : ∀ {es : List Ed}, (∀ e ∈ es, e.fine) → ShA 1 (12 * es.length) (es.map (edD b))
  | [], _ => .nil
  | e :: r, h => by
    have := ShA.cons (edD_sh (b := b) (h e List.mem_cons_self)) (eds_sh (b := b) fun x m => h x (List.mem_cons_of_mem _ m))
    have e2 : 11 + 1 + 12 * r.length = 12 * (e :: r).length := by rw [List.length_cons]; omega
    rw [e2] at this
    exact this
theorem eds_dp {H : Hp} {b : Bool} : ∀ (ps : List Addr) (es : List Ed), ps.length = es.length → (∀ (i : Nat) (q : Addr) (e : Ed), ps[i]? = some q → es[i]? = some e → if b = true then SqT K H q e.vs else SqL K H q e.vs) → DpAll K H (ps.map V.ref) (es.map (edD b))
  | [], [], _, _ => .nil
  | [], _ :: _, h, _ => by cases h
  | _ :: _, [], h, _ => by cases h
  | q :: ps, e :: es, h, g => .cons (by
      have h0 := g 0 q e rfl rfl
      cases b with
      | true => exact .tup h0 (ed_dp e)
      | false => exact .lst h0 (ed_dp e)) (eds_dp ps es (by simpa using h) fun i q' d' a b => g (i + 1) q' d' a b)
theorem edsT_dp {H : Hp} {D : Addr} {es : List Ed} (h : EdsT H D es) : Dp K H (.ref D) (.tuple (es.map (edD true))) := by
  obtain ⟨ps, h1, h2, h3⟩ := h
  exact .tup (.inl (.inl h1)) (eds_dp ps es h2 fun i q e a b => .inl (.inl (h3 i q e a b)))
theorem edsL_dp {H : Hp} {D : Addr} {es : List Ed} (h : EdsL H D es) : Dp K H (.ref D) (.list (es.map (edD true))) := by
  obtain ⟨ps, h1, h2, h3⟩ := h
  exact .lst (.inl (.inl h1)) (eds_dp ps es h2 fun i q e a b => .inl (.inl (h3 i q e a b)))
theorem ed_plain {e : Ed} (h : e.ok = true) (b : Bool) : Pl 1 (edD b e) := by
  have kd : ∀ l : List Nat, l.all (fun c => decide (c < 1114112)) = true → Pl 0 (.str (S l)) := fun l h => pl_text h
  have : ∀ d ∈ e.ds, Pl 0 d := by
    intro d m
    cases e with
    | put a c =>
      simp only [Ed.ds, List.mem_cons, List.not_mem_nil, or_false] at m
      rcases m with rfl | rfl | rfl
      · exact kd [112, 117, 116] (by decide)
      · exact pl_int 0 _
      · exact pl_text (sg_cd h)
    | lost a =>
      simp only [Ed.ds, List.mem_cons, List.not_mem_nil, or_false] at m
      rcases m with rfl | rfl
      · exact kd [108, 111, 115, 116] (by decide)
      · exact pl_int 0 _
    | chg a c =>
      simp only [Ed.ds, List.mem_cons, List.not_mem_nil, or_false] at m
      rcases m with rfl | rfl | rfl
      · exact kd [99, 104, 97, 110, 103, 101, 100] (by decide)
      · exact pl_int 0 _
      · exact pl_text (sg_cd h)
  cases b with
  | true => exact Pl.tup this
  | false => exact Pl.lst this
theorem eds_plain {es : List Ed} (h : ∀ e ∈ es, e.ok = true) : Pl 2 (.tuple (es.map (edD true))) := Pl.tup fun d m => by
  obtain ⟨e, he, rfl⟩ := List.mem_map.mp m
  exact ed_plain (h e he) true
theorem eqvAll_same : ∀ ds : List PyData, (∀ d ∈ ds, PyData.eqv d d = true) → PyData.eqvAll ds ds = true
  | [], _ => rfl
  | d :: r, h => by
    show (PyData.eqv d d && PyData.eqvAll r r) = true
    rw [h d List.mem_cons_self, eqvAll_same r fun x m => h x (List.mem_cons_of_mem _ m)]
    rfl
theorem eqv_edsT (es : List Ed) : PyData.eqv (.tuple (es.map (edD true))) (.tuple (es.map (edD true))) = true := by
  refine eqvAll_same _ fun d m => ?_
  obtain ⟨e, _, rfl⟩ := List.mem_map.mp m
  refine eqvAll_same e.ds fun x hx => ?_
  have t : ∀ s : Str, PyData.eqv (.str s) (.str s) = true := fun s => by simp [PyData.eqv]
  have n : ∀ i : Int, PyData.eqv (.int i) (.int i) = true := fun i => by rw [eqv_int]; exact decide_eq_true rfl
  cases e with
  | put a c => simp only [Ed.ds, List.mem_cons, List.not_mem_nil, or_false] at hx; rcases hx with rfl | rfl | rfl <;> first | exact t _ | exact n _
  | lost a => simp only [Ed.ds, List.mem_cons, List.not_mem_nil, or_false] at hx; rcases hx with rfl | rfl <;> first | exact t _ | exact n _
  | chg a c => simp only [Ed.ds, List.mem_cons, List.not_mem_nil, or_false] at hx; rcases hx with rfl | rfl | rfl <;> first | exact t _ | exact n _
/-- the same edits are no others -/
theorem ne_edsT {H : Hp} {a b : Addr} {es : List Ed} {Q : VK} (ho : ∀ e ∈ es, e.ok = true) (h1 : EdsT H a es) (h2 : EdsT H b es) (q : Q (.bl false) H) : rNeD K (.ref a) (.ref b) H Q :=
  ⟨_, _, edsT_dp h1, edsT_dp h2, (eds_plain ho).shaped (by decide), (eds_plain ho).shaped (by decide), by rw [eqv_edsT]; exact q⟩
theorem fine_path {t u : List Nat} {es : List Ed} (ht : t.length + es.length < 1000000) (ho : ∀ e ∈ es, e.ok = true) (h : Path t es u) : ∀ e ∈ es, e.fine := by
  induction h with
  | nil t => exact fun e m => by cases m
  | @cons t t' u f r d _ ih =>
    have := (doE_len d).1
    rw [List.length_cons] at ht
    intro e m
    rcases List.mem_cons.mp m with rfl | m
    · refine ⟨ho _ List.mem_cons_self, ?_⟩
      cases e with
      | put a c =>
        obtain ⟨⟨h, _⟩, _⟩ := inv_put d
        show a < 1000000
        omega
      | lost a =>
        obtain ⟨h, _⟩ := inv_lost d
        show a < 1000000
        omega
      | chg a c =>
        obtain ⟨⟨h, _⟩, _⟩ := inv_chg d
        show a < 1000000
        omega
    · exact ih (by omega) (fun x m => ho x (List.mem_cons_of_mem _ m)) e m
section
variable {a : Addr} {xs : List V} {g : TG} {tt : TT} {te : TE} {vs : List Nat} {σ : L2.St} {H : Hp} {k : Nat} {Q : VK}
/-- [e for x in NAME], NAME a list: by the turn and the heap -/
theorem lc_lstit (hi : σ[k]? = some (some (.ref a))) (hq : SqL K H a xs) (Pv : Addr → Nat → Hp → Prop) (h0 : ∀ D, H D = none → Pv D 0 (upd H D (.lst []))) (hG : ∀ D i H', Pv D i H' → Same H H')
    (hs : ∀ D i x H', H D = none → xs[i]? = some x → Pv D i H' → g x (wipe σ vs) H' fun σ2 H2 => wipe σ2 vs = wipe σ vs ∧ tt σ2 H2 fun b H3 => if b = true then te σ2 H3 fun y H4 => ∃ acc, H4 D = some (.lst acc) ∧ acc.length < sizeLine ∧ Pv D (i + 1) (upd H4 D (.lst (acc ++ [y]))) else Pv D (i + 1) H3)
    (hd : ∀ D H', H D = none → Pv D xs.length H' → Q (.ref D) H') : tLc (iList K (tVar k)) g tt te vs σ H Q :=
  ⟨_, hi, a, rfl, ⟨_, hq⟩, fun D nD => lc_it (walk_list (xs := xs)) (Pv D) (h0 D nD) (fun i H' _ p => (hG D i H' p).seq hq) (fun i x Hc Hx hi p y => by
      obtain ⟨rfl, hx⟩ := y
      exact hs D i x _ nD hx p) (fun H' p => hd D H' nD p)⟩
end
theorem ed_ne_refs {e : Ed} {ps : List Addr} (h : e.vs = ps.map V.ref) : False := by
  cases ps with
  | nil => cases e <;> cases h
  | cons p r => cases e <;> · injection h with h _; cases h
/-- edits, a list of lists -/
def EdsM (H : Hp) (D : Addr) (es : List Ed) : Prop := ∃ ps : List Addr, H D = some (.lst (ps.map V.ref)) ∧ ps.length = es.length ∧ ∀ (i : Nat) (q : Addr) (e : Ed), ps[i]? = some q → es[i]? = some e → H q = some (.lst e.vs)
theorem EdsM.same {H H' : Hp} {p : Addr} {es : List Ed} (e : Same H H') (h : EdsM H p es) : EdsM H' p es := by
  obtain ⟨ps, h1, h2, h3⟩ := h
  exact ⟨ps, e _ _ h1, h2, fun i q d a b => e _ _ (h3 i q d a b)⟩
theorem EdsM.q {H : Hp} {p : Addr} {es : List Ed} (h : EdsM H p es) : EdsQ K H p es := by
  obtain ⟨ps, h1, h2, h3⟩ := h
  exact ⟨ps, .inl (.inl (.inl h1)), h2, fun i q e a b => .inl (.inl (.inl (h3 i q e a b)))⟩
theorem EdsM.add {H H' : Hp} {D t : Addr} {es : List Ed} {e : Ed} (h : EdsM H D es) (m : Mv D H H') (ht : H' t = some (.lst e.vs)) (hD : ∀ ps : List Addr, H D = some (.lst (ps.map V.ref)) → H' D = some (.lst (ps.map V.ref ++ [.ref t]))) : EdsM H' D (es ++ [e]) := by
  obtain ⟨ps, h1, h2, h3⟩ := h
  refine ⟨ps ++ [t], by rw [hD ps h1, List.map_append]; rfl, by rw [List.length_append, List.length_append, h2]; rfl, fun i q d a b => ?_⟩
  by_cases hi : i < ps.length
  · rw [List.getElem?_append_left hi] at a
    rw [List.getElem?_append_left (by omega)] at b
    have := h3 i q d a b
    exact m _ _ (fun z => by
      rw [z, h1] at this
      injection this with this
      injection this with this
      exact ed_ne_refs this.symm) this
  · have : i = ps.length := by
      have := (List.getElem?_eq_some_iff.mp a).1
      rw [List.length_append] at this
      have h1 : ([t] : List Addr).length = 1 := rfl
      omega
    subst this
    rw [List.getElem?_append_right (by omega), Nat.sub_self] at a
    rw [h2, List.getElem?_append_right (by omega), Nat.sub_self] at b
    cases a
    cases b
    exact ht
theorem edsM_dp {H : Hp} {D : Addr} {es : List Ed} (h : EdsM H D es) : Dp K H (.ref D) (.list (es.map (edD false))) := by
  obtain ⟨ps, h1, h2, h3⟩ := h
  exact .lst (.inl (.inl h1)) (eds_dp ps es h2 fun i q e a b => by
    show SqL K H q e.vs
    exact .inl (.inl (h3 i q e a b)))
/-- how edits are passed -/
structure Pas (K : PySem.W.Frag) (H : Hp) (x : Addr) (es : List Ed) : Prop where
  q : EdsQ K H x es
  d : ∃ d, Dp K H (.ref x) d ∧ Sh 2 200 d
theorem Pas.same {H H' : Hp} {x : Addr} {es : List Ed} (e : Same H H') (h : Pas K H x es) : Pas K H' x es := by
  obtain ⟨q, d, h1, h2⟩ := h
  exact ⟨q.same e, d, dp_same e _ _ h1, h2⟩
theorem pas_l {H : Hp} {x : Addr} {es : List Ed} (le : es.length ≤ 12) (hf : ∀ e ∈ es, e.fine) (h : EdsL H x es) : Pas K H x es := ⟨h.q, _, edsL_dp h, (eds_sh hf).lst.up (Nat.le_refl _) (by omega)⟩
theorem pas_t {H : Hp} {x : Addr} {es : List Ed} (le : es.length ≤ 12) (hf : ∀ e ∈ es, e.fine) (h : EdsT H x es) : Pas K H x es := ⟨h.q, _, edsT_dp h, (eds_sh hf).tup.up (Nat.le_refl _) (by omega)⟩
theorem pas_m {H : Hp} {x : Addr} {es : List Ed} (le : es.length ≤ 12) (hf : ∀ e ∈ es, e.fine) (h : EdsM H x es) : Pas K H x es := ⟨h.q, _, edsM_dp h, (eds_sh hf).lst.up (Nat.le_refl _) (by omega)⟩
/-- what the wheel's own list is not -/
theorem wh_ne_tup {H : Hp} {a c p : Addr} {n : Nat} {xs : List V} (w : Wh H a c n) (h : H p = some (.tup xs)) : p ≠ a := fun e => by
  obtain ⟨cs, t, l', h1, _⟩ := w
  rw [e, h1] at h
  cases h
theorem wh_ne_ed {H : Hp} {a c p : Addr} {n : Nat} {e : Ed} (w : Wh H a c n) (h : H p = some (.lst e.vs)) : p ≠ a := fun z => by
  obtain ⟨cs, t, l', h1, _⟩ := w
  rw [z, h1] at h
  injection h with h
  injection h with h
  cases e <;> · injection h with h _; cases h
theorem EdsL.core {H : Hp} {a c D : Addr} {n : Nat} {es : List Ed} (w : Wh H a c n) (hD : D ≠ a) (h : EdsL H D es) : EdsL (core a H) D es := by
  obtain ⟨ps, h1, h2, h3⟩ := h
  exact ⟨ps, core_at h1 hD (fun _ z => by cases z), h2, fun i q e x y => core_at (h3 i q e x y) (wh_ne_tup w (h3 i q e x y)) (fun _ z => by cases z)⟩
theorem EdsT.core {H : Hp} {a c D : Addr} {n : Nat} {es : List Ed} (w : Wh H a c n) (h : EdsT H D es) : EdsT (core a H) D es := by
  obtain ⟨ps, h1, h2, h3⟩ := h
  exact ⟨ps, core_at h1 (wh_ne_tup w h1) (fun _ z => by cases z), h2, fun i q e x y => core_at (h3 i q e x y) (wh_ne_tup w (h3 i q e x y)) (fun _ z => by cases z)⟩
theorem EdsM.core {H : Hp} {a c D : Addr} {n : Nat} {es : List Ed} (w : Wh H a c n) (hD : D ≠ a) (h : EdsM H D es) : EdsM (core a H) D es := by
  obtain ⟨ps, h1, h2, h3⟩ := h
  exact ⟨ps, core_at h1 hD (fun _ z => by cases z), h2, fun i q e x y => core_at (h3 i q e x y) (wh_ne_ed w (h3 i q e x y)) (fun _ z => by cases z)⟩
theorem EdsL.tup {H H' : Hp} {D t : Addr} {es : List Ed} (e : Same H H') (h : EdsL H D es) (ht : ∀ ps : List Addr, H D = some (.lst (ps.map V.ref)) → H' t = some (.tup (ps.map V.ref))) : EdsT H' t es := by
  obtain ⟨ps, h1, h2, h3⟩ := h
  exact ⟨ps, ht ps h1, h2, fun i q d a b => e _ _ (h3 i q d a b)⟩
end
end K55
namespace K55
open PySem PySem.Spec PyProof.Rows L2 Kx SX LamX
/-! ### rows of signs and gaps -/
abbrev Tkn := Option (Nat × Bool)
inductive TokR (H : Hp) : List V → List Tkn → Prop
  | nil : TokR H [] []
  | gap {vs : List V} {ts : List Tkn} : TokR H vs ts → TokR H (.str "gap" :: vs) (none :: ts)
  | sgn {q : Addr} {c : Nat} {b : Bool} {vs : List V} {ts : List Tkn} : H q = some (.tup [.str (S [c]), .bl b]) ∧ sg c = true → TokR H vs ts → TokR H (.ref q :: vs) (some (c, b) :: ts)
theorem TokR.same {H H' : Hp} {vs : List V} {ts : List Tkn} (e : Same H H') (h : TokR H vs ts) : TokR H' vs ts := by
  induction h with
  | nil => exact .nil
  | gap _ ih => exact .gap ih
  | sgn a _ ih => exact .sgn ⟨e _ _ a.1, a.2⟩ ih
theorem TokR.len {H : Hp} {vs : List V} {ts : List Tkn} (h : TokR H vs ts) : vs.length = ts.length := by
  induction h with
  | nil => rfl
  | gap _ ih => rw [List.length_cons, List.length_cons, ih]
  | sgn a _ ih => rw [List.length_cons, List.length_cons, ih]
theorem TokR.app {H : Hp} {vs ws : List V} {ts us : List Tkn} (h : TokR H vs ts) (k : TokR H ws us) : TokR H (vs ++ ws) (ts ++ us) := by
  induction h with
  | nil => exact k
  | gap _ ih => exact .gap ih
  | sgn a _ ih => exact .sgn a ih
theorem TokR.take {H : Hp} {vs : List V} {ts : List Tkn} (n : Nat) (h : TokR H vs ts) : TokR H (vs.take n) (ts.take n) := by
  induction h generalizing n with
  | nil => rw [List.take_nil, List.take_nil]; exact .nil
  | gap _ ih =>
    cases n with
    | zero => exact .nil
    | succ n => exact .gap (ih n)
  | sgn a _ ih =>
    cases n with
    | zero => exact .nil
    | succ n => exact .sgn a (ih n)
theorem TokR.drop {H : Hp} {vs : List V} {ts : List Tkn} (n : Nat) (h : TokR H vs ts) : TokR H (vs.drop n) (ts.drop n) := by
  induction h generalizing n with
  | nil => rw [List.drop_nil, List.drop_nil]; exact .nil
  | @gap vs ts h ih =>
    cases n with
    | zero => exact .gap h
    | succ n => exact ih n
  | @sgn q c b vs ts a h ih =>
    cases n with
    | zero => exact .sgn a h
    | succ n => exact ih n
/-- one of them -/
def TokV (H : Hp) (v : V) : Tkn → Prop
  | none => v = .str "gap"
  | some (c, b) => ∃ q, v = .ref q ∧ H q = some (.tup [.str (S [c]), .bl b]) ∧ sg c = true
theorem TokV.same {H H' : Hp} {v : V} {k : Tkn} (e : Same H H') (h : TokV H v k) : TokV H' v k := by
  match k, h with
  | none, h => exact h
  | some (c, b), ⟨q, h1, h2, h3⟩ => exact ⟨q, h1, e _ _ h2, h3⟩
theorem TokR.get {H : Hp} {vs : List V} {ts : List Tkn} {i : Nat} {v : V} (h : TokR H vs ts) (hv : vs[i]? = some v) : ∃ k, ts[i]? = some k ∧ TokV H v k := by
  induction h generalizing i with
  | nil => cases hv
  | gap _ ih =>
    cases i with
    | zero =>
      cases hv
      exact ⟨none, rfl, rfl⟩
    | succ i => exact ih hv
  | sgn a _ ih =>
    cases i with
    | zero =>
      cases hv
      exact ⟨_, rfl, _, rfl, a⟩
    | succ i => exact ih hv
def spotA : List Tkn → Nat → Nat → Nat
  | [], _, i => i
  | none :: r, l, i => spotA r l (i + 1)
  | some _ :: r, l, i => if l = 0 then i else spotA r (l - 1) (i + 1)
theorem spotA_le : ∀ (ts : List Tkn) (l i : Nat), spotA ts l i ≤ i + ts.length
  | [], _, i => Nat.le_refl _
  | none :: r, l, i => by
    have := spotA_le r l (i + 1)
    show spotA r l (i + 1) ≤ i + (r.length + 1)
    omega
  | some _ :: r, l, i => by
    have := spotA_le r (l - 1) (i + 1)
    show (if l = 0 then i else spotA r (l - 1) (i + 1)) ≤ i + (r.length + 1)
    split <;> omega
def aheadF (ts : List Tkn) (s : Nat) : Nat := if 0 < s ∧ ts.getD (s - 1) (some (0, false)) = none then s - 1 else s
def edT (ts : List Tkn) : Ed → List Tkn
  | .put a c => ts.take (aheadF ts (spotA ts a 0)) ++ [some (c, true)] ++ ts.drop (aheadF ts (spotA ts a 0))
  | .chg a c => ts.take (spotA ts a 0) ++ [some (c, true)] ++ ts.drop (spotA ts a 0 + 1)
  | .lost a => ts.take (aheadF ts (spotA ts a 0)) ++ [none] ++ (if (ts.drop (spotA ts a 0 + 1)).take 1 = [none] then (ts.drop (spotA ts a 0 + 1)).drop 1 else ts.drop (spotA ts a 0 + 1))
/-! what they stand for -/
def gapT (g : Bool) : List Tkn := if g then [none] else []
def cellT (x : Bool × Nat × Bool) : List Tkn := gapT x.1 ++ [some (x.2.1, x.2.2)]
def tokL (L : List (Bool × Nat × Bool)) (g : Bool) : List Tkn := L.flatMap cellT ++ gapT g
def Rel (t : List Nat) (s : List Bool × List Bool) (ts : List Tkn) : Prop := ∃ (L : List (Bool × Nat × Bool)) (g : Bool), ts = tokL L g ∧ t = L.map (·.2.1) ∧ s = (L.map (·.2.2), L.map (·.1) ++ [g])
theorem tokL_app (A B : List (Bool × Nat × Bool)) (g : Bool) : tokL (A ++ B) g = A.flatMap cellT ++ tokL B g := by
  unfold tokL
  rw [List.flatMap_append, List.append_assoc]
theorem spot_app : ∀ (A : List (Bool × Nat × Bool)) (r : List Tkn) (k i : Nat), spotA (A.flatMap cellT ++ r) (A.length + k) i = spotA r k (i + (A.flatMap cellT).length)
  | [], r, k, i => by
    show spotA r (0 + k) i = spotA r k (i + 0)
    rw [Nat.zero_add, Nat.add_zero]
  | (g, c, n) :: A, r, k, i => by
    have ih := spot_app A r k
    rw [List.flatMap_cons, List.append_assoc, List.length_cons]
    have e : A.length + 1 + k - 1 = A.length + k := by omega
    cases g with
    | true =>
      show (if A.length + 1 + k = 0 then i + 1 else spotA (A.flatMap cellT ++ r) (A.length + 1 + k - 1) (i + 1 + 1)) = _
      rw [if_neg (by omega), e, ih, List.length_append]
      congr 1
      show i + 1 + 1 + _ = i + (2 + _)
      omega
    | false =>
      show (if A.length + 1 + k = 0 then i else spotA (A.flatMap cellT ++ r) (A.length + 1 + k - 1) (i + 1)) = _
      rw [if_neg (by omega), e, ih, List.length_append]
      congr 1
      show i + 1 + _ = i + (1 + _)
      omega
theorem flat_last : ∀ A : List (Bool × Nat × Bool), A = [] ∨ ∃ F x, A.flatMap cellT = F ++ [some x] := fun A => by
  rcases List.eq_nil_or_concat A with h | ⟨B, y, rfl⟩
  · exact .inl h
  · refine .inr ⟨B.flatMap cellT ++ gapT y.1, (y.2.1, y.2.2), ?_⟩
    rw [List.concat_eq_append, List.flatMap_append, List.append_assoc]
    show B.flatMap cellT ++ (cellT y ++ []) = _
    rw [List.append_nil]
    rfl
/-- ahead of a gap -/
theorem ahead_gap (A : List (Bool × Nat × Bool)) (r : List Tkn) : aheadF (A.flatMap cellT ++ none :: r) ((A.flatMap cellT).length + 1) = (A.flatMap cellT).length := by
  unfold aheadF
  rw [if_pos]
  · rfl
  · refine ⟨Nat.succ_pos _, ?_⟩
    rw [Nat.add_sub_cancel, List.getD_eq_getElem?_getD, List.getElem?_append_right (Nat.le_refl _), Nat.sub_self]
    rfl
theorem ahead_no (A : List (Bool × Nat × Bool)) (r : List Tkn) : aheadF (A.flatMap cellT ++ r) (A.flatMap cellT).length = (A.flatMap cellT).length := by
  unfold aheadF
  rw [if_neg]
  rintro ⟨h1, h2⟩
  rcases flat_last A with rfl | ⟨F, x, hF⟩
  · exact absurd h1 (by simp)
  · rw [hF, List.length_append] at h2
    have e : F.length + [some x].length - 1 = F.length := by simp
    rw [e, List.append_assoc, List.getD_eq_getElem?_getD, List.getElem?_append_right (Nat.le_refl _), Nat.sub_self] at h2
    cases h2
theorem spot_at (A B : List (Bool × Nat × Bool)) (g : Bool) : spotA (tokL (A ++ B) g) A.length 0 = spotA (tokL B g) 0 (A.flatMap cellT).length := by
  rw [tokL_app]
  have := spot_app A (tokL B g) 0 0
  rw [Nat.add_zero, Nat.zero_add] at this
  exact this
theorem ahead_ok (A B : List (Bool × Nat × Bool)) (g : Bool) : aheadF (tokL (A ++ B) g) (spotA (tokL (A ++ B) g) A.length 0) = (A.flatMap cellT).length := by
  rw [spot_at, tokL_app]
  cases B with
  | nil =>
    cases g with
    | true => exact ahead_gap A []
    | false => exact ahead_no A []
  | cons x B =>
    obtain ⟨gx, c, n⟩ := x
    cases gx with
    | true => exact ahead_gap A (some (c, n) :: tokL B g)
    | false => exact ahead_no A (some (c, n) :: tokL B g)
theorem spot_cons (A B : List (Bool × Nat × Bool)) (x : Bool × Nat × Bool) (g : Bool) : (tokL (A ++ x :: B) g).take (spotA (tokL (A ++ x :: B) g) A.length 0) = A.flatMap cellT ++ gapT x.1 ∧ (tokL (A ++ x :: B) g).drop (spotA (tokL (A ++ x :: B) g) A.length 0 + 1) = tokL B g := by
  rw [spot_at, tokL_app]
  obtain ⟨gx, c, n⟩ := x
  cases gx with
  | true =>
    have e1 : spotA (tokL ((true, c, n) :: B) g) 0 (A.flatMap cellT).length = (A.flatMap cellT).length + 1 := rfl
    have e2 : A.flatMap cellT ++ tokL ((true, c, n) :: B) g = (A.flatMap cellT ++ [none]) ++ some (c, n) :: tokL B g := by
      rw [List.append_assoc]
      rfl
    have e3 : (A.flatMap cellT ++ [none]).length = (A.flatMap cellT).length + 1 := by rw [List.length_append]; rfl
    rw [e1, e2, ← e3]
    constructor
    · rw [List.take_left']
      · rfl
      · rfl
    · rw [List.drop_append, List.drop_of_length_le (Nat.le_succ _), Nat.add_sub_cancel_left]
      rfl
  | false =>
    have e1 : spotA (tokL ((false, c, n) :: B) g) 0 (A.flatMap cellT).length = (A.flatMap cellT).length := rfl
    have e2 : A.flatMap cellT ++ tokL ((false, c, n) :: B) g = A.flatMap cellT ++ some (c, n) :: tokL B g := rfl
    rw [e1, e2]
    constructor
    · rw [List.take_left']
      · show _ = A.flatMap cellT ++ []
        rw [List.append_nil]
      · rfl
    · rw [List.drop_append, List.drop_of_length_le (Nat.le_succ _), Nat.add_sub_cancel_left]
      rfl
def setG : List (Bool × Nat × Bool) → Bool → List (Bool × Nat × Bool) × Bool
  | [], _ => ([], true)
  | x :: r, g => ((true, x.2.1, x.2.2) :: r, g)
theorem strip_ok (B : List (Bool × Nat × Bool)) (g : Bool) : [none] ++ (if (tokL B g).take 1 = [none] then (tokL B g).drop 1 else tokL B g) = tokL (setG B g).1 (setG B g).2 := by
  cases B with
  | nil =>
    cases g with
    | true => rfl
    | false => rfl
  | cons x B =>
    obtain ⟨gx, c, n⟩ := x
    cases gx with
    | true =>
      have e : (tokL ((true, c, n) :: B) g).take 1 = [none] := rfl
      rw [if_pos e]
      rfl
    | false =>
      have e : ¬ (tokL ((false, c, n) :: B) g).take 1 = [none] := fun z => by cases z
      rw [if_neg e]
      rfl
theorem setG_gaps (B : List (Bool × Nat × Bool)) (g : Bool) : (B.map (·.1) ++ [g]).set 0 true = (setG B g).1.map (·.1) ++ [(setG B g).2] ∧ (setG B g).1.map (·.2.1) = B.map (·.2.1) ∧ (setG B g).1.map (·.2.2) = B.map (·.2.2) := by
  cases B with
  | nil => exact ⟨rfl, rfl, rfl⟩
  | cons x B => exact ⟨rfl, rfl, rfl⟩
theorem edT_ok {t u : List Nat} {s : List Bool × List Bool} {ts : List Tkn} {e : Ed} (d : doE t e = some u) (h : Rel t s ts) : Rel u (markE e s) (edT ts e) := by
  obtain ⟨L, g, rfl, rfl, rfl⟩ := h
  cases e with
  | put a c =>
    obtain ⟨⟨ha, _⟩, rfl⟩ := inv_put d
    rw [List.length_map] at ha
    have hL : L = L.take a ++ L.drop a := (List.take_append_drop a L).symm
    have hA : (L.take a).length = a := by rw [List.length_take]; omega
    generalize L.take a = A at hL hA
    generalize L.drop a = B at hL
    subst hL hA
    refine ⟨A ++ (false, c, true) :: B, g, ?_, ?_, ?_⟩
    · show (tokL (A ++ B) g).take (aheadF (tokL (A ++ B) g) (spotA (tokL (A ++ B) g) A.length 0)) ++ [some (c, true)] ++ (tokL (A ++ B) g).drop (aheadF (tokL (A ++ B) g) (spotA (tokL (A ++ B) g) A.length 0)) = _
      rw [ahead_ok, tokL_app, tokL_app, List.take_left, List.drop_left, List.append_assoc]
      rfl
    · rw [List.map_append, List.map_append]
      have e : (A.map (·.2.1)).length = A.length := List.length_map ..
      rw [← e, List.take_left, List.drop_left, List.append_assoc]
      rfl
    · refine Prod.ext ?_ ?_
      · show (((A ++ B).map (·.2.2)).take A.length ++ [true] ++ ((A ++ B).map (·.2.2)).drop A.length) = (A ++ (false, c, true) :: B).map (·.2.2)
        have e : (A.map (·.2.2)).length = A.length := List.length_map ..
        rw [List.map_append, List.map_append, ← e, List.take_left, List.drop_left, List.append_assoc]
        rfl
      · show (((A ++ B).map (·.1) ++ [g]).take A.length ++ [false] ++ ((A ++ B).map (·.1) ++ [g]).drop A.length) = (A ++ (false, c, true) :: B).map (·.1) ++ [g]
        have e : (A.map (·.1)).length = A.length := List.length_map ..
        rw [List.map_append, List.map_append, List.append_assoc (A.map (·.1)) (B.map (·.1)) [g], ← e, List.take_left, List.drop_left, List.append_assoc, List.append_assoc]
        rfl
  | chg a c =>
    obtain ⟨⟨ha, _⟩, rfl⟩ := inv_chg d
    rw [List.length_map] at ha
    obtain ⟨A, x, B, hL, hA⟩ : ∃ A x B, L = A ++ x :: B ∧ A.length = a := ⟨L.take a, L[a], L.drop (a + 1), by rw [← List.drop_eq_getElem_cons ha, List.take_append_drop], by rw [List.length_take]; omega⟩
    subst hL hA
    obtain ⟨s1, s2⟩ := spot_cons A B x g
    refine ⟨A ++ (x.1, c, true) :: B, g, ?_, ?_, ?_⟩
    · show (tokL (A ++ x :: B) g).take (spotA (tokL (A ++ x :: B) g) A.length 0) ++ [some (c, true)] ++ (tokL (A ++ x :: B) g).drop (spotA (tokL (A ++ x :: B) g) A.length 0 + 1) = _
      rw [s1, s2, tokL_app, List.append_assoc, List.append_assoc]
      show _ = A.flatMap cellT ++ (((gapT x.1 ++ [some (c, true)]) ++ B.flatMap cellT) ++ gapT g)
      rw [List.append_assoc (gapT x.1), List.append_assoc (gapT x.1), List.append_assoc [some (c, true)]]
      rfl
    · rw [List.map_append, List.map_append]
      have e : (A.map (·.2.1)).length = A.length := List.length_map ..
      rw [← e, List.take_left, List.drop_append, List.drop_of_length_le (Nat.le_succ _), Nat.add_sub_cancel_left, List.append_assoc]
      rfl
    · refine Prod.ext ?_ ?_
      · show ((A ++ x :: B).map (·.2.2)).set A.length true = (A ++ (x.1, c, true) :: B).map (·.2.2)
        have e : (A.map (·.2.2)).length = A.length := List.length_map ..
        rw [List.map_append, List.map_append, List.set_append_right _ _ (by rw [e]; exact Nat.le_refl _), e, Nat.sub_self]
        rfl
      · show (A ++ x :: B).map (·.1) ++ [g] = (A ++ (x.1, c, true) :: B).map (·.1) ++ [g]
        rw [List.map_append, List.map_append]
        rfl
  | lost a =>
    obtain ⟨ha, rfl⟩ := inv_lost d
    rw [List.length_map] at ha
    obtain ⟨A, x, B, hL, hA⟩ : ∃ A x B, L = A ++ x :: B ∧ A.length = a := ⟨L.take a, L[a], L.drop (a + 1), by rw [← List.drop_eq_getElem_cons ha, List.take_append_drop], by rw [List.length_take]; omega⟩
    subst hL hA
    obtain ⟨s1, s2⟩ := spot_cons A B x g
    obtain ⟨g1, g2, g3⟩ := setG_gaps B g
    refine ⟨A ++ (setG B g).1, (setG B g).2, ?_, ?_, ?_⟩
    · show (tokL (A ++ x :: B) g).take (aheadF (tokL (A ++ x :: B) g) (spotA (tokL (A ++ x :: B) g) A.length 0)) ++ [none] ++ (if ((tokL (A ++ x :: B) g).drop (spotA (tokL (A ++ x :: B) g) A.length 0 + 1)).take 1 = [none] then ((tokL (A ++ x :: B) g).drop (spotA (tokL (A ++ x :: B) g) A.length 0 + 1)).drop 1 else (tokL (A ++ x :: B) g).drop (spotA (tokL (A ++ x :: B) g) A.length 0 + 1)) = _
      rw [s2, ahead_ok, tokL_app, tokL_app, List.take_left, List.append_assoc, strip_ok]
    · rw [List.map_append, List.map_append, g2]
      have e : (A.map (·.2.1)).length = A.length := List.length_map ..
      rw [← e, List.take_left, List.drop_append, List.drop_of_length_le (Nat.le_succ _), Nat.add_sub_cancel_left]
      rfl
    · refine Prod.ext ?_ ?_
      · show ((A ++ x :: B).map (·.2.2)).eraseIdx A.length = (A ++ (setG B g).1).map (·.2.2)
        have e : (A.map (·.2.2)).length = A.length := List.length_map ..
        rw [List.map_append, List.map_append, g3, List.eraseIdx_append_of_length_le (by rw [e]; exact Nat.le_refl _), e, Nat.sub_self]
        rfl
      · show (((A ++ x :: B).map (·.1) ++ [g]).eraseIdx A.length).set A.length true = (A ++ (setG B g).1).map (·.1) ++ [(setG B g).2]
        have e : (A.map (·.1)).length = A.length := List.length_map ..
        rw [List.map_append, List.map_append, List.append_assoc, List.append_assoc, List.eraseIdx_append_of_length_le (by rw [e]; exact Nat.le_refl _), e, Nat.sub_self]
        rw [List.set_append_right _ _ (by rw [e]; exact Nat.le_refl _), e, Nat.sub_self, ← g1]
        rfl
/-! the rows that are read off -/
def stepT (a : List Nat × List Nat × Bool) : Tkn → List Nat × List Nat × Bool
  | none => (a.1, a.2.1, true)
  | some (c, b) => (a.1 ++ [c], a.2.1 ++ [markC b a.2.2], false)
theorem fold_flat : ∀ (L : List (Bool × Nat × Bool)) (t m : List Nat), (L.flatMap cellT).foldl stepT (t, m, false) = (t ++ L.map (·.2.1), m ++ L.map (fun x => markC x.2.2 x.1), false)
  | [], t, m => by
    show (t, m, false) = _
    rw [List.map_nil, List.map_nil, List.append_nil, List.append_nil]
  | (g, c, n) :: L, t, m => by
    have e : ([] : List Nat) = [] := rfl
    rw [List.flatMap_cons, List.foldl_append]
    have h1 : (cellT (g, c, n)).foldl stepT (t, m, false) = (t ++ [c], m ++ [markC n g], false) := by
      cases g <;> rfl
    rw [h1, fold_flat L, List.append_assoc, List.append_assoc]
    rfl
theorem fold_tokL (L : List (Bool × Nat × Bool)) (g : Bool) : (tokL L g).foldl stepT ([], [], false) = (L.map (·.2.1), L.map (fun x => markC x.2.2 x.1), g) := by
  unfold tokL
  rw [List.foldl_append, fold_flat]
  cases g <;> rfl
theorem zip_L : ∀ (L : List (Bool × Nat × Bool)) (g : Bool), zipM (L.map (·.2.2)) (L.map (·.1) ++ [g]) = L.map (fun x => markC x.2.2 x.1)
  | [], g => rfl
  | x :: L, g => by
    show markC x.2.2 x.1 :: zipM (L.map (·.2.2)) (L.map (·.1) ++ [g]) = _
    rw [zip_L L g]
    rfl
theorem rel_fold {t : List Nat} {s : List Bool × List Bool} {ts : List Tkn} (h : Rel t s ts) : ts.foldl stepT ([], [], false) = (t, zipM s.1 s.2, s.2.getD t.length false) := by
  obtain ⟨L, g, rfl, rfl, rfl⟩ := h
  rw [fold_tokL, zip_L]
  show (_, _, g) = (_, _, (L.map (·.1) ++ [g]).getD (L.map (·.2.1)).length false)
  rw [List.length_map, List.getD_eq_getElem?_getD, List.getElem?_append_right (by rw [List.length_map]; exact Nat.le_refl _), List.length_map, Nat.sub_self]
  rfl
theorem rel_init (t : List Nat) : Rel t (marksN t []) (t.map fun c => some (c, false)) := by
  refine ⟨t.map fun c => (false, c, false), false, ?_, ?_, ?_⟩
  · unfold tokL
    show _ = _ ++ []
    rw [List.append_nil]
    induction t with
    | nil => rfl
    | cons c t ih =>
      rw [List.map_cons, ih, List.map_cons, List.flatMap_cons]
      rfl
  · rw [List.map_map]
    induction t with
    | nil => rfl
    | cons c t ih => rw [List.map_cons, ← ih]; rfl
  · refine Prod.ext ?_ ?_
    · show List.replicate t.length false = _
      rw [List.map_map]
      induction t with
      | nil => rfl
      | cons c t ih => rw [List.length_cons, List.replicate_succ, ih]; rfl
    · show List.replicate (t.length + 1) false = _
      rw [List.map_map]
      induction t with
      | nil => rfl
      | cons c t ih => rw [List.length_cons, List.replicate_succ, ih]; rfl
theorem edT_len (ts : List Tkn) (e : Ed) : (edT ts e).length ≤ ts.length + 1 := by
  cases e with
  | put a c =>
    show (ts.take _ ++ [some (c, true)] ++ ts.drop _).length ≤ _
    simp only [List.length_append, List.length_take, List.length_drop, List.length_singleton]
    omega
  | chg a c =>
    show (ts.take _ ++ [some (c, true)] ++ ts.drop _).length ≤ _
    simp only [List.length_append, List.length_take, List.length_drop, List.length_singleton]
    omega
  | lost a =>
    show (ts.take _ ++ [none] ++ (if _ then _ else _)).length ≤ _
    have h1 : aheadF ts (spotA ts a 0) ≤ spotA ts a 0 := by
      unfold aheadF
      split <;> omega
    split <;>
    · simp only [List.length_append, List.length_take, List.length_drop, List.length_singleton]
      omega
end K55
namespace K55
open PySem PySem.Spec PyProof.Rows L2 Kx SX LamX
/-! ### a row's parts as data -/
def tokD : Tkn → PyData
  | none => .str "gap"
  | some (c, b) => .tuple [.str (S [c]), .bool b]
section
variable {P : Program} {w : World} {K : PySem.W.Frag} {mg : Str → Option Value} {base : Heap} (T : Tx K mg)
theorem tokV_dp {H : Hp} {v : V} {k : Tkn} (h : TokV H v k) : Dp K H v (tokD k) := by
  match k, h with
  | none, h =>
    have h : v = .str "gap" := h
    subst h
    exact .str _
  | some (c, b), ⟨q, hv, hq, _⟩ =>
    subst hv
    exact .tup (.inl (.inl hq)) (.cons (.str _) (.cons (.bl b) .nil))
theorem tok_pl {H : Hp} {v : V} {k : Tkn} (h : TokV H v k) : Pl 1 (tokD k) := by
  match k, h with
  | none, _ => exact ⟨by decide +kernel, by decide⟩
  | some (c, b), ⟨q, _, _, hc⟩ =>
    refine Pl.tup fun d m => ?_
    simp only [List.mem_cons, List.not_mem_nil, or_false] at m
    rcases m with rfl | rfl
    · exact pl_text (sg_cd hc)
    · exact ⟨rfl, Nat.le_refl _⟩
theorem tok_shaped {H : Hp} {v : V} {k : Tkn} (h : TokV H v k) : SeqAt.shaped (tokD k) = true := (tok_pl h).shaped (by decide)
theorem tok_eqv (k : Tkn) : PyData.eqv (tokD k) (.str "gap") = decide (k = none) := by
  match k with
  | none => decide +kernel
  | some (c, b) => rfl
theorem gap_shaped : SeqAt.shaped (.str "gap") = true := by decide +kernel
/-- token != 'gap' -/
theorem ne_gap {H : Hp} {v : V} {k : Tkn} {Q : VK} (h : TokV H v k) (q : Q (.bl (!decide (k = none))) H) : rNeD K v (.str "gap") H Q :=
  ⟨tokD k, .str "gap", tokV_dp h, .str _, tok_shaped h, gap_shaped, by rw [tok_eqv]; exact q⟩
theorem eq_gap {H : Hp} {v : V} {k : Tkn} {Q : VK} (h : TokV H v k) (q : Q (.bl (decide (k = none))) H) : rEqD K v (.str "gap") H Q :=
  ⟨tokD k, .str "gap", tokV_dp h, .str _, tok_shaped h, gap_shaped, by rw [tok_eqv]; exact q⟩
def sp_law_spot (K : PySem.W.Frag) : Sp := fun xs H Q _ => ∃ (D : Addr) (vs : List V) (ts : List Tkn) (a : Nat), xs = [.ref D, .int (a : Nat)] ∧ H D = some (.lst vs) ∧ TokR H vs ts ∧ ts.length ≤ 1000 ∧ ∀ H', Same H H' → Q (.int (spotA ts a 0 : Nat)) H'
theorem ok_law_spot : FnOk P w K mg base CX0 1 T.f_law_spot T.fd_law_spot ["tokens", "at"] (sp_law_spot K) := by
  refine T.F_law_spot.ok sc_law_spot (fun vs H Q E h => ?_) (fun cdv A outer s H vs Q E hr h => ?_)
  · obtain ⟨D, vs, ts, a, rfl, _⟩ := h
    rfl
  · obtain ⟨D, vs, ts, a, rfl, hD, hR, lt, q⟩ := h
    refine ⟨_, (pss_cons (ps_set (i := 2) sc_law_spot.nd rfl (.inl rfl) (pv 1))
    (pss_cons (ps_for PassesOwn.never rfl (pi_enum (by rfl) T.m_enumerate (pa_cons (pv 0) pa_nil)) (pg_tup rfl (pgs_cons (pg_name (i := 3) sc_law_spot.nd rfl (.inl rfl)) (pgs_cons (pg_name (i := 4) sc_law_spot.nd rfl (.inl rfl)) pgs_nil)))
      (pss_one (ps_if (pt_cmpR (op_neD hr.units) (pv 4) pe_str (nomark _))
        (pss_cons (ps_if (pt_cmpR op_eq (pv 2) pe_int (nomark _))
          (pss_one (ps_ret (pv 3)))
          pss_nil)
        (pss_one (ps_set (i := 2) sc_law_spot.nd rfl (.inl rfl) (pe_op op_sub (pv 2) pe_int))))
        pss_nil)))
    (pss_one (ps_ret (pe_callB call_len_seq (by rfl) T.m_len PySem.boot_len (pa_cons (pv 0) pa_nil)))))), ?_⟩
    refine go_seq (go_asg (go_var rfl ?_))
    dsimp only [gName]
    refine go_seq ⟨_, rfl, D, vs, rfl, .inl (.inl hD), for_it (walk_enum (xs := vs)) (fun i σ H' => ∃ (l : Nat) (o3 o4 : Option V), σ = [some (.ref D), some (.int (a : Nat)), some (.int (l : Nat)), o3, o4] ∧ spotA (ts.drop i) l i = spotA ts a 0 ∧ Same H H')
      ⟨a, none, none, rfl, rfl, Same.refl _⟩ (fun i σ' H' _ h => ?_) (fun i x σ' Hc Hx hi h y => ?_) (fun σ' Hc h => ?_)⟩
    · obtain ⟨_, _, _, _, _, e⟩ := h
      exact .inl (.inl (e _ _ hD))
    · obtain ⟨l, o3, o4, rfl, hs, ec⟩ := h
      obtain ⟨v, x', y', rfl, nt, rfl, h1, h2⟩ := y
      have h1 : x' = .int (i : Nat) := (Option.some.inj h1).symm
      subst h1
      obtain ⟨k, hk, hkv⟩ := hR.get h2
      have x1 := same_new (o := HO.tup [V.int (i : Nat), y']) nt
      have hi' : i < ts.length := (List.getElem?_eq_some_iff.mp hk).1
      have hk' : ts[i] = k := (List.getElem?_eq_some_iff.mp hk).2
      rw [List.drop_eq_getElem_cons hi', hk'] at hs
      refine ⟨v, _, rfl, .inl (.inl upd_same), rfl, _, _, rfl, _, _, rfl, rfl, ?_⟩
      refine go_if (go_test ⟨_, rfl, go_c (ne_gap (hkv.same (ec.trans x1)) ⟨_, rfl, ?_⟩)⟩)
      cases k with
      | none =>
        refine iteF (A := _) ?_
        dsimp only [tNext]
        exact ⟨l, _, _, rfl, hs, ec.trans x1⟩
      | some k =>
        refine iteT (B := _) ?_
        refine go_seq (go_if (go_test ⟨_, rfl, rfl, _, rfl, iteC (fun h => ?_) (fun h => ?_)⟩))
        · have h : l = 0 := by
            have h := of_decide_eq_true h
            injection h with h
            omega
          subst h
          have hs : i = spotA ts a 0 := hs
          have qq := q _ (ec.trans x1)
          rw [← hs] at qq
          exact go_ret (go_var rfl qq)
        · have h : l ≠ 0 := fun z => of_decide_eq_false h (by rw [z]; rfl)
          dsimp only [tNext]
          refine go_asg ⟨_, rfl, _, _, rfl, rfl, ?_⟩
          dsimp only [gName]
          have hs : (if l = 0 then i else spotA (ts.drop (i + 1)) (l - 1) (i + 1)) = spotA ts a 0 := hs
          rw [if_neg h] at hs
          have el : (l : Int) - 1 = ((l - 1 : Nat) : Int) := by omega
          rw [el]
          exact ⟨l - 1, _, _, rfl, hs, ec.trans x1⟩
    · obtain ⟨l, o3, o4, rfl, hs, ec⟩ := h
      rw [List.drop_of_length_le (by rw [hR.len]; exact Nat.le_refl _)] at hs
      have hs : vs.length = spotA ts a 0 := hs
      dsimp only
      refine go_ret ⟨_, rfl, D, _, rfl, .inl (.inl (.inl (ec _ _ hD))), ?_⟩
      rw [hs]
      exact q _ ec
def sp_law_ahead (K : PySem.W.Frag) : Sp := fun xs H Q _ => ∃ (D : Addr) (vs : List V) (ts : List Tkn) (s : Nat), xs = [.ref D, .int (s : Nat)] ∧ H D = some (.lst vs) ∧ TokR H vs ts ∧ s ≤ ts.length ∧ Q (.int (aheadF ts s : Nat)) H
theorem ok_law_ahead : FnOk P w K mg base CX0 1 T.f_law_ahead T.fd_law_ahead ["tokens", "spot"] (sp_law_ahead K) := by
  refine T.F_law_ahead.ok sc_law_ahead (fun vs H Q E h => ?_) (fun cdv A outer s H vs Q E hr h => ?_)
  · obtain ⟨D, vs, ts, s, rfl, _⟩ := h
    rfl
  · obtain ⟨D, vs, ts, n, rfl, hD, hR, ls, q⟩ := h
    refine ⟨_, (pss_one (ps_ret (pe_ifExp (PW.pt (pw_and (pt_cmpR op_gt (pv 1) pe_int (nomark _)) (pw_and1 (pt_cmpR (op_eqD hr.units) (pe_ix ix_list (pv 0) (pe_op op_sub (pv 1) pe_int) (fun _ _ => rfl)) pe_str (nomark _))))) (pe_op op_sub (pv 1) pe_int) (pv 1)))), ?_⟩
    have e1 : decide ((0 : Int) < (n : Int)) = decide (0 < n) := by
      by_cases h : 0 < n
      · rw [decide_eq_true h, decide_eq_true (by omega)]
      · rw [decide_eq_false h, decide_eq_false (by omega)]
    refine go_ret ⟨_, rfl, _, _, rfl, rfl, _, rfl, ?_⟩
    dsimp only
    rw [e1]
    refine iteC (fun h => ?_) (fun h => ?_)
    · have h := of_decide_eq_true h
      have em : (n : Int) - 1 = ((n - 1 : Nat) : Int) := by omega
      have hlt : n - 1 < vs.length := by rw [hR.len]; omega
      obtain ⟨k, hk, hkv⟩ := hR.get (List.getElem?_eq_getElem hlt)
      refine go_test ⟨_, rfl, _, rfl, _, _, rfl, rfl, D, vs, (n : Int) - 1, vs[n - 1], rfl, rfl, .inl (.inl hD), by rw [em, at_nat hlt], go_c (eq_gap hkv ⟨_, rfl, iteC (fun h2 => ?_) (fun h2 => ?_)⟩)⟩
      · have h2 := of_decide_eq_true h2
        have : aheadF ts n = n - 1 := by
          unfold aheadF
          rw [if_pos ⟨h, by rw [List.getD_eq_getElem?_getD, hk, h2]; rfl⟩]
        rw [this, ← em] at q
        exact ⟨_, rfl, _, _, rfl, rfl, q⟩
      · have h2 := of_decide_eq_false h2
        have : aheadF ts n = n := by
          unfold aheadF
          rw [if_neg]
          rintro ⟨_, h3⟩
          rw [List.getD_eq_getElem?_getD, hk] at h3
          exact h2 h3
        rw [this] at q
        exact ⟨_, rfl, q⟩
    · have h := of_decide_eq_false h
      have : aheadF ts n = n := by
        unfold aheadF
        rw [if_neg (fun z => h z.1)]
      rw [this] at q
      exact ⟨_, rfl, q⟩
/-- a list of parts -/
def TokE (te : TE) (σ : L2.St) (H0 : Hp) (ts : List Tkn) : Prop := ∀ H, Same H0 H → ∀ Q : VK, (∀ b vs H', Same H H' → H' b = some (.lst vs) → TokR H' vs ts → Q (.ref b) H') → te σ H Q
theorem TokE.cat {te tb : TE} {σ : L2.St} {H0 : Hp} {ts us : List Tkn} (h1 : TokE te σ H0 ts) (h2 : TokE tb σ H0 us) (hl : ts.length + us.length ≤ 10000) : TokE (tOp rCat te tb) σ H0 (ts ++ us) := fun H e Q q =>
  go_op (h1 H e _ fun b vs H1 e1 hb hv => h2 H1 (e.trans e1) _ fun d ws H2 e2 hd hw => ⟨b, d, vs, ws, rfl, rfl, e2 _ _ hb, hd, by rw [hv.len, hw.len]; exact Nat.le_trans hl (by decide), fun r nr =>
    q r _ _ ((e1.trans e2).trans (same_new nr)) upd_same (((hv.same e2).app hw).same (same_new nr))⟩)
theorem TokE.to {σ : L2.St} {H0 : Hp} {D : Addr} {vs : List V} {ts : List Tkn} {i j k : Nat} (h0 : σ[i]? = some (some (.ref D))) (h5 : σ[j]? = some (some (.int (k : Nat)))) (hD : H0 D = some (.lst vs)) (hR : TokR H0 vs ts) : TokE (tSl (rSlL K) (tVar i) tNoPart (tPart (tVar j))) σ H0 (ts.take k) := fun H e Q q =>
  ⟨_, h0, _, h5, (k : Int), rfl, D, _, rfl, .inl (.inl (e _ _ hD)), fun b nb => by rw [cut_to]; exact q b _ _ (same_new nb) upd_same ((hR.take k).same (e.trans (same_new nb)))⟩
theorem TokE.from {σ : L2.St} {H0 : Hp} {D : Addr} {vs : List V} {ts : List Tkn} {i j k : Nat} (h0 : σ[i]? = some (some (.ref D))) (h5 : σ[j]? = some (some (.int (k : Nat)))) (hD : H0 D = some (.lst vs)) (hR : TokR H0 vs ts) : TokE (tSl (rSlL K) (tVar i) (tPart (tVar j)) tNoPart) σ H0 (ts.drop k) := fun H e Q q =>
  ⟨_, h0, _, h5, (k : Int), rfl, D, _, rfl, .inl (.inl (e _ _ hD)), fun b nb => by rw [cut_from]; exact q b _ _ (same_new nb) upd_same ((hR.drop k).same (e.trans (same_new nb)))⟩
theorem TokE.from1 {σ : L2.St} {H0 : Hp} {D : Addr} {vs : List V} {ts : List Tkn} {i j k : Nat} (h0 : σ[i]? = some (some (.ref D))) (h5 : σ[j]? = some (some (.int (k : Nat)))) (hD : H0 D = some (.lst vs)) (hR : TokR H0 vs ts) : TokE (tSl (rSlL K) (tVar i) (tPart (tOp (rI0 fun i j => .int (i + j)) (tVar j) (tC (.int 1)))) tNoPart) σ H0 (ts.drop (k + 1)) := fun H e Q q =>
  ⟨_, h0, _, h5, (k : Int), 1, rfl, rfl, (k : Int) + 1, rfl, D, _, rfl, .inl (.inl (e _ _ hD)), fun b nb => by
    have : cutV vs (some ((k : Int) + 1)) none = vs.drop (k + 1) := cut_from vs (k + 1)
    rw [this]
    exact q b _ _ (same_new nb) upd_same ((hR.drop (k + 1)).same (e.trans (same_new nb)))⟩
theorem TokE.sign {σ : L2.St} {H0 : Hp} {p : Addr} {xs : List V} {i c : Nat} (h0 : σ[i]? = some (some (.ref p))) (hq : SqQ K H0 p xs) (h2 : atI xs 2 = some (.str (S [c]))) (hc : sg c = true) : TokE (tLst (tCons (tTup (tCons (tOp (rIx K) (tVar i) (tC (.int 2))) (tCons (tC (.bl true)) tNil))) tNil)) σ H0 [some (c, true)] := fun H e Q q =>
  go_lst (go_cons (go_tup (go_cons ⟨_, h0, ix_q (Same.q e hq) h2 (go_cons (go_c (go_nil ⟨sz2, fun r nr => go_nil ⟨sz1, fun L nL => q L _ _ ((same_new nr).trans (same_new nL)) upd_same (.sgn ⟨same_new nL _ _ upd_same, hc⟩ .nil)⟩⟩)))⟩)))
theorem TokE.gap {σ : L2.St} {H0 : Hp} : TokE (tLst (tCons (tC (.str "gap")) tNil)) σ H0 [none] := fun H e Q q => go_lst (go_cons (go_c (go_nil ⟨sz1, fun L nL => q L _ _ (same_new nL) upd_same (.gap .nil)⟩)))
theorem tokR_dp {H : Hp} {vs : List V} {ts : List Tkn} (h : TokR H vs ts) : DpAll K H vs (ts.map tokD) := by
  induction h with
  | nil => exact .nil
  | gap _ ih => exact .cons (.str _) ih
  | sgn a _ ih => exact .cons (.tup (.inl (.inl a.1)) (.cons (.str _) (.cons (.bl _) .nil))) ih
theorem tokR_pl {H : Hp} {vs : List V} {ts : List Tkn} (h : TokR H vs ts) : Pl 2 (.list (ts.map tokD)) := by
  refine Pl.lst fun d m => ?_
  obtain ⟨k, hk, rfl⟩ := List.mem_map.mp m
  obtain ⟨i, hi, rfl⟩ := List.mem_iff_getElem.mp hk
  have hlt : i < vs.length := by rw [h.len]; exact hi
  obtain ⟨k, hk, hkv⟩ := h.get (List.getElem?_eq_getElem hlt)
  rw [List.getElem?_eq_getElem hi] at hk
  rw [Option.some.inj hk]
  exact tok_pl hkv
theorem eqv_gaps : ∀ (l : List Tkn), l.length ≤ 1 → PyData.eqv (.list (l.map tokD)) (.list [.str "gap"]) = decide (l = [none])
  | [], _ => by decide +kernel
  | [k], _ => by
    show (PyData.eqv (tokD k) (.str "gap") && true) = _
    rw [tok_eqv, Bool.and_true]
    cases k <;> rfl
  | _ :: _ :: _, h => by simp at h
/-- x[1:] if x[:1] == ['gap'] else x -/
theorem TokE.strip {σ : L2.St} {H0 : Hp} {D : Addr} {vs : List V} {ts : List Tkn} {i : Nat} (h0 : σ[i]? = some (some (.ref D))) (hD : H0 D = some (.lst vs)) (hR : TokR H0 vs ts) :
    TokE (tIf (tTest (tOp (rEqD K) (tSl (rSlL K) (tVar i) tNoPart (tPart (tC (.int 1)))) (tLst (tCons (tC (.str "gap")) tNil)))) (tSl (rSlL K) (tVar i) (tPart (tC (.int 1))) tNoPart) (tVar i)) σ H0 (if ts.take 1 = [none] then ts.drop 1 else ts) := fun H e Q q => by
  have hDH := e _ _ hD
  have hRH := hR.same e
  refine go_test (go_op ⟨_, h0, 1, rfl, D, _, rfl, .inl (.inl hDH), fun b nb => ?_⟩)
  have x1 := same_new (o := HO.lst (cutV vs none (some 1))) nb
  refine go_lst (go_cons (go_c (go_nil ⟨sz1, fun L nL => ?_⟩)))
  have x2 := same_new (o := HO.lst [V.str "gap"]) nL
  have c1 : cutV vs none (some 1) = vs.take 1 := cut_to vs 1
  have hR1 := ((hRH.take 1).same x1).same x2
  refine ⟨.list ((ts.take 1).map tokD), .list [.str "gap"], .lst (.inl (.inl (by rw [← c1]; exact x2 _ _ upd_same))) (tokR_dp hR1), .lst (.inl (.inl upd_same)) (.cons (.str _) .nil), (tokR_pl hR1).shaped (by decide), by decide +kernel, ?_⟩
  rw [eqv_gaps _ (by rw [List.length_take]; exact Nat.min_le_left _ _)]
  have x3 := x1.trans x2
  refine ⟨_, rfl, iteC (fun h => ?_) (fun h => ?_)⟩
  · rw [if_pos (of_decide_eq_true h)] at q
    refine ⟨_, h0, 1, rfl, D, _, rfl, .inl (.inl (x3 _ _ hDH)), fun d nd => ?_⟩
    have c2 : cutV vs (some 1) none = vs.drop 1 := cut_from vs 1
    have x4 := x3.trans (same_new (o := HO.lst (cutV vs (some 1) none)) nd)
    exact q d (cutV vs (some 1) none) _ x4 upd_same (by rw [c2]; exact (hRH.drop 1).same (by rw [← c2]; exact x4))
  · rw [if_neg (of_decide_eq_false h)] at q
    exact go_var h0 (q D vs _ x3 (x3 _ _ hDH) (hRH.same x3))
theorem TokE.end {te : TE} {σ : L2.St} {H0 H : Hp} {ts : List Tkn} {Q : VK} (h : TokE te σ H ts) (e0 : Same H0 H) (q : ∀ (D : Addr) (vs : List V) (H' : Hp), Same H0 H' → H' D = some (.lst vs) → TokR H' vs ts → Q (.ref D) H') : te σ H Q := h H (Same.refl _) _ fun b vs H1 e1 hb hv => q b vs H1 (e0.trans e1) hb hv
def sp_law_edited (K : PySem.W.Frag) : Sp := fun xs H Q _ => ∃ (D p : Addr) (vs : List V) (ts : List Tkn) (e : Ed), xs = [.ref D, .ref p] ∧ H D = some (.lst vs) ∧ TokR H vs ts ∧ ts.length ≤ 1000 ∧ SqQ K H p e.vs ∧ e.ok = true ∧
  ∀ (D' : Addr) (vs' : List V) (H' : Hp), Same H H' → H' D' = some (.lst vs') → TokR H' vs' (edT ts e) → Q (.ref D') H'
theorem ok_law_edited : FnOk P w K mg base CX0 2 T.f_law_edited T.fd_law_edited ["tokens", "edit"] (sp_law_edited K) := by
  refine T.F_law_edited.ok sc_law_edited (fun vs H Q E h => ?_) (fun cdv A outer s H vs Q E hr h => ?_)
  · obtain ⟨D, p, vs, ts, e, rfl, _⟩ := h
    rfl
  · obtain ⟨D, p, vs, ts, e, rfl, hD, hR, lt, hq, ho, q⟩ := h
    refine ⟨_, (pss_cons (ps_set (i := 2) sc_law_edited.nd rfl (.inl rfl) (pe_call (ok_law_spot T) (hr.mono (by decide)) (by rfl) T.g_law_spot T.F_law_spot.kp T.b_law_spot .nil pass0 (pa_cons (pv 0) (pa_cons (pe_ix ix_seq (pv 1) pe_int (fun _ _ => rfl)) pa_nil))))
    (pss_cons (ps_if (pt_cmpR op_eq (pe_ix ix_seq (pv 1) pe_int (fun _ _ => rfl)) pe_str (nomark _))
      (pss_cons (ps_set (i := 3) sc_law_edited.nd rfl (.inl rfl) (pe_call (ok_law_ahead T) (hr.mono (by decide)) (by rfl) T.g_law_ahead T.F_law_ahead.kp T.b_law_ahead .nil pass0 (pa_cons (pv 0) (pa_cons (pv 2) pa_nil))))
      (pss_one (ps_ret (pe_op op_cat (pe_op op_cat (pe_slice sl_list (pv 0) po_none (po_some (pv 3))) (pe_lst (pa_cons (pe_tup (pa_cons (pe_ix ix_seq (pv 1) pe_int (fun _ _ => rfl)) (pa_cons pe_bl pa_nil))) pa_nil))) (pe_slice sl_list (pv 0) (po_some (pv 3)) po_none)))))
      pss_nil)
    (pss_cons (ps_if (pt_cmpR op_eq (pe_ix ix_seq (pv 1) pe_int (fun _ _ => rfl)) pe_str (nomark _))
      (pss_one (ps_ret (pe_op op_cat (pe_op op_cat (pe_slice sl_list (pv 0) po_none (po_some (pv 2))) (pe_lst (pa_cons (pe_tup (pa_cons (pe_ix ix_seq (pv 1) pe_int (fun _ _ => rfl)) (pa_cons pe_bl pa_nil))) pa_nil))) (pe_slice sl_list (pv 0) (po_some (pe_op op_add (pv 2) pe_int)) po_none))))
      pss_nil)
    (pss_cons (ps_par (i := 3) (j := 4) rfl sc_law_edited.nd rfl rfl (by decide) rfl rfl (pa_cons (pe_call (ok_law_ahead T) (hr.mono (by decide)) (by rfl) T.g_law_ahead T.F_law_ahead.kp T.b_law_ahead .nil pass0 (pa_cons (pv 0) (pa_cons (pv 2) pa_nil))) (pa_cons (pe_slice sl_list (pv 0) (po_some (pe_op op_add (pv 2) pe_int)) po_none) pa_nil)) (by rfl))
    (pss_one (ps_ret (pe_op op_cat (pe_op op_cat (pe_slice sl_list (pv 0) po_none (po_some (pv 3))) (pe_lst (pa_cons pe_str pa_nil))) (pe_ifExp (pt_cmpR (op_eqD hr.units) (pe_slice sl_list (pv 4) po_none (po_some pe_int)) (pe_lst (pa_cons pe_str pa_nil)) (nomark _)) (pe_slice sl_list (pv 4) (po_some pe_int) po_none) (pv 4))))))))), ?_⟩
    have lv := hR.len
    have pl1 : atI e.vs 1 = some (.int (e.pl : Nat)) := by cases e <;> rfl
    have hsp := spotA_le ts e.pl 0
    rw [Nat.zero_add] at hsp
    refine go_seq (go_asg ⟨_, rfl, _, rfl, ix_q hq (v := .int (e.pl : Nat)) pl1 ⟨D, vs, ts, e.pl, rfl, hD, hR, lt, fun H1 e1 => ?_⟩⟩)
    dsimp only [gName]
    have hD1 := e1 _ _ hD
    have hR1 := hR.same e1
    have hq1 := Same.q e1 hq
    have l10 : vs.length ≤ 10000 := by omega
    cases e with
    | put a c =>
      refine go_seq (go_if (go_test ⟨_, rfl, ix_q hq1 (v := .str "put") rfl ⟨rfl, _, rfl, iteT (B := _) ?_⟩⟩))
      refine go_seq (go_asg ⟨_, rfl, _, rfl, D, vs, ts, _, rfl, hD1, hR1, hsp, ?_⟩)
      dsimp only [gName]
      refine go_ret (TokE.end (TokE.cat (TokE.cat (TokE.to (by exact rfl) (by exact rfl) hD1 hR1) (TokE.sign (by exact rfl) hq1 rfl ho) ?_) (TokE.from (by exact rfl) (by exact rfl) hD1 hR1) ?_) e1 q)
      · rw [List.length_take]
        show _ + 1 ≤ 10000
        omega
      · rw [List.length_append, List.length_take, List.length_drop]
        show _ + 1 + _ ≤ 10000
        omega
    | chg a c =>
      refine go_seq (go_if (go_test ⟨_, rfl, ix_q hq1 (v := .str "changed") rfl ⟨rfl, _, rfl, iteF (A := _) ?_⟩⟩))
      dsimp only [tNext]
      refine go_seq (go_if (go_test ⟨_, rfl, ix_q hq1 (v := .str "changed") rfl ⟨rfl, _, rfl, iteT (B := _) ?_⟩⟩))
      refine go_ret (TokE.end (TokE.cat (TokE.cat (TokE.to (by exact rfl) (by exact rfl) hD1 hR1) (TokE.sign (by exact rfl) hq1 rfl ho) ?_) (TokE.from1 (by exact rfl) (by exact rfl) hD1 hR1) ?_) e1 q)
      · rw [List.length_take]
        show _ + 1 ≤ 10000
        omega
      · rw [List.length_append, List.length_take, List.length_drop]
        show _ + 1 + _ ≤ 10000
        omega
    | lost a =>
      refine go_seq (go_if (go_test ⟨_, rfl, ix_q hq1 (v := .str "lost") rfl ⟨rfl, _, rfl, iteF (A := _) ?_⟩⟩))
      dsimp only [tNext]
      refine go_seq (go_if (go_test ⟨_, rfl, ix_q hq1 (v := .str "lost") rfl ⟨rfl, _, rfl, iteF (A := _) ?_⟩⟩))
      dsimp only [tNext]
      refine go_seq ⟨_, rfl, _, rfl, D, vs, ts, _, rfl, hD1, hR1, hsp, ?_⟩
      refine (TokE.from1 (K := K) (i := 0) (j := 2) (by exact rfl) (by exact rfl) hD1 hR1) H1 (Same.refl _) _ fun Bh ws H2 e2 hBh hW => ?_
      refine ⟨_, _, rfl, ?_⟩
      dsimp only
      have hD2 := e2 _ _ hD1
      have hR2 := hR1.same e2
      have le := hW.len
      refine go_ret (TokE.end (TokE.cat (TokE.cat (TokE.to (by exact rfl) (by exact rfl) hD2 hR2) TokE.gap ?_) (TokE.strip (by exact rfl) hBh hW) ?_) (e1.trans e2) q)
      · rw [List.length_take]
        show _ + 1 ≤ 10000
        omega
      · rw [List.length_append, List.length_take]
        have : (if (ts.drop (spotA ts (Ed.lost a).pl 0 + 1)).take 1 = [none] then (ts.drop (spotA ts (Ed.lost a).pl 0 + 1)).drop 1 else ts.drop (spotA ts (Ed.lost a).pl 0 + 1)).length ≤ 1000 := by
          split <;>
          · simp only [List.length_drop]
            omega
        show _ + 1 + _ ≤ 10000
        omega
/-! ### draws -/
def sp_law_stroke (K : PySem.W.Frag) : Sp := fun vs H Q _ => ∃ (a c : Addr) (m : Int) (n : Nat), vs = [.ref a, .int m] ∧ 0 < m ∧ m ≤ 1000000 ∧ Wh H a c n ∧ n < 1000000 ∧ ∀ (r : Int) (H' : Hp), 0 ≤ r → r < m → Mv a H H' → Wh H' a c (n + 1) → Q (.int r) H'
theorem ok_law_stroke : FnOk P w K mg base CX0 1 T.f_law_stroke T.fd_law_stroke ["pen", "many"] (sp_law_stroke K) := by
  refine T.F_law_stroke.ok sc_law_stroke (fun vs H Q E h => ?_) (fun cdv A outer s H vs Q E hr h => ?_)
  · obtain ⟨a, c, m, n, rfl, _⟩ := h
    rfl
  · obtain ⟨a, c, m, n, rfl, hm, hM, ⟨cs, t, l, h1, h2, h3, h4, h5⟩, hn, q⟩ := h
    refine ⟨_, (pss_cons (ps_if (pt_cmpR (op_eqE hr.units) (pe_ix ix_list (pv 0) pe_int (fun _ _ => rfl)) (pe_lst pa_nil) (nomark _))
      (pss_one (ps_ret pe_int))
      pss_nil)
    (pss_cons (ps_if (pt_cmpR op_gt (pe_ix ix_list (pv 0) pe_int (fun _ _ => rfl)) pe_int (nomark _))
      (pss_cons (ps_set (i := 2) sc_law_stroke.nd rfl (.inl rfl) (pe_callTy call_int1 (by rfl) T.m_int (by decide +kernel) (pa_cons (pe_ix ix_list (pv 0) pe_int (fun _ _ => rfl)) pa_nil)))
      (pss_cons (ps_asg (pe_op op_fdivN (pv 2) (pv 1)) (pg_sub (pv 0) pe_int set_list))
      (pss_one (ps_ret (pe_op op_modN (pe_callTy call_int1 (by rfl) T.m_int (by decide +kernel) (pa_cons (pv 2) pa_nil)) (pv 1))))))
      pss_nil)
    (pss_cons (ps_set (i := 3) sc_law_stroke.nd rfl (.inl rfl) (pe_ix ix_list (pv 0) pe_int (fun _ _ => rfl)))
    (pss_cons (ps_asg (pe_op op_add (pv 3) pe_int) (pg_sub (pv 0) pe_int set_list))
    (pss_cons (ps_set (i := 4) sc_law_stroke.nd rfl (.inl rfl) (pe_ix ix_list (pe_ix ix_list (pv 0) pe_int (fun _ _ => rfl)) (pe_op op_modN (pe_callTy call_int1 (by rfl) T.m_int (by decide +kernel) (pa_cons (pv 3) pa_nil)) (pe_callB call_len_seq (by rfl) T.m_len PySem.boot_len (pa_cons (pe_ix ix_list (pv 0) pe_int (fun _ _ => rfl)) pa_nil))) (fun _ _ => rfl)))
    (pss_cons (ps_if (PW.pt (pw_and (pt_cmpR op_lt (pv 3) (pe_callB call_len_seq (by rfl) T.m_len PySem.boot_len (pa_cons (pe_ix ix_list (pv 0) pe_int (fun _ _ => rfl)) pa_nil)) (nomark _)) (pw_and1 (pt_cmpR op_ge (pe_callB call_abs (by rfl) T.m_abs (by decide +kernel) (pa_cons (pv 4) pa_nil)) (pe_op op_pow pe_int pe_int) (nomark _)))))
      (pss_cons (ps_set (i := 2) sc_law_stroke.nd rfl (.inl rfl) (pe_op op_add (pe_op op_mul pe_int (pe_op op_sub (pe_callB call_abs (by rfl) T.m_abs (by decide +kernel) (pa_cons (pv 4) pa_nil)) (pe_op op_pow pe_int pe_int))) (pe_callTy call_int1 (by rfl) T.m_int (by decide +kernel) (pa_cons (pe_cmpR op_lt (pv 4) pe_int (nomark _)) pa_nil))))
      (pss_cons (ps_asg (pe_op op_fdivN (pe_callTy call_int1 (by rfl) T.m_int (by decide +kernel) (pa_cons (pv 2) pa_nil)) (pv 1)) (pg_sub (pv 0) pe_int set_list))
      (pss_one (ps_ret (pe_op op_modN (pe_callTy call_int1 (by rfl) T.m_int (by decide +kernel) (pa_cons (pv 2) pa_nil)) (pv 1))))))
      pss_nil)
    (pss_cons (ps_set (i := 5) sc_law_stroke.nd rfl (.inl rfl) (pe_op op_modN (pe_callTy call_int1 (by rfl) T.m_int (by decide +kernel) (pa_cons (pe_op op_pow (pe_op op_add (pe_op op_add (pe_op op_modN (pe_callTy call_int1 (by rfl) T.m_int (by decide +kernel) (pa_cons (pv 4) pa_nil)) pe_int) (pe_op op_mul pe_int (pv 3))) pe_int) pe_int) pa_nil)) pe_int))
    (pss_cons (ps_set (i := 5) sc_law_stroke.nd rfl (.inl rfl) (pe_op op_modN (pe_callTy call_int1 (by rfl) T.m_int (by decide +kernel) (pa_cons (pe_op op_pow (pe_op op_add (pe_op op_add (pe_op op_mul (pv 5) (pe_op op_add (pe_op op_mul pe_int (pv 3)) pe_int)) (pe_op op_mul (pe_op op_mul pe_int (pv 3)) (pv 3))) pe_int) pe_int) pa_nil)) pe_int))
    (pss_one (ps_ret (pe_op op_modN (pe_callTy call_int1 (by rfl) T.m_int (by decide +kernel) (pa_cons (pe_op op_fdivN (pv 5) pe_int) pa_nil)) (pv 1)))))))))))), ?_⟩
    have hac := wh_ac h1 h2
    have m0 : m ≠ 0 := by omega
    have mS : m.natAbs < 1073741824 := by omega
    have fin : ∀ (x y z : Int) (H' : Hp), Mv a H H' → H' a = some (.lst [.ref c, .int y, .int z]) → 0 ≤ y → y ≤ n + 1 → Q (.int (x.fmod m)) H' := fun x y z H' mv ha y0 y1 =>
      q _ _ (Int.fmod_nonneg_of_pos _ hm) (Int.fmod_lt_of_pos _ hm) mv ⟨cs, y, z, ha, mv c _ (fun e => hac e.symm) h2, h3, y0, by omega⟩
    refine ⟨_, rfl, a, _, 0, .ref c, rfl, rfl, .inl (.inl h1), rfl, Nat.zero_le _, fun p np => ⟨c, p, _, rfl, rfl, same_new np _ _ h2, upd_same, _, rfl, iteC (fun e => ?_) (fun e => ?_)⟩⟩
    · exact q 0 _ (Int.le_refl _) hm (Mv.of (same_new np)) ⟨cs, t, l, same_new np _ _ h1, same_new np _ _ h2, h3, h4, by omega⟩
    have cs0 : cs ≠ [] := fun z => by
      rw [z] at e
      cases e
    have s0 := same_new (o := HO.lst []) np
    have mv0 : Mv a H (upd H p (HO.lst [])) := Mv.of s0
    have h1 := s0 _ _ h1
    have h2' := s0 _ _ h2
    generalize upd H p (HO.lst []) = H0 at mv0 h1 h2' ⊢
    clear e s0 np
    dsimp only [tNext]
    refine ⟨_, rfl, a, _, 2, .int l, rfl, rfl, .inl (.inl h1), rfl, _, _, rfl, rfl, _, rfl, iteC (fun e => ?_) (fun e => ?_)⟩
    · refine ⟨_, rfl, a, _, 2, .int l, rfl, rfl, .inl (.inl h1), rfl, .inl ⟨l, rfl, ?_⟩⟩
      refine ⟨_, rfl, _, rfl, l, m, rfl, rfl, ⟨m0, mS⟩, _, rfl, a, _, 2, 2, rfl, rfl, h1, rfl, ?_⟩
      refine ⟨_, rfl, .inl ⟨l, rfl, _, rfl, l, m, rfl, rfl, m0, ?_⟩⟩
      exact fin _ t (l.fdiv m) _ (mv0.trans (Mv.upd _ _ _)) upd_same h4 (by omega)
    clear e
    refine ⟨_, rfl, a, _, 1, .int t, rfl, rfl, .inl (.inl h1), rfl, ?_⟩
    refine ⟨_, rfl, t, 1, rfl, rfl, _, rfl, a, _, 1, 1, rfl, rfl, h1, rfl, ?_⟩
    generalize hH1 : upd H0 a (HO.lst ([V.ref c, .int t, .int l].set 1 (.int (t + 1)))) = H2
    have a2 : H2 a = some (.lst [.ref c, .int (t + 1), .int l]) := by rw [← hH1]; exact upd_same
    have c2 : H2 c = some (.lst (cs.map V.int)) := by rw [← hH1, upd_ne (fun e => hac e.symm)]; exact h2'
    have mv2 : Mv a H H2 := by rw [← hH1]; exact mv0.trans (Mv.upd _ _ _)
    have z0 : (0 : Int) < (cs.map V.int).length := by
      cases cs with
      | nil => exact absurd rfl cs0
      | cons x xs => simp
    obtain ⟨v, hv, ev⟩ : ∃ v, v ∈ cs.map V.int ∧ atI (cs.map V.int) (t.fmod ((cs.map V.int).length : Int)) = some v := at_lt (Int.fmod_nonneg_of_pos _ z0) (Int.fmod_lt_of_pos _ z0)
    obtain ⟨i, _, rfl⟩ := List.mem_map.mp hv
    have z : ((cs.map V.int).length : Int) ≠ 0 := by omega
    refine ⟨_, rfl, a, _, 0, .ref c, rfl, rfl, .inl (.inl a2), rfl, ?_⟩
    refine ⟨_, rfl, .inl ⟨t, rfl, ?_⟩⟩
    refine ⟨_, rfl, a, _, 0, .ref c, rfl, rfl, .inl (.inl a2), rfl, c, _, rfl, .inl (.inl (.inl c2)), ?_⟩
    refine ⟨t, _, rfl, rfl, z, c, _, _, _, rfl, rfl, .inl (.inl c2), ev, ?_⟩
    refine genI (P := fun v => gName 4 v _ _ _) (fun cell => ?_)
    refine ⟨_, rfl, _, rfl, a, _, 0, .ref c, rfl, rfl, .inl (.inl a2), rfl, c, _, rfl, .inl (.inl (.inl c2)), _, _, rfl, rfl, _, rfl, cutP (fun _ r => iteF r) (fun r e => ?_) ?_⟩
    · refine ⟨_, rfl, cell, rfl, _, _, rfl, rfl, ⟨by decide, by decide, by decide⟩, _, _, rfl, rfl, _, rfl, iteC (fun e2 => ?_) (fun e2 => r)⟩
      refine ⟨_, rfl, cell, rfl, _, _, rfl, rfl, ⟨by decide, by decide, by decide⟩, _, _, rfl, rfl, _, _, rfl, rfl, .inl ⟨by decide, by decide⟩, _, rfl, _, _, rfl, rfl, .inr ⟨_, rfl, _, _, rfl, rfl, ?_⟩⟩
      refine genI (P := fun v => gName 2 v _ _ _) (fun rest => ?_)
      refine ⟨_, rfl, .inl ⟨rest, rfl, _, rfl, _, _, rfl, rfl, ⟨m0, mS⟩, _, rfl, a, _, 2, 2, rfl, rfl, a2, rfl, ?_⟩⟩
      refine ⟨_, rfl, .inl ⟨rest, rfl, _, rfl, _, _, rfl, rfl, m0, ?_⟩⟩
      exact fin _ (t + 1) _ _ (mv2.trans (Mv.upd _ _ _)) upd_same (by omega) (by omega)
    · refine ⟨_, rfl, .inl ⟨cell, rfl, _, _, rfl, rfl, (by show (_ : Int) ≠ 0; decide), _, rfl, _, _, rfl, rfl, .inl ⟨by decide, by decide⟩, _, _, rfl, rfl, _, _, rfl, rfl, _, _, rfl, rfl, ⟨by decide, by decide, bnd5 (by decide) (by decide) h4 (by omega) (by decide) (by decide) (by decide) (by decide)⟩, .inl ⟨_, rfl, _, _, rfl, rfl, (by show (_ : Int) ≠ 0; decide), ?_⟩⟩⟩
      refine genIB (P := fun v => gName 5 v _ _ _) (by decide) (fun m1 m1a m1b => ?_)
      have m1c : m1 ≤ 4294967296 := Int.le_trans (Int.le_of_lt m1b) (by decide)
      refine ⟨_, rfl, _, rfl, _, _, rfl, rfl, .inl ⟨by decide, by decide⟩, _, _, rfl, rfl, _, _, rfl, rfl, .inl ⟨by omega, by omega⟩, _, rfl, _, _, rfl, rfl, .inl ⟨by decide, by decide⟩, _, rfl, _, _, rfl, rfl, .inr ⟨by omega, by omega⟩, _, _, rfl, rfl, _, _, rfl, rfl, _, _, rfl, rfl, ⟨by decide, by decide, bnd3 m1a m1c h4 (by omega) (by decide) (by decide) (by decide) (by decide) (by decide) (by decide)⟩, .inl ⟨_, rfl, _, _, rfl, rfl, (by show (_ : Int) ≠ 0; decide), ?_⟩⟩
      refine genI (P := fun v => gName 5 v _ _ _) (fun m2 => ?_)
      refine ⟨_, rfl, _, _, rfl, rfl, ⟨by decide, by decide⟩, .inl ⟨_, rfl, _, rfl, _, _, rfl, rfl, m0, ?_⟩⟩
      exact fin _ (t + 1) _ _ mv2 a2 (by omega) (by omega)
/-- one of some things -/
def sp_law_one_of (K : PySem.W.Frag) : Sp := fun vs H Q _ => ∃ (a b c : Addr) (xs : List V) (n : Nat), vs = [.ref a, .ref b] ∧ SqL K H b xs ∧ xs ≠ [] ∧ xs.length ≤ 1000000 ∧ Wh H a c n ∧ n < 1000000 ∧ (∀ H', Mv a H H' → SqL K H' b xs) ∧ ∀ (v : V) (H' : Hp), v ∈ xs → Mv a H H' → Wh H' a c (n + 1) → Q v H'
theorem ok_law_one_of : FnOk P w K mg base CX0 2 T.f_law_one_of T.fd_law_one_of ["pen", "some"] (sp_law_one_of K) := by
  refine T.F_law_one_of.ok sc_law_one_of (fun vs H Q E h => ?_) (fun cdv A outer s H vs Q E hr h => ?_)
  · obtain ⟨a, b, c, xs, n, rfl, _⟩ := h
    rfl
  · obtain ⟨a, b, c, xs, n, rfl, hs, hx, hl, hw, hn, hm, q⟩ := h
    refine ⟨_, (pss_one (ps_ret (pe_ix ix_list (pv 1) (pe_call (ok_law_stroke T) (hr.mono (by decide)) (by rfl) T.g_law_stroke T.F_law_stroke.kp T.b_law_stroke .nil pass0 (pa_cons (pv 0) (pa_cons (pe_callB call_len_seq (by rfl) T.m_len PySem.boot_len (pa_cons (pv 1) pa_nil)) pa_nil))) (fun _ _ => rfl)))), ?_⟩
    have z : 0 < xs.length := by
      cases xs with
      | nil => exact absurd rfl hx
      | cons x t => simp
    refine ⟨_, rfl, _, rfl, _, rfl, b, xs, rfl, .inl hs, a, c, _, n, rfl, by omega, by omega, hw, hn, fun r H' r0 r1 mv w' => ?_⟩
    obtain ⟨v, hv, ev⟩ := at_lt r0 r1
    exact ⟨b, xs, r, v, rfl, rfl, hm _ mv, ev, q v H' hv mv w'⟩
def sp_law_pen (K : PySem.W.Frag) : Sp := fun vs H Q _ => ∃ (b : Addr) (xs : List Int), vs = [.ref b] ∧ SqL K H b (xs.map V.int) ∧ ∀ (a c : Addr) (H' : Hp), H a = none → Same H H' → Wh H' a c 0 → Q (.ref a) H'
theorem ok_law_pen : FnOk P w K mg base CX0 1 T.f_law_pen T.fd_law_pen ["script"] (sp_law_pen K) := by
  refine T.F_law_pen.ok sc_law_pen (fun vs H Q E h => ?_) (fun cdv A outer s H vs Q E hr h => ?_)
  · obtain ⟨b, xs, rfl, _⟩ := h
    rfl
  · obtain ⟨b, xs, rfl, hs, q⟩ := h
    refine ⟨_, (pss_one (ps_ret (pe_lst (pa_cons (pe_lc (own := [("cell", 1)]) rfl sc_law_pen.nd (pi_list (pe_slice sl_list (pv 0) po_none (po_some pe_int))) (blkOk_by (own := [("cell", 1)]) (N := ["script", "cell"]) (sc := defScope s_law_pen) (by decide +kernel)) (fun _ _ _ _ _ => (pg_name (i := 1) sc_law_pen.nd rfl (.inl rfl))) (fun _ _ _ _ _ => pts_nil) (fun _ _ _ _ _ => (pe_callTy call_int1 (by rfl) T.m_int (by decide +kernel) (pa_cons (pv 1) pa_nil)))) (pa_cons pe_int (pa_cons pe_int pa_nil)))))), ?_⟩
    refine ⟨_, rfl, _, rfl, b, _, rfl, hs, fun p np => ?_⟩
    have hc : cutV (xs.map V.int) none (some 60) = (xs.take 60).map V.int := by
      rw [List.map_take]
      exact cut_to _ 60
    rw [hc]
    refine ⟨p, rfl, ⟨_, .inl (.inl upd_same)⟩, fun D nD => lc_mapL id (.inl (.inl upd_same)) nD (by rw [List.length_map, List.length_take]; omega) (fun i x Hc Q' R' hx e1 q' => ?_) (fun Hc e1 hD => ?_)⟩
    · obtain ⟨j, _, rfl⟩ := List.mem_map.mp (List.mem_of_getElem? hx)
      refine ⟨rfl, ?_⟩
      refine iteT (B := True) ?_
      exact ⟨_, rfl, .inl ⟨j, rfl, q' Hc (Same.refl _)⟩⟩
    · rw [List.map_id] at hD
      have s0 := (same_new np).trans e1
      refine ⟨by show 3 ≤ sizeLine; decide, fun a na => q a D _ (s0.free na) (s0.trans (same_new na)) ⟨xs.take 60, 0, 0, upd_same, (same_new na) _ _ hD, ?_, by omega, by omega⟩⟩
      rw [List.length_take]
      omega
end
end K55
namespace K55
open PySem PySem.Spec PyProof.Rows L2 Kx SX LamX
theorem cut_last {xs : List V} {v : V} : cutV (xs ++ [v]) none (some (-1)) = xs := by
  show ((xs ++ [v]).drop 0).take (HT.sIx (xs ++ [v]).length (xs ++ [v]).length (some (-1)) - 0) = xs
  have : HT.sIx (xs ++ [v]).length (xs ++ [v]).length (some (-1)) = xs.length := by
    show (if (-1 : Int) < 0 then ((-1 : Int) + ((xs ++ [v]).length : Int)).toNat else min (-1 : Int).toNat (xs ++ [v]).length) = _
    rw [if_pos (by decide), List.length_append]
    show ((-1 : Int) + ((xs.length + 1 : Nat) : Int)).toNat = xs.length
    omega
  rw [this, List.drop_zero, Nat.sub_zero, List.take_left]
theorem foldT_len : ∀ (ts : List Tkn) (a : List Nat × List Nat × Bool), (ts.foldl stepT a).1.length ≤ a.1.length + ts.length ∧ ((ts.foldl stepT a).2.1.length = (ts.foldl stepT a).1.length + a.2.1.length - a.1.length ∨ a.1.length ≠ a.2.1.length)
  | [], a => ⟨Nat.le_refl _, by
    show a.2.1.length = a.1.length + a.2.1.length - a.1.length ∨ _
    omega⟩
  | none :: r, a => by
    have := foldT_len r (stepT a none)
    have e0 : (none :: r).foldl stepT a = r.foldl stepT (stepT a none) := rfl
    rw [e0]
    have e1 : (stepT a none).1.length = a.1.length := rfl
    have e2 : (stepT a none).2.1.length = a.2.1.length := rfl
    rw [List.length_cons]
    omega
  | some (c, b) :: r, a => by
    have := foldT_len r (stepT a (some (c, b)))
    have e0 : (some (c, b) :: r).foldl stepT a = r.foldl stepT (stepT a (some (c, b))) := rfl
    rw [e0]
    have e1 : (stepT a (some (c, b))).1.length = a.1.length + 1 := List.length_append ..
    have e2 : (stepT a (some (c, b))).2.1.length = a.2.1.length + 1 := List.length_append ..
    rw [List.length_cons]
    omega
section
variable {P : Program} {w : World} {K : PySem.W.Frag} {mg : Str → Option Value} {base : Heap} (T : Tx K mg)
def sp_law_lines (K : PySem.W.Frag) : Sp := fun xs H Q _ => ∃ (D : Addr) (vs : List V) (ts : List Tkn) (t m : List Nat) (g : Bool), xs = [.ref D] ∧ H D = some (.lst vs) ∧ TokR H vs ts ∧ ts.length ≤ 1000 ∧ ts.foldl stepT ([], [], false) = (t, m, g) ∧
  ∀ (F : Addr) (H' : Hp), Same H H' → H F = none → H' F = some (.lst ((finL t m (rows t.length - 1) g).map tx)) → Q (.ref F) H'
theorem ok_law_lines : FnOk P w K mg base CX0 1 T.f_law_lines T.fd_law_lines ["tokens"] (sp_law_lines K) := by
  refine T.F_law_lines.ok sc_law_lines (fun vs H Q E h => ?_) (fun cdv A outer s H vs Q E hr h => ?_)
  · obtain ⟨D, vs, ts, t, m, g, rfl, _⟩ := h
    rfl
  · obtain ⟨D, vs, ts, t, m, g, rfl, hD, hR, lt, hf, q⟩ := h
    refine ⟨_, (pss_cons (ps_asg (pe_tup (pa_cons pe_str (pa_cons pe_str (pa_cons pe_bl pa_nil)))) (pg_tup rfl (pgs_cons (pg_name (i := 1) sc_law_lines.nd rfl (.inl rfl)) (pgs_cons (pg_name (i := 2) sc_law_lines.nd rfl (.inl rfl)) (pgs_cons (pg_name (i := 3) sc_law_lines.nd rfl (.inl rfl)) pgs_nil)))))
    (pss_cons (ps_for PassesOwn.never rfl (pi_list (pv 0)) (pg_name (i := 4) sc_law_lines.nd rfl (.inl rfl))
      (pss_one (ps_if (pt_cmpR (op_eqD hr.units) (pv 4) pe_str (nomark _))
        (pss_one (ps_set (i := 3) sc_law_lines.nd rfl (.inl rfl) pe_bl))
        (pss_cons (ps_par (i := 1) (j := 2) rfl sc_law_lines.nd rfl rfl (by decide) rfl rfl (pa_cons (pe_op op_add_str (pv 1) (pe_ix ix_tup (pv 4) pe_int (fun _ _ => rfl))) (pa_cons (pe_op op_add_str (pv 2) (pe_ifExp (PW.pt (pw_and (pt_val (pv 3)) (pw_and1 (pt_val (pe_ix ix_tup (pv 4) pe_int (fun _ _ => rfl)))))) pe_str (pe_ifExp (pt_val (pe_ix ix_tup (pv 4) pe_int (fun _ _ => rfl))) pe_str (pe_ifExp (pt_val (pv 3)) pe_str pe_str)))) pa_nil)) (by rfl))
        (pss_one (ps_set (i := 3) sc_law_lines.nd rfl (.inl rfl) pe_bl))))))
    (pss_cons (ps_set (i := 5) sc_law_lines.nd rfl (.inl rfl) (pe_lst pa_nil))
    (pss_cons (ps_for PassesOwn.never rfl (pi_range3 (by rfl) T.m_range (pa_cons pe_int (pa_cons (pe_callB (call_max2 rfl) (by rfl) T.m_max (by decide +kernel) (pa_cons pe_int (pa_cons (pe_callB call_len_str (by rfl) T.m_len PySem.boot_len (pa_cons (pv 1) pa_nil)) pa_nil))) (pa_cons pe_int pa_nil)))) (pg_name (i := 6) sc_law_lines.nd rfl (.inl rfl))
      (pss_one (ps_set (i := 5) sc_law_lines.nd rfl (.inl rfl) (pe_op op_cat (pv 5) (pe_lst (pa_cons (pe_slice C8.sl_txt (pv 1) (po_some (pv 6)) (po_some (pe_op op_add (pv 6) pe_int))) (pa_cons (pe_slice C8.sl_txt (pv 2) (po_some (pv 6)) (po_some (pe_op op_add (pv 6) pe_int))) pa_nil)))))))
    (pss_one (ps_ret (pe_op op_cat (pe_slice sl_list (pv 5) po_none (po_some (pe_un un_neg pe_int))) (pe_lst (pa_cons (pe_op op_add_str (pe_ix ix_list (pv 5) (pe_un un_neg pe_int) (fun _ _ => rfl)) (pe_ifExp (pt_val (pv 3)) pe_str pe_str)) pa_nil))))))))), ?_⟩
    refine go_seq (go_asg (go_tup (go_cons (go_c (go_cons (go_c (go_cons (go_c (go_nil ⟨sz3, fun p0 n0 => ⟨p0, _, rfl, .inl (.inl upd_same), rfl, _, _, rfl, _, _, rfl, _, _, rfl, rfl, ?_⟩⟩)))))))))
    have x0 := same_new (o := HO.tup [V.str "", V.str "", V.bl false]) n0
    have hD := x0 _ _ hD
    have hR := hR.same x0
    have q : ∀ (F : Addr) (H' : Hp), Same (upd H p0 (HO.tup [V.str "", V.str "", V.bl false])) H' → H' F = some (.lst ((finL t m (rows t.length - 1) g).map tx)) → (upd H p0 (HO.tup [V.str "", V.str "", V.bl false])) F = none → Q (.ref F) H' := fun F H' e h1 h2 => q F H' (x0.trans e) (same_none x0 h2) h1
    generalize upd H p0 (HO.tup [V.str "", V.str "", V.bl false]) = H0 at hD hR q ⊢
    dsimp only [gName]
    have lv := hR.len
    refine go_seq ⟨_, rfl, D, rfl, ⟨_, .inl (.inl hD)⟩, for_list (xs := vs) (fun i σ H' => ∃ (t m : List Nat) (g : Bool) (o4 : Option V), σ = [some (.ref D), some (.str (S t)), some (.str (S m)), some (.bl g), o4, none, none] ∧ (ts.take i).foldl stepT ([], [], false) = (t, m, g) ∧ H' = H0)
      ⟨[], [], false, none, rfl, rfl, rfl⟩ (fun i σ' H' _ h => ?_) (fun i v σ' Hd hv h => ?_) (fun σ' Hd h => ?_)⟩
    · obtain ⟨_, _, _, _, _, _, rfl⟩ := h
      exact .inl (.inl hD)
    · obtain ⟨t', m', g', o4, rfl, hf', rfl⟩ := h
      obtain ⟨k, hk, hkv⟩ := hR.get hv
      have et : ts.take (i + 1) = ts.take i ++ [k] := by
        rw [List.take_add_one, hk]
        rfl
      have hs : (ts.take (i + 1)).foldl stepT ([], [], false) = stepT (t', m', g') k := by
        rw [et, List.foldl_append, hf']
        rfl
      have hl := foldT_len (ts.take i) ([], [], false)
      rw [hf', List.length_take] at hl
      have hl1 : t'.length ≤ 1000 := by
        have := hl.1
        have e : (([], [], false) : List Nat × List Nat × Bool).1.length = 0 := rfl
        rw [e] at this
        have this : t'.length ≤ 0 + min i ts.length := this
        omega
      have hl2 : m'.length = t'.length := by
        rcases hl.2 with h | h
        · have h : m'.length = t'.length + 0 - 0 := h
          omega
        · exact absurd rfl h
      dsimp only [gName]
      refine go_if (go_test ⟨_, rfl, go_c (eq_gap hkv ⟨_, rfl, ?_⟩)⟩)
      cases k with
      | none =>
        refine iteT (B := _) (go_asg (go_c ?_))
        dsimp only [gName]
        exact ⟨t', m', true, _, rfl, hs, rfl⟩
      | some k =>
        obtain ⟨c, b⟩ := k
        obtain ⟨r, rfl, hr, _⟩ := hkv
        refine iteF (A := _) ?_
        refine go_seq ⟨_, rfl, _, rfl, r, _, 0, .str (S [c]), rfl, rfl, .inl (.inl hr), rfl, S t', S [c], rfl, rfl, app_le (by show t'.length + 1 ≤ _; omega), ?_⟩
        rw [S_app]
        have mk : ∀ (H'' : Hp) (z : Nat), z = markC b g' → ∃ (t m : List Nat) (g : Bool) (o4 : Option V), [some (.ref D), some (.str (S (t' ++ [c]))), some (.str (S (m' ++ [z]))), some (.bl false), some (.ref r), none, none] = [some (.ref D), some (.str (S t)), some (.str (S m)), some (.bl g), o4, none, none] ∧ (ts.take (i + 1)).foldl stepT ([], [], false) = (t, m, g) ∧ H'' = H'' := fun H'' z hz => by
          subst hz
          exact ⟨_, _, _, _, rfl, hs, rfl⟩
        have apm : ∀ z : Nat, (S m').length + (S [z]).length ≤ sizeLine := fun z => app_le (by show m'.length + 1 ≤ _; omega)
        have nx : ∀ (z : Nat) (H'' : Hp), z = markC b g' → S m' ++ S [z] = S (m' ++ [z]) := fun z _ _ => S_app _ _
        cases g' with
        | true =>
          refine ⟨_, rfl, _, rfl, _, rfl, iteT (B := _) ?_⟩
          cases b with
          | true =>
            refine ⟨_, rfl, r, _, 1, _, rfl, rfl, .inl (.inl hr), rfl, _, rfl, iteT (B := _) ⟨S m', S [35], rfl, rfl, apm _, ?_⟩⟩
            rw [S_app]
            refine ⟨_, _, rfl, ?_⟩
            dsimp only
            refine go_asg (go_c ?_)
            dsimp only [gName]
            exact mk _ 35 rfl
          | false =>
            refine ⟨_, rfl, r, _, 1, _, rfl, rfl, .inl (.inl hr), rfl, _, rfl, iteF (A := _) ?_⟩
            refine ⟨_, rfl, r, _, 1, _, rfl, rfl, .inl (.inl hr), rfl, _, rfl, iteF (A := _) ?_⟩
            refine ⟨_, rfl, _, rfl, iteT (B := _) ⟨S m', S [95], rfl, rfl, apm _, ?_⟩⟩
            rw [S_app]
            refine ⟨_, _, rfl, ?_⟩
            dsimp only
            refine go_asg (go_c ?_)
            dsimp only [gName]
            exact mk _ 95 rfl
        | false =>
          refine ⟨_, rfl, _, rfl, _, rfl, iteF (A := _) ?_⟩
          cases b with
          | true =>
            refine ⟨_, rfl, r, _, 1, _, rfl, rfl, .inl (.inl hr), rfl, _, rfl, iteT (B := _) ⟨S m', S [94], rfl, rfl, apm _, ?_⟩⟩
            rw [S_app]
            refine ⟨_, _, rfl, ?_⟩
            dsimp only
            refine go_asg (go_c ?_)
            dsimp only [gName]
            exact mk _ 94 rfl
          | false =>
            refine ⟨_, rfl, r, _, 1, _, rfl, rfl, .inl (.inl hr), rfl, _, rfl, iteF (A := _) ?_⟩
            refine ⟨_, rfl, _, rfl, iteF (A := _) ⟨S m', S [32], rfl, rfl, apm _, ?_⟩⟩
            rw [S_app]
            refine ⟨_, _, rfl, ?_⟩
            dsimp only
            refine go_asg (go_c ?_)
            dsimp only [gName]
            exact mk _ 32 rfl
    · obtain ⟨t', m', g', o4, rfl, hf', rfl⟩ := h
      rw [lv, List.take_length, hf] at hf'
      obtain ⟨rfl, rfl, rfl⟩ : t = t' ∧ m = m' ∧ g = g' := by
        injection hf' with h1 h2
        injection h2 with h2 h3
        exact ⟨h1, h2, h3⟩
      dsimp only
      refine go_seq (go_asg (go_lst (go_nil ⟨Nat.zero_le _, fun L nL => ?_⟩)))
      have hL : upd Hd L (HO.lst []) L = some (.lst ((linesL t m 0).map tx)) := upd_same
      have x4 := same_new (o := HO.lst []) nL
      generalize upd Hd L (HO.lst []) = H4 at hL x4 ⊢
      clear nL
      dsimp only [gName]
      have hl := foldT_len ts ([], [], false)
      rw [hf] at hl
      have hl1 : t.length ≤ 1000 := by
        have this : t.length ≤ 0 + ts.length := hl.1
        omega
      have hl2 : m.length = t.length := by
        rcases hl.2 with h | h
        · have h : m.length = t.length + 0 - 0 := h
          omega
        · exact absurd rfl h
      have mx : (if ((S t).length : Int) > (1 : Int) then ((S t).length : Int) else (1 : Int)) = ((max t.length 1 : Nat) : Int) := by
        rw [S_len]
        split <;> omega
      refine go_seq ⟨_, rfl, S t, rfl, len_le (by omega), _, _, rfl, ?_⟩
      rw [mx]
      have lr : rows t.length ≤ 40 := by
        unfold rows
        omega
      refine ⟨_, _, _, rows t.length, rfl, rg60 (by omega) (by omega), for_rangeC (fun i σ H' => ∃ (L : Addr) (o6 : Option V), σ = [some (.ref D), some (.str (S t)), some (.str (S m)), some (.bl g), o4, some (.ref L), o6] ∧ H' L = some (.lst ((linesL t m i).map tx)) ∧ Same Hd H')
        ⟨L, none, rfl, hL, x4⟩ (fun i σ' Hc hi h => ?_) (fun σ' Hc h => ?_)⟩
      · obtain ⟨L, o6, rfl, hL, ec⟩ := h
        dsimp only [gName]
        have eb : (0 + (i : Int) * 60) = ((60 * i : Nat) : Int) := by omega
        rw [eb]
        refine go_asg ⟨_, rfl, _, rfl, _, rfl, ((60 * i : Nat) : Int), rfl, _, rfl, _, _, rfl, rfl, ((60 * i : Nat) : Int) + 60, rfl, S t, rfl, len_le (by omega), ?_⟩
        rw [cut60]
        refine ⟨_, rfl, _, rfl, ((60 * i : Nat) : Int), rfl, _, rfl, _, _, rfl, rfl, ((60 * i : Nat) : Int) + 60, rfl, S m, rfl, len_le (by omega), ?_⟩
        rw [cut60]
        refine ⟨sz2, fun Z nZ => ⟨L, Z, _, _, rfl, rfl, same_new nZ _ _ hL, upd_same, ?_, fun N nN => ?_⟩⟩
        · rw [List.length_map, linesL_len]
          exact Nat.le_trans (show 2 * i + 2 ≤ 200 by omega) (by decide)
        have xz := same_new (o := HO.lst [tx ((t.drop (60 * i)).take 60), tx ((m.drop (60 * i)).take 60)]) nZ
        dsimp only [gName]
        refine ⟨N, _, rfl, ?_, (ec.trans xz).trans (same_new nN)⟩
        rw [upd_same]
        show _ = some (HO.lst ((linesL t m i ++ [_, _]).map tx))
        rw [List.map_append]
        rfl
      · obtain ⟨L, o6, rfl, hL, ec⟩ := h
        dsimp only
        obtain ⟨j, hj⟩ : ∃ j, rows t.length = j + 1 := ⟨rows t.length - 1, by have := rows_pos t.length; omega⟩
        rw [hj] at hL q
        have e0 : (linesL t m (j + 1)).map tx = (linesL t m j ++ [(t.drop (60 * j)).take 60]).map tx ++ [tx ((m.drop (60 * j)).take 60)] := by
          show (linesL t m j ++ [_, _]).map tx = _
          rw [List.map_append, List.map_append, List.append_assoc]
          rfl
        have ef : (finL t m (j + 1 - 1) g).map tx = (linesL t m j ++ [(t.drop (60 * j)).take 60]).map tx ++ [tx ((m.drop (60 * j)).take 60 ++ (if g then [95] else []))] := by
          unfold finL
          rw [Nat.add_sub_cancel, List.map_append, List.map_append, List.append_assoc]
          rfl
        rw [ef] at q
        rw [e0] at hL
        have lB : ((m.drop (60 * j)).take 60).length ≤ 60 := by rw [List.length_take]; omega
        have li : ((linesL t m j ++ [(t.drop (60 * j)).take 60]).map tx).length = 2 * j + 1 := by
          rw [List.length_map, List.length_append, linesL_len]
          rfl
        generalize (linesL t m j ++ [(t.drop (60 * j)).take 60]).map tx = ini at hL q li
        generalize (m.drop (60 * j)).take 60 = B at hL q lB
        have fin : ∀ (z : List Nat) (N : Addr) (H5 : Hp), z.length ≤ 1 → Same Hc H5 → H5 N = some (.lst ini) → ((S B).length + (S z).length ≤ sizeLine) := fun z N H5 hz _ _ => app_le (by omega)
        refine go_ret (go_op ⟨_, rfl, 1, rfl, -1, rfl, L, _, rfl, .inl (.inl hL), fun N nN => ?_⟩)
        rw [cut_last]
        have x5 := same_new (o := HO.lst ini) nN
        refine ⟨_, rfl, 1, rfl, L, _, -1, tx B, rfl, rfl, .inl (.inl (x5 _ _ hL)), at_last, _, rfl, _, rfl, ?_⟩
        have last : ∀ (z : List Nat), (if g then [95] else []) = z → ∀ W, (upd Hc N (.lst ini)) W = none → rCat (.ref N) (.ref W) (upd (upd Hc N (.lst ini)) W (.lst [tx (B ++ z)])) Q := fun z hz W nW => by
          refine ⟨N, W, _, _, rfl, rfl, same_new nW _ _ upd_same, upd_same, by rw [li]; exact Nat.le_trans (show 2 * j + 1 + 1 ≤ 200 by omega) (by decide), fun F nF => ?_⟩
          have e6 := (ec.trans x5).trans ((same_new (o := HO.lst [tx (B ++ z)]) nW).trans (same_new (o := HO.lst (ini ++ [tx (B ++ z)])) nF))
          exact q F _ e6 (by rw [upd_same, hz]) (same_none ((ec.trans x5).trans (same_new (o := HO.lst [tx (B ++ z)]) nW)) nF)
        cases g with
        | true =>
          refine iteT (B := _) ⟨S B, S [95], rfl, rfl, app_le (by show B.length + 1 ≤ _; omega), ?_⟩
          rw [S_app]
          exact ⟨sz1, last [95] rfl⟩
        | false =>
          refine iteF (A := _) ⟨S B, S [], rfl, rfl, app_le (by show B.length + 0 ≤ _; omega), ?_⟩
          rw [S_app]
          exact ⟨sz1, last [] rfl⟩
end
end K55
namespace K55
open PySem PySem.Spec PyProof.Rows L2 Kx SX LamX
section
variable {P : Program} {w : World} {K : PySem.W.Frag} {mg : Str → Option Value} {base : Heap} (T : Tx K mg)
theorem lenS {t : List Nat} : ((S t).length : Int) = (t.length : Int) := by rw [S_len]
def sp_law_edits (K : PySem.W.Frag) : Sp := fun vs H Q _ => ∃ (a c : Addr) (t : List Nat) (n : Nat), vs = [.ref a, .str (S t)] ∧ Wh H a c n ∧ n < 800000 ∧ t.length ≤ 900 ∧
  ∀ (p D : Addr) (es : List Ed) (u : List Nat) (H' : Hp), es.length ≤ 12 → (∀ e ∈ es, e.ok = true) → Path t es u → EdsL H' D es → H' p = some (.tup [.ref D, .str (S u)]) → H D = none → Mv a H H' → Wh H' a c (n + 80) → Q (.ref p) H'
theorem ok_law_edits : FnOk P w K mg base CX0 3 T.f_law_edits T.fd_law_edits ["pen", "text"] (sp_law_edits K) := by
  refine T.F_law_edits.ok sc_law_edits (fun vs H Q E h => ?_) (fun cdv A outer s H vs Q E hr h => ?_)
  · obtain ⟨a, c, t, n, rfl, _⟩ := h
    rfl
  · obtain ⟨a, c, t, n, rfl, wh, hn, lt, q⟩ := h
    refine ⟨_, (pss_cons (ps_par (i := 2) (j := 3) rfl sc_law_edits.nd rfl rfl (by decide) rfl rfl (pa_cons (pe_lst pa_nil) (pa_cons (pe_call (ok_law_stroke T) (hr.mono (by decide)) (by rfl) T.g_law_stroke T.F_law_stroke.kp T.b_law_stroke .nil pass0 (pa_cons (pv 0) (pa_cons (pe_op op_add (pe_callB call_len_str (by rfl) T.m_len PySem.boot_len (pa_cons (pv 1) pa_nil)) pe_int) pa_nil))) pa_nil)) (by rfl))
    (pss_cons (ps_for PassesOwn.never rfl (pi_range1 (by rfl) T.m_range (pa_cons (pe_call (ok_law_one_of T) (hr.mono (by decide)) (by rfl) T.g_law_one_of T.F_law_one_of.kp T.b_law_one_of .nil pass0 (pa_cons (pv 0) (pa_cons (pe_lst (pa_cons pe_int (pa_cons pe_int (pa_cons pe_int (pa_cons pe_int (pa_cons pe_int pa_nil)))))) pa_nil))) pa_nil)) (pg_name (i := 4) sc_law_edits.nd rfl (.inl rfl))
      (pss_cons (ps_set (i := 5) sc_law_edits.nd rfl (.inl rfl) (pe_call (ok_law_one_of T) (hr.mono (by decide)) (by rfl) T.g_law_one_of T.F_law_one_of.kp T.b_law_one_of .nil pass0 (pa_cons (pv 0) (pa_cons (pe_lst (pa_cons (pv 3) (pa_cons (pe_call (ok_law_stroke T) (hr.mono (by decide)) (by rfl) T.g_law_stroke T.F_law_stroke.kp T.b_law_stroke .nil pass0 (pa_cons (pv 0) (pa_cons (pe_op op_add (pe_callB call_len_str (by rfl) T.m_len PySem.boot_len (pa_cons (pv 1) pa_nil)) pe_int) pa_nil))) (pa_cons pe_int (pa_cons (pe_callB call_len_str (by rfl) T.m_len PySem.boot_len (pa_cons (pv 1) pa_nil)) (pa_cons (pe_op op_add (pv 3) pe_int) pa_nil)))))) pa_nil))))
      (pss_cons (ps_par3 (i := 5) (j := 6) (l := 7) rfl sc_law_edits.nd rfl rfl rfl (by decide) (by decide) (by decide) rfl rfl rfl (pa_cons (pe_callB (call_min2 rfl) (by rfl) T.m_min (by decide +kernel) (pa_cons (pv 5) (pa_cons (pe_callB call_len_str (by rfl) T.m_len PySem.boot_len (pa_cons (pv 1) pa_nil)) pa_nil))) (pa_cons (pe_call (ok_law_stroke T) (hr.mono (by decide)) (by rfl) T.g_law_stroke T.F_law_stroke.kp T.b_law_stroke .nil pass0 (pa_cons (pv 0) (pa_cons pe_int pa_nil))) (pa_cons (pe_call (ok_law_one_of T) (hr.mono (by decide)) (by rfl) T.g_law_one_of T.F_law_one_of.kp T.b_law_one_of .nil pass0 (pa_cons (pv 0) (pa_cons (pe_lst (pa_cons pe_str (pa_cons pe_str (pa_cons pe_str (pa_cons pe_str pa_nil))))) pa_nil))) pa_nil))) (by rfl))
      (pss_one (ps_if (PW.pt (pw_or (pt_cmpR op_eq (pv 6) pe_int (nomark _)) (pw_or1 (pt_cmpR op_eq (pv 5) (pe_callB call_len_str (by rfl) T.m_len PySem.boot_len (pa_cons (pv 1) pa_nil)) (nomark _)))))
        (pss_cons (ps_expr (pe_bm PySem.F.plainAttrs_list PySem.F.slot_list_append PySem.F.type_list_append mt_append (pv 2) (pa_cons (pe_tup (pa_cons pe_str (pa_cons (pv 5) (pa_cons (pv 7) pa_nil)))) pa_nil)))
        (pss_one (ps_set (i := 1) sc_law_edits.nd rfl (.inl rfl) (pe_op op_add_str (pe_op op_add_str (pe_slice C8.sl_txt (pv 1) po_none (po_some (pv 5))) (pv 7)) (pe_slice C8.sl_txt (pv 1) (po_some (pv 5)) po_none)))))
        (pss_one (ps_if (PW.pt (pw_and (pt_cmpR op_eq (pv 6) pe_int (nomark _)) (pw_and1 (pt_cmpR op_ne (pe_ix ix_str (pv 1) (pv 5) (fun _ _ => rfl)) (pv 7) (nomark _)))))
          (pss_cons (ps_expr (pe_bm PySem.F.plainAttrs_list PySem.F.slot_list_append PySem.F.type_list_append mt_append (pv 2) (pa_cons (pe_tup (pa_cons pe_str (pa_cons (pv 5) (pa_cons (pv 7) pa_nil)))) pa_nil)))
          (pss_one (ps_set (i := 1) sc_law_edits.nd rfl (.inl rfl) (pe_op op_add_str (pe_op op_add_str (pe_slice C8.sl_txt (pv 1) po_none (po_some (pv 5))) (pv 7)) (pe_slice C8.sl_txt (pv 1) (po_some (pe_op op_add (pv 5) pe_int)) po_none)))))
          (pss_cons (ps_expr (pe_bm PySem.F.plainAttrs_list PySem.F.slot_list_append PySem.F.type_list_append mt_append (pv 2) (pa_cons (pe_tup (pa_cons pe_str (pa_cons (pv 5) pa_nil))) pa_nil)))
          (pss_one (ps_set (i := 1) sc_law_edits.nd rfl (.inl rfl) (pe_op op_add_str (pe_slice C8.sl_txt (pv 1) po_none (po_some (pv 5))) (pe_slice C8.sl_txt (pv 1) (po_some (pe_op op_add (pv 5) pe_int)) po_none))))))))))))
    (pss_one (ps_ret (pe_tup (pa_cons (pv 2) (pa_cons (pv 1) pa_nil))))))), ?_⟩
    refine go_seq (go_cons (go_lst (go_nil ⟨Nat.zero_le _, fun D nD => ?_⟩)))
    have hDa := wh.ne nD
    have hDc := wh.nc nD
    have w1 := wh.new (o := HO.lst []) nD
    have e1 := same_new (o := HO.lst []) nD
    have hD : upd H D (HO.lst []) D = some (.lst []) := upd_same
    generalize upd H D (HO.lst []) = H1 at w1 e1 hD ⊢
    refine go_cons ⟨_, rfl, _, rfl, S t, rfl, len_le (by omega), _, _, rfl, rfl, a, c, _, n, rfl, by rw [lenS]; omega, by rw [lenS]; omega, w1, by omega, fun r H2 r0 r1 m2 w2 => ?_⟩
    obtain ⟨near, rfl⟩ : ∃ y : Nat, r = y := ⟨r.toNat, by omega⟩
    have hD2 := m2 _ _ hDa hD
    have mA : Mv a H H2 := (Mv.of e1).trans m2
    clear r0 r1 m2 w1 e1 hD
    refine go_nil ⟨_, _, rfl, ?_⟩
    dsimp only
    -- how many
    refine go_seq ⟨_, rfl, show 5 ≤ sizeLine by decide, fun p1 n1 => ?_⟩
    have hpa := w2.ne n1
    refine ⟨a, p1, c, _, _, rfl, .inl (.inl upd_same), by simp, (show 5 ≤ 1000000 by decide), w2.new n1, by omega, fun H' m => .inl (.inl (m _ _ hpa upd_same)), fun v H3 hv m3 w3 => ?_⟩
    obtain ⟨m, rfl, hm⟩ : ∃ m : Nat, v = .int (m : Nat) ∧ m ≤ 12 := by
      simp only [List.mem_cons, List.not_mem_nil, or_false] at hv
      rcases hv with rfl | rfl | rfl | rfl | rfl
      · exact ⟨3, rfl, by decide⟩
      · exact ⟨0, rfl, by decide⟩
      · exact ⟨1, rfl, by decide⟩
      · exact ⟨6, rfl, by decide⟩
      · exact ⟨12, rfl, by decide⟩
    have hD3 := m3 _ _ hDa (same_new n1 _ _ hD2)
    have mB : Mv a H H3 := mA.trans ((Mv.of (same_new n1)).trans m3)
    clear hv m3 n1 hpa hD2 mA w2
    refine ⟨_, rfl, by omega, by omega, for_range (lo := 0) (n := ((m : Nat) : Int).toNat) (fun i σ H' => ∃ (o4 o5 o6 o7 : Option V) (es : List Ed) (u : List Nat), σ = [some (.ref a), some (.str (S u)), some (.ref D), some (.int (near : Nat)), o4, o5, o6, o7] ∧ es.length = i ∧ (∀ e ∈ es, e.ok = true) ∧ Path t es u ∧ EdsL H' D es ∧ Mv a H H' ∧ Wh H' a c (n + 2 + 5 * i))
      ⟨none, none, none, none, [], t, rfl, rfl, (fun e m => by cases m), .nil t, ⟨[], hD3, rfl, fun i q e x y => by cases x⟩, mB, w3.lt (by omega)⟩ (fun i σ' Hc hi h => ?_) (fun σ' Hc h => ?_)⟩
    · obtain ⟨o4, o5, o6, o7, es, u, rfl, le, ho, hp, hE, mv, wc⟩ := h
      rw [Int.toNat_natCast] at hi
      have lu := (Path.len hp).1
      dsimp only [gName]
      -- where
      refine go_seq (go_asg ⟨_, rfl, _, rfl, _, rfl, _, rfl, S u, rfl, len_le (by omega), _, _, rfl, rfl, a, c, _, _, rfl, by rw [lenS]; omega, by rw [lenS]; omega, wc, by omega, fun r H4 r0 r1 m4 w4 => ?_⟩)
      refine ⟨_, rfl, S u, rfl, len_le (by omega), _, rfl, _, _, rfl, rfl, show 5 ≤ sizeLine by decide, fun p1 n1 => ?_⟩
      have hpa := w4.ne n1
      refine ⟨a, p1, c, _, _, rfl, .inl (.inl upd_same), by simp, (show 5 ≤ 1000000 by decide), w4.new n1, by omega, fun H' m => .inl (.inl (m _ _ hpa upd_same)), fun v H5 hv m5 w5 => ?_⟩
      obtain ⟨z, rfl⟩ : ∃ z : Nat, v = .int (z : Nat) := by
        simp only [List.mem_cons, List.not_mem_nil, or_false] at hv
        rcases hv with rfl | rfl | rfl | rfl | rfl
        · exact ⟨near, rfl⟩
        · exact ⟨r.toNat, by rw [Int.toNat_of_nonneg r0]⟩
        · exact ⟨0, rfl⟩
        · exact ⟨_, rfl⟩
        · exact ⟨near + 1, rfl⟩
      have mC : Mv a Hc H5 := m4.trans ((Mv.of (same_new n1)).trans m5)
      clear hv m4 m5 n1 hpa w4 r0 r1
      dsimp only [gName]
      have mn : (if ((S u).length : Int) < (z : Int) then ((S u).length : Int) else (z : Int)) = ((min z u.length : Nat) : Int) := by
        rw [lenS]
        split <;> omega
      refine go_seq ⟨_, rfl, _, rfl, S u, rfl, len_le (by omega), _, _, rfl, ?_⟩
      rw [mn]
      have hat : min z u.length ≤ u.length := Nat.min_le_right _ _
      generalize min z u.length = y at hat ⊢
      refine ⟨_, rfl, a, c, 3, _, rfl, by decide, by decide, w5, by omega, fun way H6 y0 y1 m6 w6 => ⟨_, rfl, sz4, fun p1 n1 => ?_⟩⟩
      have hpa := w6.ne n1
      refine ⟨a, p1, c, _, _, rfl, .inl (.inl upd_same), by simp, (show 4 ≤ 1000000 by decide), w6.new n1, by omega, fun H' m => .inl (.inl (m _ _ hpa upd_same)), fun v H7 hv m7 w7 => ?_⟩
      obtain ⟨g, rfl, hg⟩ : ∃ g : Nat, v = .str (S [g]) ∧ sg g = true := by
        simp only [List.mem_cons, List.not_mem_nil, or_false] at hv
        rcases hv with rfl | rfl | rfl | rfl
        · exact ⟨97, rfl, by decide⟩
        · exact ⟨32, rfl, by decide⟩
        · exact ⟨98, rfl, by decide⟩
        · exact ⟨120, rfl, by decide⟩
      have mD : Mv a Hc H7 := mC.trans (m6.trans ((Mv.of (same_new n1)).trans m7))
      clear hv m6 m7 n1 hpa w6 mC mn
      have hE7 : EdsL H7 D es := by
        obtain ⟨ps, h1, h2, h3⟩ := hE
        exact ⟨ps, mD _ _ hDa h1, h2, fun i q d x y => mD _ _ (wh_ne_tup wc (h3 i q d x y)) (h3 i q d x y)⟩
      refine ⟨_, _, _, rfl, ?_⟩
      dsimp only
      obtain ⟨ps, h1, h2, h3⟩ := id hE7
      have step : ∀ (p : Addr) (e : Ed) (u2 : List Nat) (o4 o5 o6 o7 : Option V), H7 p = none → e.ok = true → doE u e = some u2 → ∃ xs, (upd H7 p (.tup e.vs)) D = some (.lst xs) ∧ xs.length < sizeLine ∧
          ∃ (o4' o5' o6' o7' : Option V) (es : List Ed) (u : List Nat), [some (.ref a), some (.str (S u2)), some (.ref D), some (.int (near : Nat)), o4, o5, o6, o7] = [some (.ref a), some (.str (S u)), some (.ref D), some (.int (near : Nat)), o4', o5', o6', o7'] ∧ es.length = i + 1 ∧ (∀ e ∈ es, e.ok = true) ∧ Path t es u ∧ EdsL (upd (upd H7 p (.tup e.vs)) D (.lst (xs ++ [.ref p]))) D es ∧ Mv a H (upd (upd H7 p (.tup e.vs)) D (.lst (xs ++ [.ref p]))) ∧ Wh (upd (upd H7 p (.tup e.vs)) D (.lst (xs ++ [.ref p]))) a c (n + 2 + 5 * (i + 1)) := fun p e u2 o4 o5 o6 o7 np he hd => by
        have x1 := same_new (o := HO.tup e.vs) np
        have hE8 := hE7.same x1
        have hpD : p ≠ D := fun z => by
          rw [z, h1] at np
          cases np
        have w8 := w7.new (o := HO.tup e.vs) np
        refine ⟨_, x1 _ _ h1, ?_, _, _, _, _, es ++ [e], u2, rfl, by rw [List.length_append, le]; rfl, fun x hx => ?_, hp.snoc hd, hE8.add (Mv.upd _ _ _) (by rw [upd_ne hpD]; exact upd_same) (fun ps' h => ?_), fun b o nb hb => ?_, (w8.set hDa hDc).lt (by omega)⟩
        · rw [List.length_map, h2]
          exact Nat.lt_of_lt_of_le (show es.length < 100 by omega) (by decide)
        · rcases List.mem_append.mp hx with hx | hx
          · exact ho x hx
          · rw [List.mem_singleton.mp hx]
            exact he
        · rw [x1 _ _ h1] at h
          injection h with h
          injection h with h
          rw [upd_same, h]
        · rw [upd_ne (ne_of_none hb nD)]
          exact x1 _ _ ((mv.trans mD) b o nb hb)
      have hl2 : u.length ≤ 200000 := by omega
      have doput : doE u (.put y g) = some (u.take y ++ [g] ++ u.drop y) := if_pos ⟨hat, by omega⟩
      refine go_if (go_or2 (go_test ⟨_, rfl, rfl, _, rfl, iteC (fun _ => iteT (B := _) ?_) (fun _ => ?_)⟩))
      · refine go_seq ⟨_, rfl, .inl ⟨rfl, _, .inl (.inl h1)⟩, go_cons (go_tup (go_cons (go_c (go_cons (go_var rfl (go_cons (go_var rfl (go_nil ⟨sz3, fun p np => ?_⟩))))))))⟩
        obtain ⟨xs, s1, s2, s3⟩ := step p (.put y g) _ _ _ _ _ np hg doput
        refine go_nil ⟨D, xs, _, rfl, rfl, s1, s2, ?_⟩
        dsimp only
        refine go_asg (go_op (go_op ⟨_, rfl, _, rfl, (y : Int), rfl, S u, rfl, len_le hl2, ?_⟩))
        rw [cut_toN]
        refine ⟨_, rfl, _, _, rfl, rfl, app_le (by rw [List.length_take]; show _ + 1 ≤ _; omega), ?_⟩
        rw [S_app]
        refine ⟨_, rfl, _, rfl, (y : Int), rfl, S u, rfl, len_le hl2, ?_⟩
        rw [cut_fromN]
        refine ⟨_, _, rfl, rfl, app_le (by rw [List.length_append, List.length_take, List.length_drop]; show _ + 1 + _ ≤ _; omega), ?_⟩
        rw [S_app]
        exact s3
      refine go_test ⟨_, rfl, _, rfl, S u, rfl, len_le hl2, rfl, _, rfl, ?_⟩
      have e5 : decide (V.int (y : Nat) = V.int ((S u).length : Nat)) = decide (y = u.length) := by
        rw [S_len]
        by_cases h : y = u.length
        · rw [h, decide_eq_true rfl, decide_eq_true rfl]
        · rw [decide_eq_false h, decide_eq_false]
          intro e
          injection e with e
          omega
      rw [e5]
      refine iteC (fun _ => ?_) (fun hh => ?_)
      · refine go_seq ⟨_, rfl, .inl ⟨rfl, _, .inl (.inl h1)⟩, go_cons (go_tup (go_cons (go_c (go_cons (go_var rfl (go_cons (go_var rfl (go_nil ⟨sz3, fun p np => ?_⟩))))))))⟩
        obtain ⟨xs, s1, s2, s3⟩ := step p (.put y g) _ _ _ _ _ np hg doput
        refine go_nil ⟨D, xs, _, rfl, rfl, s1, s2, ?_⟩
        dsimp only
        refine go_asg (go_op (go_op ⟨_, rfl, _, rfl, (y : Int), rfl, S u, rfl, len_le hl2, ?_⟩))
        rw [cut_toN]
        refine ⟨_, rfl, _, _, rfl, rfl, app_le (by rw [List.length_take]; show _ + 1 ≤ _; omega), ?_⟩
        rw [S_app]
        refine ⟨_, rfl, _, rfl, (y : Int), rfl, S u, rfl, len_le hl2, ?_⟩
        rw [cut_fromN]
        refine ⟨_, _, rfl, rfl, app_le (by rw [List.length_append, List.length_take, List.length_drop]; show _ + 1 + _ ≤ _; omega), ?_⟩
        rw [S_app]
        exact s3
      have hh := of_decide_eq_false hh
      have hlt : y < u.length := by omega
      refine go_if (go_and2 (go_test ⟨_, rfl, rfl, _, rfl, iteC (fun _ => ?_) (fun _ => iteF (A := _) ?_)⟩))
      · refine go_test ⟨_, rfl, _, rfl, S u, (y : Int), u.getD y 0, rfl, rfl, len_le hl2, sgetD hlt, _, rfl, rfl, _, rfl, iteC (fun hg2 => ?_) (fun _ => ?_)⟩
        · have dochg : doE u (.chg y g) = some (u.take y ++ [g] ++ u.drop (y + 1)) := if_pos ⟨hlt, fun e => by
            rw [e] at hg2
            simp at hg2⟩
          refine go_seq ⟨_, rfl, .inl ⟨rfl, _, .inl (.inl h1)⟩, go_cons (go_tup (go_cons (go_c (go_cons (go_var rfl (go_cons (go_var rfl (go_nil ⟨sz3, fun p np => ?_⟩))))))))⟩
          obtain ⟨xs, s1, s2, s3⟩ := step p (.chg y g) _ _ _ _ _ np hg dochg
          refine go_nil ⟨D, xs, _, rfl, rfl, s1, s2, ?_⟩
          dsimp only
          refine go_asg (go_op (go_op ⟨_, rfl, _, rfl, (y : Int), rfl, S u, rfl, len_le hl2, ?_⟩))
          rw [cut_toN]
          refine ⟨_, rfl, _, _, rfl, rfl, app_le (by rw [List.length_take]; show _ + 1 ≤ _; omega), ?_⟩
          rw [S_app]
          refine ⟨_, rfl, _, rfl, (y : Int), 1, rfl, rfl, (y : Int) + 1, rfl, S u, rfl, len_le hl2, ?_⟩
          rw [cut_fromN1]
          refine ⟨_, _, rfl, rfl, app_le (by rw [List.length_append, List.length_take, List.length_drop]; show _ + 1 + _ ≤ _; omega), ?_⟩
          rw [S_app]
          exact s3
        · refine go_seq ⟨_, rfl, .inl ⟨rfl, _, .inl (.inl h1)⟩, go_cons (go_tup (go_cons (go_c (go_cons (go_var rfl (go_nil ⟨sz2, fun p np => ?_⟩))))))⟩
          obtain ⟨xs, s1, s2, s3⟩ := step p (.lost y) _ _ _ _ _ np rfl (if_pos hlt)
          refine go_nil ⟨D, xs, _, rfl, rfl, s1, s2, ?_⟩
          dsimp only
          refine go_asg (go_op ⟨_, rfl, _, rfl, (y : Int), rfl, S u, rfl, len_le hl2, ?_⟩)
          rw [cut_toN]
          refine ⟨_, rfl, _, rfl, (y : Int), 1, rfl, rfl, (y : Int) + 1, rfl, S u, rfl, len_le hl2, ?_⟩
          rw [cut_fromN1]
          refine ⟨_, _, rfl, rfl, app_le (by rw [List.length_take, List.length_drop]; omega), ?_⟩
          rw [S_app]
          exact s3
      · refine go_seq ⟨_, rfl, .inl ⟨rfl, _, .inl (.inl h1)⟩, go_cons (go_tup (go_cons (go_c (go_cons (go_var rfl (go_nil ⟨sz2, fun p np => ?_⟩))))))⟩
        obtain ⟨xs, s1, s2, s3⟩ := step p (.lost y) _ _ _ _ _ np rfl (if_pos hlt)
        refine go_nil ⟨D, xs, _, rfl, rfl, s1, s2, ?_⟩
        dsimp only
        refine go_asg (go_op ⟨_, rfl, _, rfl, (y : Int), rfl, S u, rfl, len_le hl2, ?_⟩)
        rw [cut_toN]
        refine ⟨_, rfl, _, rfl, (y : Int), 1, rfl, rfl, (y : Int) + 1, rfl, S u, rfl, len_le hl2, ?_⟩
        rw [cut_fromN1]
        refine ⟨_, _, rfl, rfl, app_le (by rw [List.length_take, List.length_drop]; omega), ?_⟩
        rw [S_app]
        exact s3
    · obtain ⟨o4, o5, o6, o7, es, u, rfl, le, ho, hp, hE, mv, wc⟩ := h
      rw [Int.toNat_natCast] at le wc
      refine go_ret (go_tup (go_cons (go_var rfl (go_cons (go_var rfl (go_nil ⟨sz2, fun p np => ?_⟩))))))
      exact q p D es u _ (by omega) ho hp (hE.same (same_new np)) upd_same nD (mv.trans (Mv.of (same_new np))) ((wc.new np).lt (by omega))
end
end K55
namespace K55
open PySem PySem.Spec PyProof.Rows L2 Kx SX LamX
/-- the part of an error of one of two classes, with its word; None without one -/
def TTh (CB CW : Addr) : (XK → Hp → VK → Prop) → Hp → VK → Prop := fun tl H Q => ∀ N : VK, (∀ v H', (∀ H'', Same H' H'' → Q .non H'') → N v H') →
  tl (fun cls d H' => ∃ (dd : Addr) (p : V), (cls = .ref CB ∨ cls = .ref CW) ∧ d = some dd ∧ H' dd = some (.xd [("part", p)]) ∧ ∀ t H'', Same H' H'' → H'' t = some (.tup [.str (if cls = .ref CB then "text" else "edits"), p]) → Q (.ref t) H'') H N
/-- how isinstance answers for the three classes -/
structure KitA (K : PySem.W.Frag) (D kT kB kW : Addr) (bB bW : Bool) : Prop where
  t : PySem.W.kitOne K (.ref D) (.ref kT) = some false
  b : PySem.W.kitOne K (.ref D) (.ref kB) = some bB
  w : PySem.W.kitOne K (.ref D) (.ref kW) = some bW
  one : bB = true ∨ bW = true
theorem kitA_B {K : PySem.W.Frag} {mg : Str → Option Value} (T : Tx K mg) : KitA K T.e_BadText.C T.k_TooMany T.e_BadText.C T.e_BadEdits.C true false := by
  have eB : T.e_BadText.C = T.k_BadText := same_ref T.e_BadText.gC T.gk_BadText
  have eW : T.e_BadEdits.C = T.k_BadEdits := same_ref T.e_BadEdits.gC T.gk_BadEdits
  refine ⟨?_, kitOne_self, ?_, .inl rfl⟩
  · rw [eB]
    exact kitOne_other T.kc_TooMany T.kt_TooMany T.su_BadText_TooMany T.su_BadText_BadText
  · rw [eB, eW]
    exact kitOne_other T.kc_BadEdits T.kt_BadEdits T.su_BadText_BadEdits T.su_BadText_BadText
theorem kitA_W {K : PySem.W.Frag} {mg : Str → Option Value} (T : Tx K mg) : KitA K T.e_BadEdits.C T.k_TooMany T.e_BadText.C T.e_BadEdits.C false true ∧ T.e_BadEdits.C ≠ T.e_BadText.C := by
  have eB : T.e_BadText.C = T.k_BadText := same_ref T.e_BadText.gC T.gk_BadText
  have eW : T.e_BadEdits.C = T.k_BadEdits := same_ref T.e_BadEdits.gC T.gk_BadEdits
  refine ⟨⟨?_, ?_, kitOne_self, .inr rfl⟩, ?_⟩
  · rw [eW]
    exact kitOne_other T.kc_TooMany T.kt_TooMany T.su_BadEdits_TooMany T.su_BadEdits_BadEdits
  · rw [eB, eW]
    exact kitOne_other T.kc_BadText T.kt_BadText T.su_BadEdits_BadText T.su_BadEdits_BadEdits
  · rw [eB, eW]
    intro e
    have h1 := T.su_BadEdits_BadText
    have h2 := T.su_BadEdits_BadEdits
    rw [← e, h2] at h1
    cases h1
theorem heard_gives {X : Cx} (T : Tx X.K X.mg) {q : Str} {g : Addr} {cdg : Value} : GivesTo X ["ask", "caught", "error", "told", "word", "is_so"] "_law_heard" (defScope s_law_heard) g cdg (defBody s_law_heard) "ask" q (TTh T.e_BadText.C T.e_BadEdits.C) := by
  intro f c' s H Q tl act hc h
  have hr := (0 : Nat)
  refine ⟨_, pss_cons (ps_set (i := 1) sc_law_heard.nd rfl (.inl rfl) pe_non) (pss_cons (ps_keep (X := (cxOf C8.CX0 X.prog X.w X.K X.mg X.base ["ask", "caught", "error", "told", "word", "is_so"] "_law_heard" (defScope s_law_heard) g cdg X.A X.stack s H C8.E0).nox) (c := .ref T.e_BadText.L) (i := 2) (j := 1) (n := "error") (y := "caught")
      (tb := fun W D σ H => ∃ Ech : XK, (∀ cls d σ' H', Ech cls d H' → W cls d σ' H') ∧ σ[0]? = some (some (.ref f)) ∧ H c' = some (CodeO c' q) ∧ tl Ech H fun _ H' => D.nx σ H')
      rfl rfl rfl sc_law_heard.nd rfl rfl rfl rfl rfl ⟨rfl, by decide, .inl T.e_BadText.gL⟩ (by decide) (by decide) (fun W pn xe tk _ => ?_))
      (pss_cons (ps_if (pt_val (pe_callB call_isiX (by rfl) T.m_isinstance (by decide +kernel) (pa_cons (pv 1) (pa_cons (pe_glob (v := .ref T.k_TooMany) (by rfl) T.gk_TooMany rfl) pa_nil))))
      (pss_one (ps_ret (pe_tup (pa_cons (pe_xp (pv 1)) (pa_cons (pe_xp (pv 1)) pa_nil)))))
      pss_nil)
    (pss_cons (ps_set (i := 3) sc_law_heard.nd rfl (.inl rfl) (pe_lst (pa_cons (pe_tup (pa_cons pe_str (pa_cons (pe_callB call_isiX (by rfl) T.m_isinstance (by decide +kernel) (pa_cons (pv 1) (pa_cons (pe_glob (v := .ref T.e_BadText.C) (by rfl) T.e_BadText.gC rfl) pa_nil))) pa_nil))) (pa_cons (pe_tup (pa_cons pe_str (pa_cons (pe_callB call_isiX (by rfl) T.m_isinstance (by decide +kernel) (pa_cons (pv 1) (pa_cons (pe_glob (v := .ref T.e_BadEdits.C) (by rfl) T.e_BadEdits.gC rfl) pa_nil))) pa_nil))) pa_nil))))
    (pss_cons (ps_for PassesOwn.never rfl (pi_list (pv 3)) (pg_tup rfl (pgs_cons (pg_name (i := 4) sc_law_heard.nd rfl (.inl rfl)) (pgs_cons (pg_name (i := 5) sc_law_heard.nd rfl (.inl rfl)) pgs_nil)))
      (pss_one (ps_if (pt_val (pv 5))
        (pss_one (ps_ret (pe_tup (pa_cons (pv 4) (pa_cons (pe_xp (pv 1)) pa_nil)))))
        pss_nil)))
    (pss_one (ps_ret (pe_ifExp (pt_cmpR op_isN (pv 1) pe_non (nomark _)) pe_non (pe_tup (pa_cons pe_str (pa_cons pe_non pa_nil)))))))))), ?_⟩
  · refine ⟨fun pins s' σ H' D I h' => ?_⟩
    obtain ⟨Ech, hW, h1, h2, h3⟩ := h'
    exact (pss_one (ps_expr (act W pn xe Ech _ _ tk hW))).run pins s' σ H' D I ⟨h1, h2, h3⟩
  · refine go_seq (go_asg (go_c ?_))
    dsimp only [gName]
    refine go_seq ⟨_, fun cls d σ' H' h' => ?_, rfl, hc, h _ fun v H' hq => ?_⟩
    · obtain ⟨dd, p, hcls, rfl, hd, hq⟩ := h'
      obtain ⟨D, bB, bW, rfl, kt, ex, xf, np, em, ew⟩ : ∃ (D : Addr) (bB bW : Bool), cls = .ref D ∧ KitA X.K D T.k_TooMany T.e_BadText.C T.e_BadEdits.C bB bW ∧ ExcC X.K D ∧ XfC X.K D ∧ PySem.W.findIn X.K (.ref D) "part" = some none ∧ PySem.W.exmOne X.K (.ref D) (.ref T.e_BadText.L) = some true ∧
          (Value.ref D = .ref T.e_BadText.C ∧ bB = true ∨ ¬ Value.ref D = .ref T.e_BadText.C ∧ bB = false) := by
        rcases hcls with rfl | rfl
        · exact ⟨_, true, false, rfl, kitA_B T, T.e_BadText.exc, T.e_BadText.xf, T.e_BadText.np, T.e_BadText.em, .inl ⟨rfl, rfl⟩⟩
        · have eL : T.e_BadEdits.L = T.e_BadText.L := same_ref T.e_BadEdits.gL T.e_BadText.gL
          exact ⟨_, false, true, rfl, (kitA_W T).1, T.e_BadEdits.exc, T.e_BadEdits.xf, T.e_BadEdits.np, eL ▸ T.e_BadEdits.em, .inr ⟨fun e => (kitA_W T).2 (by injection e), rfl⟩⟩
      refine ⟨em, fun a na hl => ?_⟩
      have hd1 := same_new (o := exT a (.ref D) (some dd)) na _ _ hd
      have s0 := same_new (o := exT a (.ref D) (some dd)) na
      match σ', hl with
      | [x0, x1, x2, x3, x4, x5], _ =>
        dsimp only
        refine go_seq (go_if (go_b ?_))
        refine ⟨_, rfl, .inr ⟨a, D, dd, _, .ref T.k_TooMany, .ref T.k_TooMany, false, rfl, upd_same, hd1, ex, fun u r => r, kt.t, _, rfl, iteF (A := _) ?_⟩⟩
        dsimp only [tNext]
        refine go_seq (go_asg ?_)
        refine ⟨_, rfl, .inr ⟨a, D, dd, _, .ref T.e_BadText.C, .ref T.e_BadText.C, bB, rfl, upd_same, hd1, ex, fun u r => r, kt.b, sz2, fun t1 n1 => ?_⟩⟩
        have s1 := same_new (o := HO.tup [.str "text", .bl bB]) n1
        refine ⟨_, rfl, .inr ⟨a, D, dd, _, .ref T.e_BadEdits.C, .ref T.e_BadEdits.C, bW, rfl, s1 _ _ upd_same, s1 _ _ hd1, ex, fun u r => r, kt.w, sz2, fun t2 n2 => ⟨sz2, fun pl n3 => ?_⟩⟩⟩
        have s2 := same_new (o := HO.tup [.str "edits", .bl bW]) n2
        have s3 := same_new (o := HO.lst [.ref t1, .ref t2]) n3
        have s23 := s2.trans s3
        have s13 := s1.trans s23
        have ha := s13 _ _ (upd_same (H := H') (a := a) (o := exT a (.ref D) (some dd)))
        have hd3 := s13 _ _ hd1
        have ht1 := s23 _ _ (upd_same (H := upd H' a (exT a (.ref D) (some dd))) (a := t1) (o := HO.tup [.str "text", .bl bB]))
        have ht2 := s3 _ _ (upd_same (a := t2) (o := HO.tup [.str "edits", .bl bW]))
        have hpl := upd_same (H := upd (upd (upd H' a (exT a (.ref D) (some dd))) t1 (HO.tup [.str "text", .bl bB])) t2 (HO.tup [.str "edits", .bl bW])) (a := pl) (o := HO.lst [.ref t1, .ref t2])
        have sA := s0.trans s13
        generalize upd (upd (upd (upd H' a (exT a (.ref D) (some dd))) t1 (HO.tup [.str "text", .bl bB])) t2 (HO.tup [.str "edits", .bl bW])) pl (HO.lst [.ref t1, .ref t2]) = H4 at ha hd3 ht1 ht2 hpl sA ⊢
        clear s1 s2 s3 s23 s13 n1 n2 n3 hd1 s0
        dsimp only [gName]
        have fin : ∀ (wd : Str) (H5 : Hp), Same H4 H5 → wd = (if Value.ref D = .ref T.e_BadText.C then ("text" : Str) else ("edits" : Str)) → ∀ t, H5 t = none → Q (.ref t) (upd H5 t (.tup [.str wd, p])) := fun wd H5 e5 ewd t nt =>
          hq t _ ((sA.trans e5).trans (same_new nt)) (by rw [upd_same, ewd])
        refine go_seq ⟨_, rfl, pl, rfl, ⟨_, .inl (.inl hpl)⟩, for_list (xs := [V.ref t1, V.ref t2]) (fun i σ H5 => ∃ o4 o5, σ = [x0, some (.ref a), none, some (.ref pl), o4, o5] ∧ Same H4 H5 ∧ (1 ≤ i → bB = false) ∧ (2 ≤ i → bW = false))
          ⟨x4, x5, rfl, Same.refl _, fun h => absurd h (by decide), fun h => absurd h (by decide)⟩ (fun i σ2 H5 _ h => ?_) (fun i v σ2 H5 hv h => ?_) (fun σ2 H5 h => ?_)⟩
        · obtain ⟨_, _, _, e, _⟩ := h
          exact .inl (.inl (e _ _ hpl))
        · obtain ⟨o4, o5, rfl, e5, hB, hW⟩ := h
          have hi : i = 0 ∨ i = 1 := by
            have := (List.getElem?_eq_some_iff.mp hv).1
            simp at this
            omega
          rcases hi with rfl | rfl
          · cases hv
            refine ⟨t1, _, rfl, .inl (.inl (e5 _ _ ht1)), rfl, _, _, rfl, _, _, rfl, rfl, ?_⟩
            refine ⟨_, rfl, _, rfl, iteC (fun hb => ?_) (fun hb => ?_)⟩
            · refine ⟨_, rfl, _, rfl, a, D, dd, _, p, rfl, e5 _ _ ha, e5 _ _ hd3, xf, np, rfl, sz2, fun t nt => fin _ H5 e5 ?_ t nt⟩
              rcases ew with ⟨e, _⟩ | ⟨_, e⟩
              · rw [if_pos e]
              · rw [e] at hb
                cases hb
            · exact ⟨_, _, rfl, e5, fun _ => hb, fun h => absurd h (by decide)⟩
          · cases hv
            refine ⟨t2, _, rfl, .inl (.inl (e5 _ _ ht2)), rfl, _, _, rfl, _, _, rfl, rfl, ?_⟩
            refine ⟨_, rfl, _, rfl, iteC (fun hb => ?_) (fun hb => ?_)⟩
            · refine ⟨_, rfl, _, rfl, a, D, dd, _, p, rfl, e5 _ _ ha, e5 _ _ hd3, xf, np, rfl, sz2, fun t nt => fin _ H5 e5 ?_ t nt⟩
              rcases ew with ⟨_, e⟩ | ⟨e, _⟩
              · rw [hB (Nat.le_refl 1)] at e
                cases e
              · rw [if_neg e]
            · exact ⟨_, _, rfl, e5, fun _ => hB (Nat.le_refl 1), fun _ => hb⟩
        · obtain ⟨o4, o5, rfl, e5, hB, hW⟩ := h
          have h1 := hB (show 1 ≤ 2 by decide)
          have h2 := hW (show 2 ≤ 2 by decide)
          rcases kt.one with z | z
          · rw [h1] at z
            cases z
          · rw [h2] at z
            cases z
    · dsimp only
      refine go_seq (go_if (go_b ?_))
      have no : ∀ (kX : Addr), PySem.W.isClsIn X.K kX = true → PySem.W.typeIn X.K (.ref kX) = some (.type "type") → PySem.W.kitOne X.K (.type "NoneType") (.ref kX) = some false := fun kX h1 h2 => kitOne_no h1 h2 sub_non
      have eB : T.e_BadText.C = T.k_BadText := same_ref T.e_BadText.gC T.gk_BadText
      have eW : T.e_BadEdits.C = T.k_BadEdits := same_ref T.e_BadEdits.gC T.gk_BadEdits
      have kB : PySem.W.kitOne X.K (.type "NoneType") (.ref T.e_BadText.C) = some false := by
        rw [eB]
        exact no _ T.kc_BadText T.kt_BadText
      have kW : PySem.W.kitOne X.K (.type "NoneType") (.ref T.e_BadEdits.C) = some false := by
        rw [eW]
        exact no _ T.kc_BadEdits T.kt_BadEdits
      refine ⟨_, rfl, .inl ⟨.non, .ref T.k_TooMany, _, _, false, rfl, .own _, .base .non, no _ T.kc_TooMany T.kt_TooMany, _, rfl, iteF (A := _) ?_⟩⟩
      dsimp only [tNext]
      refine go_seq (go_asg ?_)
      refine ⟨_, rfl, .inl ⟨.non, .ref T.e_BadText.C, _, _, false, rfl, .own _, .base .non, kB, sz2, fun t1 n1 => ?_⟩⟩
      refine ⟨_, rfl, .inl ⟨.non, .ref T.e_BadEdits.C, _, _, false, rfl, .own _, .base .non, kW, sz2, fun t2 n2 => ⟨sz2, fun pl n3 => ?_⟩⟩⟩
      have s1 := same_new (o := HO.tup [.str "text", .bl false]) n1
      have s2 := same_new (o := HO.tup [.str "edits", .bl false]) n2
      have s3 := same_new (o := HO.lst [.ref t1, .ref t2]) n3
      have s23 := s2.trans s3
      have ht1 := s23 _ _ (upd_same (H := H') (a := t1) (o := HO.tup [.str "text", .bl false]))
      have ht2 := s3 _ _ (upd_same (a := t2) (o := HO.tup [.str "edits", .bl false]))
      have hpl := upd_same (H := upd (upd H' t1 (HO.tup [.str "text", .bl false])) t2 (HO.tup [.str "edits", .bl false])) (a := pl) (o := HO.lst [.ref t1, .ref t2])
      have sA := s1.trans s23
      generalize upd (upd (upd H' t1 (HO.tup [.str "text", .bl false])) t2 (HO.tup [.str "edits", .bl false])) pl (HO.lst [.ref t1, .ref t2]) = H4 at ht1 ht2 hpl sA ⊢
      clear s1 s2 s3 s23 n1 n2 n3
      dsimp only [gName]
      refine go_seq ⟨_, rfl, pl, rfl, ⟨_, .inl (.inl hpl)⟩, for_list (xs := [V.ref t1, V.ref t2]) (fun i σ H5 => ∃ o4 o5, σ = [some (.ref f), some .non, none, some (.ref pl), o4, o5] ∧ Same H4 H5)
        ⟨none, none, rfl, Same.refl _⟩ (fun i σ2 H5 _ h => ?_) (fun i v σ2 H5 hv h => ?_) (fun σ2 H5 h => ?_)⟩
      · obtain ⟨_, _, _, e⟩ := h
        exact .inl (.inl (e _ _ hpl))
      · obtain ⟨o4, o5, rfl, e5⟩ := h
        have hi : i = 0 ∨ i = 1 := by
          have := (List.getElem?_eq_some_iff.mp hv).1
          simp at this
          omega
        rcases hi with rfl | rfl
        · cases hv
          exact ⟨t1, _, rfl, .inl (.inl (e5 _ _ ht1)), rfl, _, _, rfl, _, _, rfl, rfl, _, rfl, _, rfl, iteF (A := _) ⟨_, _, rfl, e5⟩⟩
        · cases hv
          exact ⟨t2, _, rfl, .inl (.inl (e5 _ _ ht2)), rfl, _, _, rfl, _, _, rfl, rfl, _, rfl, _, rfl, iteF (A := _) ⟨_, _, rfl, e5⟩⟩
      · obtain ⟨o4, o5, rfl, e5⟩ := h
        exact ⟨_, rfl, rfl, _, rfl, iteT (B := _) (hq _ (sA.trans e5))⟩
end K55
namespace K55
open PySem PySem.Spec PyProof.Rows L2 Kx SX LamX
/-! ### lists of things, each of them good -/
section
variable {Gd : Hp → V → Prop}
def OneG (Gd : Hp → V → Prop) (te : TE) (σ : L2.St) (H0 : Hp) : Prop := ∀ H, Same H0 H → ∀ Q : VK, (∀ v H', Same H H' → Gd H' v → Q v H') → te σ H Q
def AllG (Gd : Hp → V → Prop) (n : Nat) (ta : TA) (σ : L2.St) (H0 : Hp) : Prop := ∀ H, Same H0 H → ∀ Q : List V → Hp → Prop, (∀ vs H', Same H H' → vs.length = n → (∀ v ∈ vs, Gd H' v) → Q vs H') → ta σ H Q
theorem AllG.nil {σ : L2.St} {H0 : Hp} : AllG Gd 0 tNil σ H0 := fun H e Q q => go_nil (q [] H (Same.refl _) rfl fun v m => by cases m)
theorem AllG.cons {n : Nat} {te : TE} {ta : TA} {σ : L2.St} {H0 : Hp} (st : ∀ {H H' v}, Same H H' → Gd H v → Gd H' v) (h1 : OneG Gd te σ H0) (h2 : AllG Gd n ta σ H0) : AllG Gd (n + 1) (tCons te ta) σ H0 := fun H e Q q =>
  go_cons (h1 H e _ fun v H1 e1 hv => h2 H1 (e.trans e1) _ fun vs H2 e2 l hvs => q (v :: vs) H2 (e1.trans e2) (by rw [List.length_cons, l]) fun x m => by
    rcases List.mem_cons.mp m with rfl | m
    · exact st e2 hv
    · exact hvs x m)
end
theorem core_same2 {a : Addr} {H H' : Hp} (m : Mv a H H') : Same (core a H) (core a H') := fun b o h => by
  obtain ⟨h1, h2, h3⟩ := of_core h
  exact core_at (m b o h1 h2) h1 h3
/-- the edits at D, whatever is drawn -/
def EdP (a : Addr) (ps : List Addr) (es : List Ed) (D : Addr) (H : Hp) : Prop := core a H D = some (.lst (ps.map V.ref)) ∧ ∀ (i : Nat) (q : Addr) (e : Ed), ps[i]? = some q → es[i]? = some e → core a H q = some (.tup e.vs)
theorem EdP.mv {a D : Addr} {ps : List Addr} {es : List Ed} {H H' : Hp} (m : Mv a H H') (h : EdP a ps es D H) : EdP a ps es D H' := ⟨core_same2 m _ _ h.1, fun i q e x y => core_same2 m _ _ (h.2 i q e x y)⟩
/-! ### rows as data -/
def rowsD (xs : List (List Nat)) : PyData := .tuple (xs.map fun x => .str (S x))
theorem reachA_le : ∀ (xs : List (List Nat)) (k : Nat), (∀ x ∈ xs, x.length ≤ k) → reachA 0 xs ≤ xs.length * (k + 1)
  | [], k, _ => Nat.zero_le _
  | x :: r, k, h => by
    have ih := reachA_le r k fun y m => h y (List.mem_cons_of_mem _ m)
    have h1 := h x List.mem_cons_self
    show reachA (0 + x.length + 1) r ≤ _
    rw [reachA_add, List.length_cons, Nat.succ_mul]
    omega
theorem rows_dp {K : PySem.W.Frag} {H : Hp} {D : Addr} {xs : List (List Nat)} (h : H D = some (.tup (xs.map tx))) : Dp K H (.ref D) (rowsD xs) := by
  refine .tup (.inl (.inl h)) ?_
  clear h
  induction xs with
  | nil => exact .nil
  | cons x r ih => exact .cons (.str _) ih
theorem rows_eqv (xs : List (List Nat)) : PyData.eqv (rowsD xs) (rowsD xs) = true := by
  refine eqvAll_same _ fun d m => ?_
  obtain ⟨x, _, rfl⟩ := List.mem_map.mp m
  simp [PyData.eqv]
theorem rows_pl {xs : List (List Nat)} (h : ∀ x ∈ xs, cdC x) : Pl 1 (rowsD xs) := Pl.tup fun d m => by
  obtain ⟨x, hx, rfl⟩ := List.mem_map.mp m
  exact pl_text (h x hx)
theorem rows_sh {xs : List (List Nat)} (h : ∀ x ∈ xs, cdC x) (h2 : ∀ x ∈ xs, x.length ≤ 61) (h3 : xs.length ≤ 200) : Sh 1 20000 (rowsD xs) := by
  have h4 := reachA_le xs 61 h2
  exact (shA_texts (k := 0) xs h).tup.up (Nat.le_refl _) (by omega)
theorem cdC_of {l : List Nat} (h : ∀ c ∈ l, c < 1114112) : cdC l := by
  unfold cdC
  rw [List.all_eq_true]
  intro c hc
  exact decide_eq_true (h c hc)
theorem sg_lt {c : Nat} (h : sg c = true) : c < 1114112 := by
  unfold sg low at h
  simp only [Bool.or_eq_true, Bool.and_eq_true, decide_eq_true_eq] at h
  omega
theorem zipM_lt {ns gs : List Bool} {c : Nat} (h : c ∈ zipM ns gs) : c < 1114112 := by
  unfold zipM at h
  obtain ⟨i, hi, rfl⟩ := List.mem_iff_getElem.mp h
  rw [List.getElem_zipWith]
  unfold markC
  split <;> split <;> decide
theorem linesL_mem {l m : List Nat} : ∀ {k : Nat} {x : List Nat}, x ∈ linesL l m k → x.length ≤ 60 ∧ ∀ c ∈ x, c ∈ l ∨ c ∈ m
  | 0, x, h => by cases h
  | k + 1, x, h => by
    have h : x ∈ linesL l m k ++ [(l.drop (60 * k)).take 60, (m.drop (60 * k)).take 60] := h
    rcases List.mem_append.mp h with h | h
    · exact linesL_mem h
    · simp only [List.mem_cons, List.not_mem_nil, or_false] at h
      rcases h with rfl | rfl
      · exact ⟨by rw [List.length_take]; exact Nat.min_le_left _ _, fun c hc => .inl (List.mem_of_mem_drop (List.mem_of_mem_take hc))⟩
      · exact ⟨by rw [List.length_take]; exact Nat.min_le_left _ _, fun c hc => .inr (List.mem_of_mem_drop (List.mem_of_mem_take hc))⟩
theorem finL_mem {l m : List Nat} {j : Nat} {g : Bool} {x : List Nat} (h : x ∈ finL l m j g) : x.length ≤ 61 ∧ ∀ c ∈ x, c ∈ l ∨ c ∈ m ∨ c = 95 := by
  rcases List.mem_append.mp h with h | h
  · obtain ⟨h1, h2⟩ := linesL_mem h
    exact ⟨by omega, fun c hc => (h2 c hc).imp id .inl⟩
  · simp only [List.mem_cons, List.not_mem_nil, or_false] at h
    rcases h with rfl | rfl
    · exact ⟨by rw [List.length_take]; omega, fun c hc => .inl (List.mem_of_mem_drop (List.mem_of_mem_take hc))⟩
    · refine ⟨?_, fun c hc => ?_⟩
      · rw [List.length_append, List.length_take]
        cases g
        · show _ + 0 ≤ 61
          omega
        · show _ + 1 ≤ 61
          omega
      · rcases List.mem_append.mp hc with hc | hc
        · exact .inr (.inl (List.mem_of_mem_drop (List.mem_of_mem_take hc)))
        · cases g
          · cases hc
          · exact .inr (.inr (List.mem_singleton.mp hc))
theorem finL_len (l m : List Nat) (j : Nat) (g : Bool) : (finL l m j g).length = 2 * j + 2 := by
  unfold finL
  rw [List.length_append, linesL_len]
  rfl
/-! ### the text again -/
theorem evens_app {α : Type} : ∀ (xs ys : List α) (j : Nat), xs.length = 2 * j → evens (xs ++ ys) = evens xs ++ evens ys
  | [], ys, _, _ => rfl
  | [a], ys, j, h => by
    have h : 1 = 2 * j := h
    omega
  | a :: b :: r, ys, j, h => by
    have h : r.length + 1 + 1 = 2 * j := h
    show a :: evens (r ++ ys) = a :: (evens r ++ evens ys)
    rw [evens_app r ys (j - 1) (by omega)]
theorem evens_map {α β : Type} (f : α → β) : ∀ xs : List α, evens (xs.map f) = (evens xs).map f
  | [] => rfl
  | [a] => rfl
  | a :: b :: r => by
    show f a :: evens (r.map f) = f a :: (evens r).map f
    rw [evens_map f r]
theorem evens_lines (l m : List Nat) : ∀ k, (evens (linesL l m k)).flatten = l.take (60 * k)
  | 0 => rfl
  | k + 1 => by
    show (evens (linesL l m k ++ [_, _])).flatten = _
    rw [evens_app _ _ k (linesL_len l m k), List.flatten_append, evens_lines l m k]
    have e : 60 * (k + 1) = 60 * k + 60 := by omega
    rw [e, List.take_add]
    show _ ++ ((l.drop (60 * k)).take 60 ++ []) = _
    rw [List.append_nil]
theorem evens_fin (l m : List Nat) (g : Bool) : (evens (finL l m (rows l.length - 1) g)).flatten = l := by
  unfold finL
  rw [evens_app _ _ _ (linesL_len l m _), List.flatten_append, evens_lines]
  have e : 60 * (rows l.length - 1) + 60 = 60 * rows l.length := by
    have := rows_pos l.length
    omega
  have h := List.take_add (l := l) (i := 60 * (rows l.length - 1)) (j := 60)
  show _ ++ ((l.drop (60 * (rows l.length - 1))).take 60 ++ []) = _
  rw [List.append_nil, ← h, e, List.take_of_length_le]
  unfold rows
  omega
theorem joinL_flat : ∀ xs : List (List Nat), TL.joinL [] xs = xs.flatten
  | [] => rfl
  | [x] => by simp [TL.joinL]
  | x :: y :: r => by
    have ih := joinL_flat (y :: r)
    show x ++ ([] ++ TL.joinL [] (y :: r)) = _
    rw [ih]
    rfl
theorem join_texts (xs : List (List Nat)) : Txt.join "" (xs.map S) = S xs.flatten := by
  have h := SX.join_S [] xs
  rw [joinL_flat] at h
  exact h
theorem sum_flat : ∀ xs : List (List Nat), ((xs.map S).map (·.length)).sum = xs.flatten.length
  | [] => rfl
  | x :: r => by
    show (S x).length + ((r.map S).map (·.length)).sum = _
    rw [sum_flat r, S_len, List.flatten_cons, List.length_append]
end K55
namespace K55
open PySem PySem.Spec PyProof.Rows L2 Kx SX LamX
/-! ### the law's menus of odd values -/
section
variable {P : Program} {w : World} {K : PySem.W.Frag} {mg : Str → Option Value} {base : Heap} (T : Tx K mg)
theorem tup_core {a c p : Addr} {n : Nat} {H : Hp} {xs : List V} (w : Wh H a c n) (np : H p = none) : SqQ K (core a (upd H p (.tup xs))) p xs := .inr (.inl (.inl (core_at upd_same (w.ne np) (fun _ z => by cases z))))
/-- a list of one thing that cannot be done -/
theorem one_bad {a c L : Addr} {n : Nat} {H : Hp} {t : List Nat} {v : V} (w : Wh H a c n) (nL : H L = none) (hO : OddAt K (core a H) t v) : NoEds K (core a (upd H L (.lst [v]))) t (.ref L) :=
  .inr ⟨L, [v], rfl, .inl (.inl (.inl (core_at upd_same (w.ne nL) (fun _ z => by cases z)))), (show 1 ≤ 1000 by decide), .inr ⟨[], [], t, v, [], rfl, (fun i q e h => by cases h), (fun e m => by cases m), .nil t, rfl, hO.same (core_same2 (Mv.of (same_new nL)))⟩⟩
def NotText (K : PySem.W.Frag) (a : Addr) (H : Hp) (v : V) : Prop := ∃ o, StrIs K (core a H) v o ∧ o.elim false textB = false
theorem NotText.same {a : Addr} {H H' : Hp} {v : V} (e : Same H H') (h : NotText K a H v) : NotText K a H' v := by
  obtain ⟨o, h1, h2⟩ := h
  exact ⟨o, h1.same (core_same2 (Mv.of e)), h2⟩
theorem odd6 {a c : Addr} {n : Nat} {H0 : Hp} (w0 : Wh H0 a c n) (σ : L2.St) : AllG (NotText K a) 6 (tCons (tC .non) (tCons (tC (.int 5)) (tCons (tC (.str "A")) (tCons (tC (.str "a-b")) (tCons (tLst (tCons (tC (.str "a")) tNil)) (tCons (tOp rRepS (tC (.str "a")) (tC (.int 200001))) tNil)))))) σ H0 := by
  refine .cons .same (fun H e Q q => go_c (q _ _ (Same.refl _) ⟨none, ⟨_, .base .non, by decide +kernel⟩, rfl⟩)) ?_
  refine .cons .same (fun H e Q q => go_c (q _ _ (Same.refl _) ⟨none, ⟨_, .base (.int 5), kit_int_str⟩, rfl⟩)) ?_
  refine .cons .same (fun H e Q q => go_c (q _ _ (Same.refl _) ⟨some [65], ⟨rfl, by decide⟩, by decide⟩)) ?_
  refine .cons .same (fun H e Q q => go_c (q _ _ (Same.refl _) ⟨some [97, 45, 98], ⟨rfl, by decide⟩, by decide⟩)) ?_
  refine .cons .same (fun H e Q q => go_lst (go_cons (go_c (go_nil ⟨sz1, fun r nr => q _ _ (same_new nr) ⟨none, ⟨"list", tyL (.inl (.inl (core_at upd_same ((w0.same e).ne nr) (fun _ z => by cases z)))), by decide +kernel⟩, rfl⟩⟩)))) ?_
  refine .cons .same ?_ .nil
  obtain ⟨k, hk⟩ : ∃ k : Nat, k = 200001 := ⟨_, rfl⟩
  have hv : V.int 200001 = V.int (k : Nat) := by rw [hk]; rfl
  rw [hv]
  clear hv
  intro H e Q q
  refine go_op (go_c (go_c ⟨[97], k, rfl, rfl, by decide, by omega, ?_⟩))
  have lr : ((List.replicate k [97]).flatten).length = k := by
    rw [rep_len]
    show k * 1 = k
    omega
  generalize (List.replicate k [97]).flatten = rs at lr ⊢
  refine q _ _ (Same.refl _) ⟨some rs, ⟨rfl, by omega⟩, ?_⟩
  show (decide (rs.length ≤ 200000) && rs.all sg) = false
  rw [decide_eq_false (by omega)]
  rfl
theorem NoEds.up {a : Addr} {H H' : Hp} {t : List Nat} {v : V} (e : Same H H') (h : NoEds K (core a H) t v) : NoEds K (core a H') t v := h.same (core_same2 (Mv.of e))
abbrev OneB (K : PySem.W.Frag) (a : Addr) (t : List Nat) (te : TE) (σ : L2.St) (H0 : Hp) : Prop := OneG (fun H v => NoEds K (core a H) t v) te σ H0
theorem stuck {a c : Addr} {n : Nat} {H : Hp} {t : List Nat} {p : Addr} (w : Wh H a c n) (e : Ed) (np : H p = none) (ho : e.ok = true) (hd : doE t e = none) : OddAt K (core a (upd H p (.tup e.vs))) t (.ref p) := .inr ⟨_, e, rfl, tup_core w np, ho, hd⟩
section
variable {a c : Addr} {n : Nat} {H0 : Hp} {t : List Nat} (w0 : Wh H0 a c n) (σ : L2.St)
include w0
theorem b1 : OneB K a t (tC .non) σ H0 := fun H e Q q => go_c (q _ _ (Same.refl _) (.inl ⟨_, .base .non, no_list (by decide +kernel) (by decide +kernel)⟩))
theorem b2 : OneB K a t (tC (.int 5)) σ H0 := fun H e Q q => go_c (q _ _ (Same.refl _) (.inl ⟨_, .base (.int 5), no_list (by decide +kernel) (by decide +kernel)⟩))
theorem b3 (h14 : σ[14]? = some (some (.int (t.length : Nat)))) : OneB K a t (tLst (tCons (tTup (tCons (tC (.str "lost")) (tCons (tVar 14) tNil))) tNil)) σ H0 := fun H e Q q => by
  refine go_lst (go_cons (go_tup (go_cons (go_c (go_cons (go_var h14 (go_nil ⟨sz2, fun r nr => go_nil ⟨sz1, fun L nL => ?_⟩⟩)))))))
  exact q _ _ ((same_new nr).trans (same_new nL)) (one_bad ((w0.same e).new nr) nL (stuck (w0.same e) (.lost t.length) nr rfl (if_neg (by omega))))
theorem b4 (h14 : σ[14]? = some (some (.int (t.length : Nat)))) : OneB K a t (tLst (tCons (tTup (tCons (tC (.str "put")) (tCons (tOp (rI0 fun i j => .int (i + j)) (tVar 14) (tC (.int 1))) (tCons (tC (.str "a")) tNil)))) tNil)) σ H0 := fun H e Q q => by
  refine go_lst (go_cons (go_tup (go_cons (go_c (go_cons (go_op (go_var h14 (go_c ⟨_, _, rfl, rfl, go_cons (go_c (go_nil ⟨sz3, fun r nr => go_nil ⟨sz1, fun L nL => ?_⟩⟩))⟩))))))))
  exact q _ _ ((same_new nr).trans (same_new nL)) (one_bad ((w0.same e).new nr) nL (stuck (w0.same e) (.put (t.length + 1) 97) nr (show sg 97 = true by decide) (if_neg (by omega))))
theorem b5 : OneB K a t (tOp rRep (tLst (tCons (tTup (tCons (tC (.str "put")) (tCons (tC (.int 0)) (tCons (tC (.str "a")) tNil)))) tNil)) (tC (.int 13))) σ H0 := fun H e Q q => by
  refine go_op (go_lst (go_cons (go_tup (go_cons (go_c (go_cons (go_c (go_cons (go_c (go_nil ⟨sz3, fun r nr => go_nil ⟨sz1, fun L nL => go_c ⟨L, 13, _, rfl, rfl, upd_same, by decide, by decide, (show 1 * 13 ≤ sizeLine by decide), fun M nM => ?_⟩⟩⟩))))))))))
  have x1 := same_new (o := HO.tup [V.str "put", V.int 0, V.str "a"]) nr
  have x2 := same_new (o := HO.lst [V.ref r]) nL
  exact q _ _ ((x1.trans x2).trans (same_new nM)) (.inr ⟨M, _, rfl, .inl (.inl (.inl (core_at upd_same ((w0.same ((e.trans x1).trans x2)).ne nM) (fun _ z => by cases z)))), (show 13 ≤ 1000 by decide), .inl (show 12 < 13 by decide)⟩)
theorem b6 : OneB K a t (tLst (tCons (tTup (tCons (tC (.str "put")) (tCons (tC (.int 0)) (tCons (tC (.str "A")) tNil)))) tNil)) σ H0 := fun H e Q q => by
  refine go_lst (go_cons (go_tup (go_cons (go_c (go_cons (go_c (go_cons (go_c (go_nil ⟨sz3, fun r nr => go_nil ⟨sz1, fun L nL => ?_⟩⟩)))))))))
  exact q _ _ ((same_new nr).trans (same_new nL)) (one_bad ((w0.same e).new nr) nL (.inl (.sign (a := 0) (o := some [65]) (tup_core (w0.same e) nr) (.inl rfl) ⟨rfl, by decide⟩ (by decide))))
theorem b7 : OneB K a t (tLst (tCons (tC (.str "lost")) tNil)) σ H0 := fun H e Q q =>
  go_lst (go_cons (go_c (go_nil ⟨sz1, fun L nL => q _ _ (same_new nL) (one_bad (w0.same e) nL (.inl (.kind (.base (.str _)) (no_list (by decide +kernel) (by decide +kernel)))))⟩)))
theorem b8 (h14 : σ[14]? = some (some (.int (t.length : Nat)))) : OneB K a t (tLst (tCons (tTup (tCons (tC (.str "changed")) (tCons (tVar 14) (tCons (tC (.str "a")) tNil)))) tNil)) σ H0 := fun H e Q q => by
  refine go_lst (go_cons (go_tup (go_cons (go_c (go_cons (go_var h14 (go_cons (go_c (go_nil ⟨sz3, fun r nr => go_nil ⟨sz1, fun L nL => ?_⟩⟩)))))))))
  exact q _ _ ((same_new nr).trans (same_new nL)) (one_bad ((w0.same e).new nr) nL (stuck (w0.same e) (.chg t.length 97) nr (show sg 97 = true by decide) (if_neg fun h => absurd h.1 (by omega))))
theorem b9 : OneB K a t tDNewK σ H0 := fun H e Q q => by
  intro p np
  exact q _ _ (same_new np) (.inl ⟨"dict", .base (.dK (core_at upd_same ((w0.same e).ne np) (fun _ z => by cases z))), no_list (by decide +kernel) (by decide +kernel)⟩)
theorem b10 : OneB K a t (tLst (tCons (tTup (tCons (tC (.str "lost")) (tCons (tUn (rU fun i => .int (-i)) (tC (.int 1))) tNil))) tNil)) σ H0 := fun H e Q q => by
  refine go_lst (go_cons (go_tup (go_cons (go_c (go_cons (go_c ⟨_, rfl, go_nil ⟨sz2, fun r nr => go_nil ⟨sz1, fun L nL => ?_⟩⟩⟩))))))
  exact q _ _ ((same_new nr).trans (same_new nL)) (one_bad ((w0.same e).new nr) nL (.inl (.place (tup_core (w0.same e) nr) (show 0 ≤ 1 by decide) (hasInt_int (-1)) (by decide))))
theorem b11 : OneB K a t (tLst (tCons (tTup (tCons (tC (.str "put")) (tCons (tC (.int 0)) tNil))) tNil)) σ H0 := fun H e Q q => by
  refine go_lst (go_cons (go_tup (go_cons (go_c (go_cons (go_c (go_nil ⟨sz2, fun r nr => go_nil ⟨sz1, fun L nL => ?_⟩⟩)))))))
  exact q _ _ ((same_new nr).trans (same_new nL)) (one_bad ((w0.same e).new nr) nL (.inl (.two (a := 0) (tup_core (w0.same e) nr) (.inl rfl))))
/-- what is no damage -/
theorem bad7 (h14 : σ[14]? = some (some (.int (t.length : Nat)))) : AllG (fun H v => NoEds K (core a H) t v) 7 (tCons (tC .non) (tCons (tC (.int 5)) (tCons (tLst (tCons (tTup (tCons (tC (.str "lost")) (tCons (tVar 14) tNil))) tNil))
    (tCons (tLst (tCons (tTup (tCons (tC (.str "put")) (tCons (tOp (rI0 fun i j => .int (i + j)) (tVar 14) (tC (.int 1))) (tCons (tC (.str "a")) tNil)))) tNil))
    (tCons (tOp rRep (tLst (tCons (tTup (tCons (tC (.str "put")) (tCons (tC (.int 0)) (tCons (tC (.str "a")) tNil)))) tNil)) (tC (.int 13)))
    (tCons (tLst (tCons (tTup (tCons (tC (.str "put")) (tCons (tC (.int 0)) (tCons (tC (.str "A")) tNil)))) tNil)) (tCons (tLst (tCons (tC (.str "lost")) tNil)) tNil))))))) σ H0 :=
  .cons .up (b1 w0 σ) (.cons .up (b2 w0 σ) (.cons .up (b3 w0 σ h14) (.cons .up (b4 w0 σ h14) (.cons .up (b5 w0 σ) (.cons .up (b6 w0 σ) (.cons .up (b7 w0 σ) .nil))))))
theorem bad4 (h14 : σ[14]? = some (some (.int (t.length : Nat)))) : AllG (fun H v => NoEds K (core a H) t v) 4 (tCons (tLst (tCons (tTup (tCons (tC (.str "changed")) (tCons (tVar 14) (tCons (tC (.str "a")) tNil)))) tNil)) (tCons tDNewK
    (tCons (tLst (tCons (tTup (tCons (tC (.str "lost")) (tCons (tUn (rU fun i => .int (-i)) (tC (.int 1))) tNil))) tNil)) (tCons (tLst (tCons (tTup (tCons (tC (.str "put")) (tCons (tC (.int 0)) tNil))) tNil)) tNil)))) σ H0 :=
  .cons .up (b8 w0 σ h14) (.cons .up (b9 w0 σ) (.cons .up (b10 w0 σ) (.cons .up (b11 w0 σ) .nil)))
end
end
end K55
namespace K55
open PySem PySem.Spec PyProof.Rows L2 Kx SX LamX
section
variable {P : Program} {w : World} {K : PySem.W.Frag} {mg : Str → Option Value} {base : Heap} (T : Tx K mg)
theorem TokR.but {H H' : Hp} {W : Addr} {xs : List V} {vs : List V} {ts : List Tkn} (hW : H W = some (.lst xs)) (m : Mv W H H') (h : TokR H vs ts) : TokR H' vs ts := by
  induction h with
  | nil => exact .nil
  | gap _ ih => exact .gap ih
  | sgn a _ ih => exact .sgn ⟨m _ _ (fun z => by rw [z, hW] at a; cases a.1) a.1, a.2⟩ ih
theorem mid {te : TE} {σ : L2.St} {H : Hp} {Q : VK} (Pz : V → Hp → Prop) (h1 : ∀ Q1 : VK, (∀ v H4, Pz v H4 → Q1 v H4) → te σ H Q1) (h2 : ∀ v H4, Pz v H4 → Q v H4) : te σ H Q := h1 Q h2
theorem kb_marks_of_0_edits_text : KBinds K T.fd_marks_of ["text", "edits"] ["edits", "text"] swapG swapG := kb_swap T.F_marks_of fun _ _ _ _ _ _ _ _ => rfl
def lamTab (Pt : Addr) : List (Addr × Str) := [(Pt, "law.<locals>.<lambda>")]
def sp_law (K : PySem.W.Frag) (Pt : Addr) : Sp := fun vs H Q _ => ∃ (a : Addr) (ns : List Int), vs = [.ref a] ∧ SqL K H a (ns.map V.int) ∧ H Pt = some (.tbl #[]) ∧ ∀ H', Q (.bl true) H'
theorem ok_law {c Pt : Addr} (FC : FunC K "law" "law" s_law T.f_law T.fd_law c) (TB : TabB base mg c Pt) : FnG P w K mg base CX0 20 T.f_law T.fd_law ["script"] (sp_law K Pt) := by
  obtain ⟨oc, od, kV, doc, pm, an, cdv, ct, osl, efd, lk, hcd⟩ := T.F_law_heard.ex
  rw [efd] at lk
  have hbd : Binds K _ ["ask"] [] := efd ▸ T.b_law_heard
  refine okC FC sc_law (fun vs H Q E h => ?_) (fun A outer s H vs Q E hg hr h => ?_)
  · obtain ⟨a, ns, rfl, _⟩ := h
    rfl
  · obtain ⟨s0, ns, rfl, hs, hP, q⟩ := h
    refine ⟨_, (pss_cons (ps_set (i := 1) sc_law.nd rfl (.inr rfl) (pe_call (ok_law_pen T) (hr.mono (by decide)) (by rfl) T.g_law_pen T.F_law_pen.kp T.b_law_pen .nil pass0 (pa_cons (pv 0) pa_nil)))
    (pss_cons (ps_for PassesOwn.never rfl (pi_range1 (by rfl) T.m_range (pa_cons (pe_ifExp (pt_cmpR (op_eqD hr.units) (pv 0) (pe_lst pa_nil) (nomark _)) pe_int pe_int) pa_nil)) (pg_name (i := 2) sc_law.nd rfl (.inl rfl))
      (pss_cons (ps_set (i := 3) sc_law.nd rfl (.inl rfl) (pe_call (ok_law_one_of T) (hr.mono (by decide)) (by rfl) T.g_law_one_of T.F_law_one_of.kp T.b_law_one_of .nil pass0 (pa_cons (pv 1) (pa_cons (pe_lst (pa_cons pe_int (pa_cons pe_int (pa_cons pe_int (pa_cons pe_int (pa_cons pe_int (pa_cons pe_int (pa_cons pe_int (pa_cons (pe_call (ok_law_stroke T) (hr.mono (by decide)) (by rfl) T.g_law_stroke T.F_law_stroke.kp T.b_law_stroke .nil pass0 (pa_cons (pv 1) (pa_cons pe_int pa_nil))) pa_nil))))))))) pa_nil))))
      (pss_cons (ps_set (i := 5) sc_law.nd rfl (.inr rfl) (pe_op op_add_str (pe_join pe_str (pe_lc (own := [("place", 4)]) rfl sc_law.nd (pi_range1 (by rfl) T.m_range (pa_cons (pe_callB (call_min2 rfl) (by rfl) T.m_min (by decide +kernel) (pa_cons (pv 3) (pa_cons pe_int pa_nil))) pa_nil)) (blkOk_by (own := [("place", 4)]) (N := ["script", "pen", "turn", "long", "place", "text", "edits", "hurt", "sign", "tokens", "edit", "due", "told", "none", "far", "some", "bad"]) (sc := defScope s_law) (by decide +kernel)) (fun _ _ _ _ _ => (pg_name (i := 4) sc_law.nd rfl (.inl rfl))) (fun _ _ _ _ _ => pts_nil) (fun _ _ _ _ _ => (pe_call (ok_law_one_of T) (hr.mono (by decide)) (by rfl) T.g_law_one_of T.F_law_one_of.kp T.b_law_one_of .nil pass0 (pa_cons (pv 1) (pa_cons (pe_lst (pa_cons pe_str (pa_cons pe_str (pa_cons pe_str (pa_cons pe_str pa_nil))))) pa_nil)))))) (pe_op op_repS pe_str pe_int)))
      (pss_cons (ps_set (i := 5) sc_law.nd rfl (.inr rfl) (pe_slice C8.sl_txt (pv 5) po_none (po_some (pv 3))))
      (pss_cons (ps_asg (pe_call (ok_law_edits T) (hr.mono (by decide)) (by rfl) T.g_law_edits T.F_law_edits.kp T.b_law_edits .nil pass0 (pa_cons (pv 1) (pa_cons (pv 5) pa_nil))) (pg_tup rfl (pgs_cons (pg_name (i := 6) sc_law.nd rfl (.inl rfl)) (pgs_cons (pg_name (i := 7) sc_law.nd rfl (.inl rfl)) pgs_nil))))
      (pss_cons (ps_setLc (i := 9) (own := [("sign", 8)]) rfl sc_law.nd rfl rfl (sw_true rfl rfl rfl (by decide +kernel)) (pi_str (pv 5)) (blkOk_by (own := [("sign", 8)]) (N := ["script", "pen", "turn", "long", "place", "text", "edits", "hurt", "sign", "tokens", "edit", "due", "told", "none", "far", "some", "bad"]) (sc := defScope s_law) (by decide +kernel)) (fun _ _ _ _ _ => (pg_name (i := 8) sc_law.nd rfl (.inl rfl))) (fun _ _ _ _ _ => pts_nil) (fun _ _ _ _ _ => (pe_tup (pa_cons (pv 8) (pa_cons pe_bl pa_nil)))))
      (pss_cons (ps_for PassesOwn.never rfl (pi_list (pv 6)) (pg_name (i := 10) sc_law.nd rfl (.inl rfl))
        (pss_one (ps_set (i := 9) sc_law.nd rfl (.inl rfl) (pe_call (ok_law_edited T) (hr.mono (by decide)) (by rfl) T.g_law_edited T.F_law_edited.kp T.b_law_edited .nil pass0 (pa_cons (pv 9) (pa_cons (pv 10) pa_nil))))))
      (pss_cons (ps_par (i := 11) (j := 12) rfl sc_law.nd rfl rfl (by decide) rfl rfl (pa_cons (pe_call (ok_law_lines T) (hr.mono (by decide)) (by rfl) T.g_law_lines T.F_law_lines.kp T.b_law_lines .nil pass0 (pa_cons (pv 9) pa_nil)) (pa_cons (pe_call (ok_marks_of T) (hr.mono (by decide)) (by rfl) T.g_marks_of T.F_marks_of.kp T.b_marks_of .nil passF (pa_cons (pv 5) (pa_cons (pe_lc (own := [("edit", 10)]) rfl sc_law.nd (pi_list (pv 6)) (blkOk_by (own := [("edit", 10)]) (N := ["script", "pen", "turn", "long", "place", "text", "edits", "hurt", "sign", "tokens", "edit", "due", "told", "none", "far", "some", "bad"]) (sc := defScope s_law) (by decide +kernel)) (fun _ _ _ _ _ => (pg_name (i := 10) sc_law.nd rfl (.inl rfl))) (fun _ _ _ _ _ => pts_nil) (fun _ _ _ _ _ => (pe_callTy (inK_call_list_of (K := K) rfl) (by rfl) T.m_list (by decide +kernel) (pa_cons (pv 10) pa_nil)))) pa_nil))) pa_nil)) (by rfl))
      (pss_cons (ps_if (PW.pt (pw_or (pt_cmpR op_ne (pe_callB (call_reprD hg hr.units) (by rfl) T.m_repr (by decide +kernel) (pa_cons (pv 12) pa_nil)) (pe_callB (call_reprD hg hr.units) (by rfl) T.m_repr (by decide +kernel) (pa_cons (pe_callTy call_tuple_of (by rfl) T.m_tuple (by decide +kernel) (pa_cons (pv 11) pa_nil)) pa_nil)) (nomark _)) (pw_or (pt_cmpR (op_neD hr.units) (pe_callK0 (ok_marks_of T) (hr.mono (by decide)) (by rfl) T.g_marks_of T.F_marks_of.kp (kb_marks_of_0_edits_text T) passF (pk_cons (pe_callTy call_tuple_of (by rfl) T.m_tuple (by decide +kernel) (pa_cons (pv 6) pa_nil)) (pk_cons (pv 5) pk_nil))) (pv 12) (nomark _)) (pw_or1 (pt_cmpR op_ne (pe_join pe_str (pe_two (pv 12))) (pv 7) (nomark _))))))
        (pss_one (ps_ret pe_bl))
        pss_nil)
      (pss_cons (ps_asg (pe_tup (pa_cons (pe_call (ok_law_one_of T) (hr.mono (by decide)) (by rfl) T.g_law_one_of T.F_law_one_of.kp T.b_law_one_of .nil pass0 (pa_cons (pv 1) (pa_cons (pe_lst (pa_cons pe_non (pa_cons pe_int (pa_cons pe_str (pa_cons pe_str (pa_cons (pe_lst (pa_cons pe_str pa_nil)) (pa_cons (pe_op op_repS pe_str pe_int) pa_nil))))))) pa_nil))) (pa_cons (pe_callB call_len_str (by rfl) T.m_len PySem.boot_len (pa_cons (pv 5) pa_nil)) pa_nil))) (pg_tup rfl (pgs_cons (pg_name (i := 13) sc_law.nd rfl (.inr rfl)) (pgs_cons (pg_name (i := 14) sc_law.nd rfl (.inl rfl)) pgs_nil))))
      (pss_cons (ps_set (i := 15) sc_law.nd rfl (.inl rfl) (pe_lst (pa_cons pe_non (pa_cons pe_int (pa_cons (pe_lst (pa_cons (pe_tup (pa_cons pe_str (pa_cons (pv 14) pa_nil))) pa_nil)) (pa_cons (pe_lst (pa_cons (pe_tup (pa_cons pe_str (pa_cons (pe_op op_add (pv 14) pe_int) (pa_cons pe_str pa_nil)))) pa_nil)) (pa_cons (pe_op op_rep (pe_lst (pa_cons (pe_tup (pa_cons pe_str (pa_cons pe_int (pa_cons pe_str pa_nil)))) pa_nil)) pe_int) (pa_cons (pe_lst (pa_cons (pe_tup (pa_cons pe_str (pa_cons pe_int (pa_cons pe_str pa_nil)))) pa_nil)) (pa_cons (pe_lst (pa_cons pe_str pa_nil)) pa_nil)))))))))
      (pss_cons (ps_set (i := 16) sc_law.nd rfl (.inr rfl) (pe_call (ok_law_one_of T) (hr.mono (by decide)) (by rfl) T.g_law_one_of T.F_law_one_of.kp T.b_law_one_of .nil pass0 (pa_cons (pv 1) (pa_cons (pe_op op_cat (pv 15) (pe_lst (pa_cons (pe_lst (pa_cons (pe_tup (pa_cons pe_str (pa_cons (pv 14) (pa_cons pe_str pa_nil)))) pa_nil)) (pa_cons pe_dnewK (pa_cons (pe_lst (pa_cons (pe_tup (pa_cons pe_str (pa_cons (pe_un un_neg pe_int) pa_nil))) pa_nil)) (pa_cons (pe_lst (pa_cons (pe_tup (pa_cons pe_str (pa_cons pe_int pa_nil))) pa_nil)) pa_nil)))))) pa_nil))))
      (pss_one (ps_if (pt_cmpR (op_neD hr.units) (pe_lst (pa_cons (pe_lamcall (T := (lamTab Pt)) (c := c) (P := Pt) (k := 13) (by rfl) T.g_law_heard T.F_law_heard.kp lk hcd hbd sc_law_heard rfl (.inl rfl) (heard_gives T) TB rfl (List.mem_singleton.mpr rfl) (fun p hp _ => by rw [List.mem_singleton.mp hp]; rfl) (hr.mono (by decide)) (lamS_by (sc := defScope s_law) (by decide +kernel)) rfl (fun _ _ _ _ _ => rfl) (fun A outer s H E f c' hr2 => (pe_call (ok_marks_of T) (hr2.mono (by decide)) (by rfl) T.g_marks_of T.F_marks_of.kp T.b_marks_of .nil (passes_call (takes_of rfl rfl rfl rfl) (fun _ _ _ _ h => h)) (pa_cons (pv 13) (pa_cons (pv 16) pa_nil))))) (pa_cons (pe_lamcallD (T := (lamTab Pt)) (z := "a1") (c := c) (P := Pt) (k := 13) (by rfl) T.g_law_heard T.F_law_heard.kp lk hcd hbd sc_law_heard rfl (.inl rfl) (heard_gives T) TB rfl (List.mem_singleton.mpr rfl) (fun p hp _ => by rw [List.mem_singleton.mp hp]; rfl) (hr.mono (by decide)) (lamP_by (sc := defScope s_law) (by decide +kernel)) rfl rfl rfl (fun _ _ _ _ _ _ _ _ => ⟨_, rfl, rfl⟩) (fun A outer s H E f c' hr2 => (pe_call (ok_marks_of T) (hr2.mono (by decide)) (by rfl) T.g_marks_of T.F_marks_of.kp T.b_marks_of .nil (passes_call (takes_of rfl rfl rfl rfl) (fun _ _ _ _ h => h)) (pa_cons (pv 5) (pa_cons (pv 16) pa_nil))))) pa_nil))) (pe_lst (pa_cons (pe_tup (pa_cons pe_str (pa_cons pe_str pa_nil))) (pa_cons (pe_tup (pa_cons pe_str (pa_cons pe_str pa_nil))) pa_nil))) (nomark _))
        (pss_one (ps_ret pe_bl))
        pss_nil))))))))))))))
    (pss_one (ps_ret pe_bl)))), ?_⟩
    refine go_seq (go_asg ⟨_, rfl, s0, ns, rfl, hs, fun a c H1 na e1 w0 => ?_⟩)
    have T1 : Tabs (lamTab Pt) H1 := fun p hp => by
      rw [List.mem_singleton.mp hp]
      exact TabS.nil (e1 _ _ hP)
    have hs1 := e1.seq hs
    dsimp only [gName]
    have laps : ∀ R : It → Hp → Prop, (∀ (k : Nat) (H' : Hp), k ≤ 4 → Same H1 H' → R (Itr 0 k) H') → iRng1 (tCons (tIf (tTest (tOp (rEqD K) (tVar 0) (tLst tNil))) (tC (.int 1)) (tC (.int 4))) tNil) [some (.ref s0), some (.ref a), none, none, none, none, none, none, none, none, none, none, none, none, none, none, none] H1 R := fun R hR => by
      refine ⟨_, rfl, Nat.zero_le _, fun L nL => ?_⟩
      have x1 := same_new (o := HO.lst []) nL
      refine ⟨.list (ns.map PyData.int), .list [], dp_ints (x1.seq hs1), .lst (.inl (.inl upd_same)) .nil, (pl_ints ns).shaped (by decide), by decide +kernel, ?_⟩
      cases ns with
      | nil => exact ⟨_, rfl, iteT (B := _) ⟨1, rfl, by decide, by decide, hR 1 _ (by decide) x1⟩⟩
      | cons i r => exact ⟨_, rfl, iteF (A := _) ⟨4, rfl, by decide, by decide, hR 4 _ (by decide) x1⟩⟩
    refine go_seq (laps _ fun laps H2 hlaps e2 => ?_)
    have w2 := w0.same e2
    have T2 := Tabs.same T1 e2
    clear T1 w0 hs1 e2 hs hP na e1
    refine for_range (lo := 0) (n := laps) (fun i σ H' => ∃ (o2 o3 o4 o5 o6 o7 o8 o9 o10 o11 o12 o13 o14 o15 o16 : Option V), σ = [some (.ref s0), some (.ref a), o2, o3, o4, o5, o6, o7, o8, o9, o10, o11, o12, o13, o14, o15, o16] ∧ Wh H' a c (1000 * i) ∧ Tabs (lamTab Pt) H')
      ⟨none, none, none, none, none, none, none, none, none, none, none, none, none, none, none, rfl, w2, T2⟩ (fun i σ' Hc hi h => ?_) (fun σ' Hc h => ?_)
    · obtain ⟨o2, o3, o4, o5, o6, o7, o8, o9, o10, o11, o12, o13, o14, o15, o16, rfl, wi, Ti⟩ := h
      dsimp only [gName]
      -- how long
      refine go_seq (go_asg (mid (fun v H3 => ∃ long : Nat, v = .int (long : Nat) ∧ long ≤ 200 ∧ Mv a Hc H3 ∧ Wh H3 a c (1000 * i + 2)) (fun Q1 q1 => ?_) (fun v H3 h3 => ?_)))
      · refine ⟨_, rfl, _, rfl, a, c, 200, _, rfl, by decide, by decide, wi, by omega, fun r H3 r0 r1 m3 w3 => ⟨show 8 ≤ sizeLine by decide, fun p1 n1 => ?_⟩⟩
        have hpa := w3.ne n1
        refine ⟨a, p1, c, _, _, rfl, .inl (.inl upd_same), by simp, (show 8 ≤ 1000000 by decide), w3.new n1, by omega, fun H' m => .inl (.inl (m _ _ hpa upd_same)), fun v H4 hv m4 w4 => ?_⟩
        have mA : Mv a Hc H4 := m3.trans ((Mv.of (same_new n1)).trans m4)
        obtain ⟨z, rfl, hz⟩ : ∃ z : Nat, v = .int (z : Nat) ∧ z ≤ 200 := by
          simp only [List.mem_cons, List.not_mem_nil, or_false] at hv
          rcases hv with rfl | rfl | rfl | rfl | rfl | rfl | rfl | rfl
          · exact ⟨5, rfl, by decide⟩
          · exact ⟨0, rfl, by decide⟩
          · exact ⟨1, rfl, by decide⟩
          · exact ⟨59, rfl, by decide⟩
          · exact ⟨60, rfl, by decide⟩
          · exact ⟨61, rfl, by decide⟩
          · exact ⟨120, rfl, by decide⟩
          · exact ⟨r.toNat, by rw [Int.toNat_of_nonneg r0], by omega⟩
        exact q1 _ _ ⟨z, rfl, hz, mA, w4⟩
      obtain ⟨long, rfl, hlong, m3, w3⟩ := h3
      have T3 := Tabs.mv Ti wi m3
      clear m3 wi Ti
      dsimp only [gName]
      -- the text
      refine go_seq (go_asg (mid (fun v H4 => ∃ t : List Nat, v = .str (S t) ∧ t.length ≤ 400 ∧ (∀ x ∈ t, sg x = true) ∧ Mv a H3 H4 ∧ Wh H4 a c (1000 * i + 12)) (fun Q1 q1 => ?_) (fun v H4 h4 => ?_)))
      · have mn : (if (9 : Int) < (long : Int) then (9 : Int) else (long : Int)) = ((min long 9 : Nat) : Int) := by
          split <;> omega
        refine ⟨⟨_, rfl⟩, _, rfl, _, _, rfl, ?_⟩
        rw [mn]
        have h9 : min long 9 ≤ 9 := Nat.min_le_right _ _
        generalize min long 9 = k at h9 ⊢
        refine ⟨(k : Int), rfl, by omega, by omega, fun D nD => lc_range (lo := 0) (n := (k : Int).toNat) (fun j H' => ∃ xs : List Nat, H' D = some (.lst (signsV xs)) ∧ Mv a H3 H' ∧ Wh H' a c (1000 * i + 2 + j) ∧ xs.length = j ∧ ∀ x ∈ xs, sg x = true)
          ⟨[], upd_same, Mv.of (same_new nD), w3.new nD, rfl, fun x h => by cases h⟩ (fun j Hd hj h => ?_) (fun Hd h => ?_)⟩
        · obtain ⟨xs, hD, m4, w4, lx, vx⟩ := h
          rw [Int.toNat_natCast] at hj
          refine ⟨rfl, ?_⟩
          refine iteT (B := True) ?_
          refine ⟨_, rfl, sz4, fun p np => ?_⟩
          have hpa := w4.ne np
          refine ⟨a, p, c, _, _, rfl, .inl (.inl upd_same), by simp, (show 4 ≤ 1000000 by decide), w4.new np, by omega, fun H' m => .inl (.inl (m _ _ hpa upd_same)), fun v H5 hv m5 w5 => ?_⟩
          obtain ⟨g, rfl, hg⟩ : ∃ g : Nat, v = .str (S [g]) ∧ sg g = true := by
            simp only [List.mem_cons, List.not_mem_nil, or_false] at hv
            rcases hv with rfl | rfl | rfl | rfl
            · exact ⟨97, rfl, by decide⟩
            · exact ⟨98, rfl, by decide⟩
            · exact ⟨32, rfl, by decide⟩
            · exact ⟨99, rfl, by decide⟩
          have hDa := w3.ne nD
          have m6 := (Mv.of (same_new np)).trans m5
          refine ⟨_, m6 _ _ hDa hD, ?_, xs ++ [g], ?_, ?_, ?_, ?_, ?_⟩
          · have e : (signsV xs).length = j := (List.length_map ..).trans lx
            rw [e]
            exact Nat.lt_of_lt_of_le (show j < 101 by omega) (by decide)
          · rw [upd_same]
            unfold signsV
            rw [List.map_append]
            rfl
          · intro b o' nb h
            rw [upd_ne (ne_of_none h nD)]
            exact (m4.trans m6) b o' nb h
          · exact (w5.lt (show 1000 * i + 2 + j + 1 ≤ 1000 * i + 2 + (j + 1) by omega)).set hDa (w3.nc nD)
          · rw [List.length_append, lx]
            rfl
          · intro x hx
            rcases List.mem_append.mp hx with hx | hx
            · exact vx x hx
            · rw [List.mem_singleton.mp hx]
              exact hg
        · obtain ⟨xs, hD, m4, w4, lx, vx⟩ := h
          rw [signs_map] at hD
          rw [Int.toNat_natCast] at lx w4
          refine ⟨"", D, xs.map fun c => S [c], rfl, rfl, .inl (.inl (.inl hD)), ?_, ?_⟩
          · rw [sum_signs, List.length_map]
            show xs.length + xs.length * 0 ≤ 16777216
            omega
          rw [join_signs]
          refine ⟨[97, 98, 32, 99], 50, rfl, rfl, by decide, by decide, ?_⟩
          have lr : ((List.replicate 50 [97, 98, 32, 99]).flatten).length = 200 := by rw [rep_len]; rfl
          have sr : ∀ x ∈ (List.replicate 50 [97, 98, 32, 99]).flatten, sg x = true := fun x hx => by
            have h := rep_mem hx
            simp only [List.mem_cons, List.not_mem_nil, or_false] at h
            rcases h with rfl | rfl | rfl | rfl <;> decide
          generalize (List.replicate 50 [97, 98, 32, 99]).flatten = rs at lr sr ⊢
          refine ⟨_, _, rfl, rfl, app_le (by omega), ?_⟩
          rw [S_app]
          refine q1 _ Hd ⟨_, rfl, by rw [List.length_append]; omega, fun x hx => ?_, m4, w4.lt (by omega)⟩
          rcases List.mem_append.mp hx with hx | hx
          · exact vx x hx
          · exact sr x hx
      obtain ⟨t0, rfl, lt0, sg0, m4, w4⟩ := h4
      have T4 := Tabs.mv T3 w3 m4
      clear m4 w3 T3
      dsimp only [gName]
      refine go_seq (go_asg ⟨_, rfl, _, rfl, (long : Int), rfl, S t0, rfl, len_le (by omega), ?_⟩)
      rw [cut_toN]
      have lt : (t0.take long).length ≤ 200 := by rw [List.length_take]; omega
      have sgt : ∀ x ∈ t0.take long, sg x = true := fun x hx => sg0 x (List.mem_of_mem_take hx)
      generalize t0.take long = t at lt sgt ⊢
      clear lt0 sg0
      have hB : textB t = true := by
        unfold textB
        rw [Bool.and_eq_true]
        exact ⟨decide_eq_true (by omega), List.all_eq_true.mpr sgt⟩
      dsimp only [gName]
      -- the edits
      refine go_seq (go_asg ⟨_, rfl, _, rfl, a, c, t, _, rfl, w4, by omega, by omega, fun p D es u H5 le ho hP hE hp nD m5 w5 => ?_⟩)
      have T5 := Tabs.mv T4 w4 m5
      have hDa := w4.ne nD
      refine ⟨p, _, rfl, .inl (.inl hp), rfl, _, _, rfl, _, _, rfl, rfl, ?_⟩
      have hE5 : EdsL (core a H5) D es := hE.core w5 hDa
      have lu := (Path.len hP).1
      clear hp nD m5 w4 T4 hE
      dsimp only [gName]
      -- its parts
      have esz : (S t).cps.size = t.length := by simp [S]
      refine go_seq (go_asg ⟨_, rfl, S t, rfl, fun W nW => lc_it walk_str (fun j H' => ∃ vs : List V, H' W = some (.lst vs) ∧ TokR H' vs ((t.take j).map fun c => some (c, false)) ∧ Same H5 H') ⟨[], upd_same, .nil, same_new nW⟩ (fun _ _ _ _ => trivial) (fun j v Hd Hx hj h y => ?_) (fun Hd h => ?_)⟩)
      · obtain ⟨vs, hW, hR, ed⟩ := h
        obtain ⟨rfl, ch, hc, rfl⟩ := y
        have hc' : t[j]? = some ch := by
          have : (S t).cps[j]? = t[j]? := by simp [S]
          rw [← this]
          exact hc
        refine ⟨rfl, ?_⟩
        refine iteT (B := True) ?_
        refine ⟨_, rfl, sz2, fun r nr => ?_⟩
        have x1 := same_new (o := HO.tup [V.str (S [ch]), V.bl false]) nr
        have hrW : r ≠ W := fun z => by
          rw [z, hW] at nr
          cases nr
        have lv := hR.len
        rw [List.length_map, List.length_take] at lv
        refine ⟨vs, x1 _ _ hW, Nat.lt_of_lt_of_le (show vs.length < 201 by omega) (by decide), vs ++ [V.ref r], upd_same, ?_, same_set (ed.trans x1) nW⟩
        have et : (t.take (j + 1)).map (fun c => (some (c, false) : Tkn)) = (t.take j).map (fun c => (some (c, false) : Tkn)) ++ [some (ch, false)] := by
          rw [List.take_add_one, hc', List.map_append]
          rfl
        rw [et]
        refine TokR.app ((hR.same x1).but (x1 _ _ hW) (Mv.upd _ _ _)) (.sgn ⟨?_, sgt _ (List.mem_of_getElem? hc')⟩ .nil)
        rw [upd_ne hrW]
        exact upd_same
      obtain ⟨vs, hW, hR, ed⟩ := h
      rw [esz, List.take_length] at hR
      have hE6 := hE5.same (core_same2 (Mv.of ed))
      have T6 := Tabs.same T5 ed
      have w6 := w5.same ed
      clear ed esz hE5 T5 w5
      dsimp only [gName]
      -- edit by edit
      obtain ⟨ps, hDc, lps, hpsC⟩ := id hE6
      have hD := (of_core hDc).2.1
      have hps : ∀ (i : Nat) (q : Addr) (e : Ed), ps[i]? = some q → es[i]? = some e → Hd q = some (.tup e.vs) := fun i q e x y => (of_core (hpsC i q e x y)).2.1
      refine go_seq ⟨_, rfl, D, rfl, ⟨_, .inl (.inl hD)⟩, for_list (xs := ps.map V.ref) (fun j σ H' => ∃ (o10 : Option V) (W : Addr) (vs : List V) (ts : List Tkn) (x : List Nat), σ = [some (.ref s0), some (.ref a), some (.int (0 + (i : Int))), some (.int (long : Nat)), o4, some (.str (S t)), some (.ref D), some (.str (S u)), o8, some (.ref W), o10, o11, o12, o13, o14, o15, o16] ∧ H' W = some (.lst vs) ∧ TokR H' vs ts ∧ ts.length ≤ 200 + j ∧ Path t (es.take j) x ∧ Rel x (marksN t (es.take j)) ts ∧ Same Hd H')
        ⟨_, W, vs, _, t, rfl, hW, hR, by rw [List.length_map]; omega, .nil t, rel_init t, Same.refl _⟩ (fun j σ' H' _ h => ?_) (fun j v σ' Hx hv h => ?_) (fun σ' Hx h => ?_)⟩
      · obtain ⟨_, _, _, _, _, _, _, _, _, _, _, e⟩ := h
        exact .inl (.inl (e _ _ hD))
      · obtain ⟨o10, W, vs, ts, x, rfl, hW, hR, lts, hx, hrel, ex⟩ := h
        obtain ⟨y, hy, rfl⟩ := ref_get hv
        obtain ⟨e, he⟩ := ed_of lps hy
        have hj : j < es.length := (List.getElem?_eq_some_iff.mp he).1
        obtain ⟨c2, g1, g2⟩ := hP.split (j + 1)
        have hd : doE x e = some c2 := by
          rw [take_snoc he] at g1
          cases hh : doE x e with
          | none => exact (hP.not ⟨j, e, x, he, hx, hh⟩).elim
          | some z => rw [g1.det (hx.snoc hh)]
        dsimp only [gName]
        refine go_asg ⟨_, rfl, _, rfl, W, y, vs, ts, e, rfl, hW, hR, by omega, .inr (.inl (.inl (ex _ _ (hps j y e hy he)))), ho e (List.mem_of_getElem? he), fun W' vs' H' e' hW' hR' => ?_⟩
        dsimp only [gName]
        have le1 := edT_len ts e
        refine ⟨_, W', vs', edT ts e, c2, rfl, hW', hR', by omega, g1, ?_, ex.trans e'⟩
        rw [take_snoc he, marksN_snoc]
        exact edT_ok hd hrel
      obtain ⟨o10, W, vs, ts, x, rfl, hW, hR, lts, hx, hrel, ex⟩ := h
      rw [List.length_map, lps, List.take_length] at hx hrel
      obtain rfl : u = x := hP.det hx
      rw [List.length_map, lps] at lts
      have hfold := rel_fold hrel
      have hE7 := hE6.same (core_same2 (Mv.of ex))
      have T7 := Tabs.same T6 ex
      have w7 := w6.same ex
      clear hrel hx hE6 T6 w6 hps hpsC hDc hD ex lps
      dsimp only
      -- due, told
      have hE := hE7.same core_sub
      refine go_seq (go_cons ⟨_, rfl, W, vs, ts, u, _, _, rfl, hW, hR, by omega, hfold, fun F H8 e8 nF hF => ?_⟩)
      have hE8 := hE.same e8
      obtain ⟨ps, hD, lps, hps⟩ := id hE8
      refine go_cons ⟨_, rfl, ?_⟩
      refine (lc_lstit (a := D) (xs := ps.map V.ref) (by exact rfl) (.inl (.inl hD)) (fun B i H' => EdsM H' B (es.take i) ∧ Same H8 H')
        (fun B nB => ⟨⟨[], upd_same, rfl, fun i q e a b => by cases a⟩, same_new nB⟩) (fun B i H' h => h.2) (fun B i x Hd nB hx h => ?_) (fun B Hd nB h => ?_))
      · obtain ⟨hM, ed⟩ := h
        obtain ⟨y, hy, rfl⟩ := ref_get hx
        obtain ⟨e, he⟩ := ed_of lps hy
        have hi : i < es.length := (List.getElem?_eq_some_iff.mp he).1
        refine ⟨rfl, ?_⟩
        refine iteT (B := True) ?_
        refine ⟨_, rfl, y, e.vs, rfl, .inr (.inl (.inl (ed _ _ (hps i y e hy he)))), fun l nl => ?_⟩
        have x2 := same_new (o := HO.lst e.vs) nl
        obtain ⟨rs, r1, r2, r3⟩ := hM.same x2
        have hlB : l ≠ B := fun z => by
          obtain ⟨_, r1', _⟩ := hM
          rw [z, r1'] at nl
          cases nl
        refine ⟨_, r1, ?_, ?_, same_set (ed.trans x2) nB⟩
        · rw [List.length_map, r2, List.length_take]
          exact Nat.lt_of_le_of_lt (Nat.min_le_left _ _) (Nat.lt_of_lt_of_le (show i < 13 by omega) (by decide))
        · rw [take_snoc he]
          exact EdsM.add (H := upd Hd l (HO.lst e.vs)) ⟨rs, r1, r2, r3⟩ (Mv.upd _ _ _) (by rw [upd_ne hlB]; exact upd_same) (fun ps' h => by
            rw [r1] at h
            injection h with h
            injection h with h
            rw [upd_same, h])
      obtain ⟨hM, ed⟩ := h
      rw [List.length_map, lps, List.take_length] at hM
      refine go_nil ⟨_, _, rfl, .inr (.inr ⟨t, u, B, es, rfl, rfl, hB, hM.q, ho, le, by omega, hP, fun r H11 e11 hr => ?_⟩)⟩
      obtain ⟨D2, hr, hD2⟩ := hr
      subst hr
      refine go_nil ⟨_, _, rfl, ?_⟩
      dsimp only
      have e12 := e8.trans (ed.trans e11)
      have hF := (ed.trans e11) _ _ hF
      have hE := hE.same e12
      have hE11 := hE7.same (core_same2 (Mv.of e12))
      have T11 := Tabs.same T7 e12
      have w11 := w7.same e12
      clear hM ed nB hD hps lps hE8 nF e8 e11 e12 hE7 T7 w7 hW hR hfold lts
      have hev := evens_fin u (zipM (marksN t es).1 (marksN t es).2) ((marksN t es).2.getD u.length false)
      have sgu := (path_sg sgt ho hP).1
      have hmem : ∀ x ∈ finL u (zipM (marksN t es).1 (marksN t es).2) (rows u.length - 1) ((marksN t es).2.getD u.length false), cdC x ∧ x.length ≤ 61 := fun x hx => by
        obtain ⟨h1, h2⟩ := finL_mem hx
        refine ⟨cdC_of fun c hc => ?_, h1⟩
        rcases h2 c hc with h | h | h
        · exact sg_lt (sgu c h)
        · exact zipM_lt h
        · omega
      have hlen : (finL u (zipM (marksN t es).1 (marksN t es).2) (rows u.length - 1) ((marksN t es).2.getD u.length false)).length ≤ 200 := by
        rw [finL_len]
        unfold rows
        omega
      obtain ⟨rs, hrs⟩ : ∃ rs, rs = finL u (zipM (marksN t es).1 (marksN t es).2) (rows u.length - 1) ((marksN t es).2.getD u.length false) := ⟨_, rfl⟩
      rw [← hrs] at hev hmem hlen hF hD2
      have hcd : ∀ x ∈ rs, cdC x := fun x hx => (hmem x hx).1
      have hsh := rows_sh hcd (fun x hx => (hmem x hx).2) hlen
      have hpl := rows_pl hcd
      refine go_seq (go_if (go_or2 (nerepr_t (rowsD rs) hsh (by decide) (by decide) (fun Q0 q0 => ?_) (fun H0 e0 Q0 q0 => ?_) (fun H12 e12 => iteF (A := _) ?_))))
      · exact go_var rfl (q0 D2 H11 (Same.refl _) (rows_dp hD2))
      · exact ⟨_, rfl, F, _, rfl, .inl ⟨.inl (.inl (e0 _ _ hF)), fun G nG => q0 G _ (same_new nG) (rows_dp upd_same)⟩⟩
      have hE12 := hE.same e12
      obtain ⟨ps, hD, lps, hps⟩ := id hE12
      refine go_or2 (go_test (go_op ⟨_, rfl, D, _, rfl, .inl ⟨.inl (.inl hD), fun t2 n2 => ?_⟩⟩))
      have x1 := same_new (o := HO.tup (ps.map V.ref)) n2
      have hT : EdsT (upd H12 t2 (HO.tup (ps.map V.ref))) t2 es := hE12.tup x1 (fun ps' h => by
        rw [hD] at h
        injection h with h
        injection h with h
        rw [upd_same, h])
      refine ⟨_, rfl, _, _, rfl, .inr (.inr ⟨t, u, t2, es, rfl, rfl, hB, hT.q, ho, le, by omega, hP, fun r H13 e13 hr => ?_⟩)⟩
      obtain ⟨D3, hr, hD3⟩ := hr
      subst hr
      rw [← hrs] at hD3
      have x13 := (e12.trans x1).trans e13
      have hD2' := x13 _ _ hD2
      refine go_var rfl ⟨rowsD rs, rowsD rs, rows_dp hD3, rows_dp hD2', hpl.shaped (by decide), hpl.shaped (by decide), ?_⟩
      rw [rows_eqv]
      refine ⟨_, rfl, iteF (A := _) ?_⟩
      refine go_test (go_op ⟨⟨_, rfl⟩, _, rfl, D2, _, rfl, .inl (.inl hD2'), fun G nG => ⟨"", G, (evens rs).map S, rfl, rfl, .inr (.inl (.inl ?_)), ?_, ?_⟩⟩)
      · rw [upd_same, evens_map, List.map_map]
        rfl
      · rw [sum_flat, hev, List.length_map, evens_len]
        show u.length + (rs.length + 1) / 2 * 0 ≤ 16777216
        omega
      rw [join_texts, hev]
      refine ⟨_, rfl, rfl, false, by rw [ne_self], iteF (A := _) ?_⟩
      have x14 := x13.trans (same_new (o := HO.tup (evens (rs.map tx))) nG)
      have hE14 := hE11.same (core_same2 (Mv.of x14))
      have T14 := Tabs.same T11 x14
      have w14 := w11.same x14
      clear hD2' hD3 x1 hT n2 e13 hD lps hps hE12 hE11 T11 w11 hF hD2 hsh hpl hcd hmem hlen hev hrs hE e12 x13
      generalize upd H13 G (HO.tup (evens (rs.map tx))) = H14 at hE14 T14 w14 ⊢
      dsimp only [tNext]
      -- what is no text
      refine go_seq (go_asg ⟨_, rfl, ?_⟩)
      refine go_cons (go_lst ?_)
      refine odd6 (K := K) w14 _ H14 (Same.refl _) _ fun xs H15 e15 lxs hxs => ⟨by rw [lxs]; decide, fun p8 n8 => ?_⟩
      have w15 := w14.same e15
      have hpa := w15.ne n8
      refine go_nil ⟨a, p8, c, xs, _, rfl, .inl (.inl upd_same), (fun z => by rw [z] at lxs; cases lxs), by omega, w15.new n8, by omega, fun H' m => .inl (.inl (m _ _ hpa upd_same)), fun nv H16 hv m16 w16 => ?_⟩
      have mB : Mv a H14 H16 := (Mv.of e15).trans ((Mv.of (same_new n8)).trans m16)
      obtain ⟨o, hO, hOf⟩ := hxs nv hv
      have hO := hO.same (core_same2 ((Mv.of (same_new n8)).trans m16))
      have T16 := Tabs.mv T14 w14 mB
      clear hxs hv m16 w15 n8 hpa e15 mB lxs hE14 T14 w14
      refine ⟨_, rfl, S t, rfl, len_le (by omega), ?_⟩
      rw [lenS]
      refine ⟨sz2, fun p9 n9 => ⟨p9, _, rfl, .inl (.inl upd_same), rfl, _, _, rfl, _, _, rfl, rfl, ?_⟩⟩
      have x9 := same_new (o := HO.tup [nv, V.int (t.length : Nat)]) n9
      have hO := hO.same (core_same2 (Mv.of x9))
      have T17 := Tabs.same T16 x9
      have w17 := w16.same x9
      generalize upd H16 p9 (HO.tup [nv, V.int (t.length : Nat)]) = H17 at hO T17 w17 ⊢
      clear x9 n9 T16 w16
      dsimp only [gName]
      -- what is no damage
      refine go_seq (go_asg (go_lst ?_))
      refine bad7 (K := K) (t := t) w17 _ rfl H17 (Same.refl _) _ fun xs H18 e18 lxs hxs => ⟨by rw [lxs]; decide, fun L7 n7 => ?_⟩
      have w18 := w17.same e18
      have hO := hO.same (core_same2 (Mv.of e18))
      have T18 := Tabs.same T17 e18
      have x7 := same_new (o := HO.lst xs) n7
      have w18 := w18.same x7
      have hO := hO.same (core_same2 (Mv.of x7))
      have T18 := Tabs.same T18 x7
      have hx7 : ∀ v ∈ xs, NoEds K (core a (upd H18 L7 (HO.lst xs))) t v := fun v hv => (hxs v hv).up x7
      have h7 : upd H18 L7 (HO.lst xs) L7 = some (.lst xs) := upd_same
      generalize upd H18 L7 (HO.lst xs) = H19 at hO T18 w18 hx7 h7 ⊢
      clear x7 n7 hxs e18 T17 w17
      dsimp only [gName]
      refine go_seq (go_asg ⟨_, rfl, ?_⟩)
      refine go_cons (go_op (go_var rfl (go_lst ?_)))
      refine bad4 (K := K) (t := t) w18 _ rfl H19 (Same.refl _) _ fun ys H20 e20 lys hys => ⟨by rw [lys]; decide, fun L4 n4 => ?_⟩
      have x4 := same_new (o := HO.lst ys) n4
      have mA := e20.trans x4
      have w20 := w18.same mA
      have hO := hO.same (core_same2 (Mv.of mA))
      have T20 := Tabs.same T18 mA
      have hy4 : ∀ v ∈ ys, NoEds K (core a (upd H20 L4 (HO.lst ys))) t v := fun v hv => (hys v hv).up x4
      have hx7 : ∀ v ∈ xs, NoEds K (core a (upd H20 L4 (HO.lst ys))) t v := fun v hv => (hx7 v hv).up mA
      have h7 := mA _ _ h7
      have h4 : upd H20 L4 (HO.lst ys) L4 = some (.lst ys) := upd_same
      generalize upd H20 L4 (HO.lst ys) = H21 at hO T20 w20 hx7 hy4 h7 h4 ⊢
      clear x4 mA n4 hys e20 T18 w18
      have lxy : (xs ++ ys).length = 11 := by rw [List.length_append, lxs, lys]
      have hxy : ∀ v ∈ xs ++ ys, NoEds K (core a H21) t v := fun v hv => (List.mem_append.mp hv).elim (hx7 v) (hy4 v)
      refine ⟨L7, L4, xs, ys, rfl, rfl, h7, h4, by rw [lxs, lys]; decide, fun O nO => ?_⟩
      generalize xs ++ ys = zs at lxy hxy ⊢
      clear hx7 hy4 h7 h4 lxs lys
      have hOa := w20.ne nO
      refine go_nil ⟨a, O, c, zs, _, rfl, .inl (.inl upd_same), (fun z => by rw [z] at lxy; cases lxy), by omega, w20.new nO, by omega, fun H' m => .inl (.inl (m _ _ hOa upd_same)), fun bad H22 hb m22 w22 => ?_⟩
      have hN := hxy bad hb
      have mB := (Mv.of (same_new nO)).trans m22
      have hN := hN.same (core_same2 mB)
      have hO := hO.same (core_same2 mB)
      have T22 := Tabs.mv T20 w20 mB
      clear hxy hb mB m22 hOa nO T20 w20
      dsimp only [gName]
      refine go_if (go_test (go_op (go_lst (go_cons ⟨T22, fun H15 e15 T15 N1 hN1 => ?_⟩))))
      have c15 : Same (core a H22) H15 := core_ext core_sub e15
      refine ⟨_, rfl, _, rfl, nv, bad, rfl, .inl ⟨o, hO.same c15, hOf, fun d H16 e16 hd => ⟨d, .str "text", .inl rfl, rfl, hd, fun v1 H17 e17 hv1 => ?_⟩⟩⟩
      rw [if_pos rfl] at hv1
      have x17 := e16.trans e17
      refine go_cons ⟨Tabs.same T15 x17, fun H18 e18 T18 N2 hN2 => ?_⟩
      have c18 : Same (core a H22) H18 := core_ext core_sub (e15.trans ((ExtN.of x17).trans e18))
      refine ⟨_, rfl, _, rfl, _, bad, rfl, .inr (.inl ⟨t, rfl, hB, hN.same c18, fun d H19 e19 hd => ⟨d, .str "edits", .inr rfl, rfl, hd, fun v2 H20 e20 hv2 => ?_⟩⟩)⟩
      rw [if_neg (fun e => (kitA_W T).2 (Value.ref.inj e))] at hv2
      have x20 := e19.trans e20
      refine go_nil ⟨sz2, fun pl npl => ?_⟩
      have t0 := same_new (o := HO.lst [V.ref v1, V.ref v2]) npl
      have eA := e18.trans (ExtN.of (x20.trans t0))
      have f1 := ext_at eA hv1
      have f2 := t0 _ _ hv2
      have f3 : upd H20 pl (HO.lst [V.ref v1, V.ref v2]) pl = some (.lst [V.ref v1, V.ref v2]) := upd_same
      have eZ := e15.trans ((ExtN.of x17).trans eA)
      have TZ := Tabs.same T18 (x20.trans t0)
      generalize upd H20 pl (HO.lst [V.ref v1, V.ref v2]) = H24 at f1 f2 f3 eZ TZ ⊢
      clear eA t0 x20 hv2 e20 hd e19 c18 e18 T18 x17 hv1 e17 e16 c15 e15 T15 npl hN1 hN2 T22
      refine go_lst (go_cons (go_tup (go_cons (go_c (go_cons (go_c (go_nil ⟨sz2, fun a1 n1 => ?_⟩)))))))
      have y1 := same_new (o := HO.tup [V.str "text", V.str "text"]) n1
      refine go_cons (go_tup (go_cons (go_c (go_cons (go_c (go_nil ⟨sz2, fun a2 n2 => ?_⟩))))))
      have y2 := same_new (o := HO.tup [V.str "edits", V.str "edits"]) n2
      refine go_nil ⟨sz2, fun a3 n3 => ?_⟩
      have y3 := same_new (o := HO.lst [V.ref a1, V.ref a2]) n3
      have yA := y1.trans (y2.trans y3)
      have g1 := (y2.trans y3) _ _ (upd_same (H := H24) (a := a1) (o := HO.tup [V.str "text", V.str "text"]))
      have g2 := y3 _ _ (upd_same (H := upd H24 a1 (HO.tup [V.str "text", V.str "text"])) (a := a2) (o := HO.tup [V.str "edits", V.str "edits"]))
      refine ⟨.list [.tuple [.str "text", .str "text"], .tuple [.str "edits", .str "edits"]], .list [.tuple [.str "text", .str "text"], .tuple [.str "edits", .str "edits"]],
        .lst (.inl (.inl (yA _ _ f3))) (.cons (.tup (.inl (.inl (yA _ _ f1))) (.cons (.str _) (.cons (.str _) .nil))) (.cons (.tup (.inl (.inl (yA _ _ f2))) (.cons (.str _) (.cons (.str _) .nil))) .nil)),
        .lst (.inl (.inl upd_same)) (.cons (.tup (.inl (.inl g1)) (.cons (.str _) (.cons (.str _) .nil))) (.cons (.tup (.inl (.inl g2)) (.cons (.str _) (.cons (.str _) .nil))) .nil)), by decide +kernel, by decide +kernel, ?_⟩
      rw [show (PyData.eqv (.list [.tuple [.str "text", .str "text"], .tuple [.str "edits", .str "edits"]]) (.list [.tuple [.str "text", .str "text"], .tuple [.str "edits", .str "edits"]])) = true by decide +kernel]
      refine ⟨_, rfl, iteF (A := _) ?_⟩
      dsimp only [tNext]
      exact ⟨_, _, _, _, _, _, _, _, _, _, _, _, _, _, _, rfl, (w22.ext (eZ.trans (ExtN.of yA))).lt (by omega), Tabs.same TZ yA⟩
    · dsimp only
      exact q _
end
end K55
namespace K55
open PySem PySem.Spec PyProof.Rows L2 Kx SX LamX
def tx_mk {K : PySem.W.Frag} {h : Heap} {mg : Str → Option Value} (X : K.In h) (G : h.Ns mainGlobals mg)
    {f0 : Addr} {od0 an0 : Option Addr} {sl0 : Array (Option Value)} {oc0 kV0 dc0 pm0 cd0 ct0 : Value}
    {f1 : Addr} {od1 an1 : Option Addr} {sl1 : Array (Option Value)} {oc1 kV1 dc1 pm1 cd1 ct1 : Value}
    {f2 : Addr} {od2 an2 : Option Addr} {sl2 : Array (Option Value)} {oc2 kV2 dc2 pm2 cd2 ct2 : Value}
    {f3 : Addr} {od3 an3 : Option Addr} {sl3 : Array (Option Value)} {oc3 kV3 dc3 pm3 cd3 ct3 : Value}
    {f4 : Addr} {od4 an4 : Option Addr} {sl4 : Array (Option Value)} {oc4 kV4 dc4 pm4 cd4 ct4 : Value}
    {f5 : Addr} {od5 an5 : Option Addr} {sl5 : Array (Option Value)} {oc5 kV5 dc5 pm5 cd5 ct5 : Value}
    {f6 : Addr} {od6 an6 : Option Addr} {sl6 : Array (Option Value)} {oc6 kV6 dc6 pm6 cd6 ct6 : Value}
    {f7 : Addr} {od7 an7 : Option Addr} {sl7 : Array (Option Value)} {oc7 kV7 dc7 pm7 cd7 ct7 : Value}
    {f8 : Addr} {od8 an8 : Option Addr} {sl8 : Array (Option Value)} {oc8 kV8 dc8 pm8 cd8 ct8 : Value}
    {f9 : Addr} {od9 an9 : Option Addr} {sl9 : Array (Option Value)} {oc9 kV9 dc9 pm9 cd9 ct9 : Value}
    {f10 : Addr} {od10 an10 : Option Addr} {sl10 : Array (Option Value)} {oc10 kV10 dc10 pm10 cd10 ct10 : Value}
    {f11 : Addr} {od11 an11 : Option Addr} {sl11 : Array (Option Value)} {oc11 kV11 dc11 pm11 cd11 ct11 : Value}
    {f12 : Addr} {od12 an12 : Option Addr} {sl12 : Array (Option Value)} {oc12 kV12 dc12 pm12 cd12 ct12 : Value}
    {f13 : Addr} {od13 an13 : Option Addr} {sl13 : Array (Option Value)} {oc13 kV13 dc13 pm13 cd13 ct13 : Value}
    {f14 : Addr} {od14 an14 : Option Addr} {sl14 : Array (Option Value)} {oc14 kV14 dc14 pm14 cd14 ct14 : Value}
    {f15 : Addr} {od15 an15 : Option Addr} {sl15 : Array (Option Value)} {oc15 kV15 dc15 pm15 cd15 ct15 : Value}
    {f16 : Addr} {od16 an16 : Option Addr} {sl16 : Array (Option Value)} {oc16 kV16 dc16 pm16 cd16 ct16 : Value}
    {f17 : Addr} {od17 an17 : Option Addr} {sl17 : Array (Option Value)} {oc17 kV17 dc17 pm17 cd17 ct17 : Value}
    {f18 : Addr} {od18 an18 : Option Addr} {sl18 : Array (Option Value)} {oc18 kV18 dc18 pm18 cd18 ct18 : Value}
    {f19 : Addr} {od19 an19 : Option Addr} {sl19 : Array (Option Value)} {oc19 kV19 dc19 pm19 cd19 ct19 : Value}
    {f20 : Addr} {od20 an20 : Option Addr} {sl20 : Array (Option Value)} {oc20 kV20 dc20 pm20 cd20 ct20 : Value}
    {f21 : Addr} {od21 an21 : Option Addr} {sl21 : Array (Option Value)} {oc21 kV21 dc21 pm21 cd21 ct21 : Value}
    {f22 : Addr} {od22 an22 : Option Addr} {sl22 : Array (Option Value)} {oc22 kV22 dc22 pm22 cd22 ct22 : Value}
    {f23 : Addr} {od23 an23 : Option Addr} {sl23 : Array (Option Value)} {oc23 kV23 dc23 pm23 cd23 ct23 : Value}
    {mf0 : Addr} {mod0 man0 : Option Addr} {msl0 : Array (Option Value)} {moc0 mkV0 mdc0 mpm0 mcd0 mct0 : Value}
    {KC_Marking : Addr}
    {KD_TooMany : Addr}
    {KD_BadText : Addr}
    {KD_BadEdits : Addr}
    {t0 : Tok}
    {t1 : Tok}
    {t2 : Tok}
    (a0 : PySem.W.nsIn K mainGlobals "is_list" = some (some (.ref f0))) (l0 : K.lookup f0 = some ⟨oc0, od0, .func (PySem.W.fnOf "is_list" "is_list" (defArgs s_is_list) (defBody s_is_list) (defScope s_is_list) .none kV0 dc0 pm0 an0 cd0 ct0), sl0⟩) (c0 : PySem.W.codeIn K cd0 "is_list" = true) (k0 : PySem.W.keepIn K (.ref f0) = true)
    (a1 : PySem.W.nsIn K mainGlobals "is_integer" = some (some (.ref f1))) (l1 : K.lookup f1 = some ⟨oc1, od1, .func (PySem.W.fnOf "is_integer" "is_integer" (defArgs s_is_integer) (defBody s_is_integer) (defScope s_is_integer) .none kV1 dc1 pm1 an1 cd1 ct1), sl1⟩) (c1 : PySem.W.codeIn K cd1 "is_integer" = true) (k1 : PySem.W.keepIn K (.ref f1) = true)
    (a2 : PySem.W.nsIn K mainGlobals "is_within" = some (some (.ref f2))) (l2 : K.lookup f2 = some ⟨oc2, od2, .func (PySem.W.fnOf "is_within" "is_within" (defArgs s_is_within) (defBody s_is_within) (defScope s_is_within) .none kV2 dc2 pm2 an2 cd2 ct2), sl2⟩) (c2 : PySem.W.codeIn K cd2 "is_within" = true) (k2 : PySem.W.keepIn K (.ref f2) = true)
    (a3 : PySem.W.nsIn K mainGlobals "are_letters" = some (some (.ref f3))) (l3 : K.lookup f3 = some ⟨oc3, od3, .func (PySem.W.fnOf "are_letters" "are_letters" (defArgs s_are_letters) (defBody s_are_letters) (defScope s_are_letters) .none kV3 dc3 pm3 an3 cd3 ct3), sl3⟩) (c3 : PySem.W.codeIn K cd3 "are_letters" = true) (k3 : PySem.W.keepIn K (.ref f3) = true)
    (a4 : PySem.W.nsIn K mainGlobals "is_sign" = some (some (.ref f4))) (l4 : K.lookup f4 = some ⟨oc4, od4, .func (PySem.W.fnOf "is_sign" "is_sign" (defArgs s_is_sign) (defBody s_is_sign) (defScope s_is_sign) .none kV4 dc4 pm4 an4 cd4 ct4), sl4⟩) (c4 : PySem.W.codeIn K cd4 "is_sign" = true) (k4 : PySem.W.keepIn K (.ref f4) = true)
    (a5 : PySem.W.nsIn K mainGlobals "is_text" = some (some (.ref f5))) (l5 : K.lookup f5 = some ⟨oc5, od5, .func (PySem.W.fnOf "is_text" "is_text" (defArgs s_is_text) (defBody s_is_text) (defScope s_is_text) .none kV5 dc5 pm5 an5 cd5 ct5), sl5⟩) (c5 : PySem.W.codeIn K cd5 "is_text" = true) (k5 : PySem.W.keepIn K (.ref f5) = true)
    (a6 : PySem.W.nsIn K mainGlobals "is_edit" = some (some (.ref f6))) (l6 : K.lookup f6 = some ⟨oc6, od6, .func (PySem.W.fnOf "is_edit" "is_edit" (defArgs s_is_edit) (defBody s_is_edit) (defScope s_is_edit) .none kV6 dc6 pm6 an6 cd6 ct6), sl6⟩) (c6 : PySem.W.codeIn K cd6 "is_edit" = true) (k6 : PySem.W.keepIn K (.ref f6) = true)
    (a7 : PySem.W.nsIn K mainGlobals "left_by_edit" = some (some (.ref f7))) (l7 : K.lookup f7 = some ⟨oc7, od7, .func (PySem.W.fnOf "left_by_edit" "left_by_edit" (defArgs s_left_by_edit) (defBody s_left_by_edit) (defScope s_left_by_edit) .none kV7 dc7 pm7 an7 cd7 ct7), sl7⟩) (c7 : PySem.W.codeIn K cd7 "left_by_edit" = true) (k7 : PySem.W.keepIn K (.ref f7) = true)
    (a8 : PySem.W.nsIn K mainGlobals "texts_behind" = some (some (.ref f8))) (l8 : K.lookup f8 = some ⟨oc8, od8, .func (PySem.W.fnOf "texts_behind" "texts_behind" (defArgs s_texts_behind) (defBody s_texts_behind) (defScope s_texts_behind) .none kV8 dc8 pm8 an8 cd8 ct8), sl8⟩) (c8 : PySem.W.codeIn K cd8 "texts_behind" = true) (k8 : PySem.W.keepIn K (.ref f8) = true)
    (a9 : PySem.W.nsIn K mainGlobals "checked_texts" = some (some (.ref f9))) (l9 : K.lookup f9 = some ⟨oc9, od9, .func (PySem.W.fnOf "checked_texts" "checked_texts" (defArgs s_checked_texts) (defBody s_checked_texts) (defScope s_checked_texts) .none kV9 dc9 pm9 an9 cd9 ct9), sl9⟩) (c9 : PySem.W.codeIn K cd9 "checked_texts" = true) (k9 : PySem.W.keepIn K (.ref f9) = true)
    (a10 : PySem.W.nsIn K mainGlobals "damaged" = some (some (.ref f10))) (l10 : K.lookup f10 = some ⟨oc10, od10, .func (PySem.W.fnOf "damaged" "damaged" (defArgs s_damaged) (defBody s_damaged) (defScope s_damaged) .none kV10 dc10 pm10 an10 cd10 ct10), sl10⟩) (c10 : PySem.W.codeIn K cd10 "damaged" = true) (k10 : PySem.W.keepIn K (.ref f10) = true)
    (a11 : PySem.W.nsIn K mainGlobals "mark_edit" = some (some (.ref f11))) (l11 : K.lookup f11 = some ⟨oc11, od11, .func (PySem.W.fnOf "mark_edit" "mark_edit" (defArgs s_mark_edit) (defBody s_mark_edit) (defScope s_mark_edit) .none kV11 dc11 pm11 an11 cd11 ct11), sl11⟩) (c11 : PySem.W.codeIn K cd11 "mark_edit" = true) (k11 : PySem.W.keepIn K (.ref f11) = true)
    (a12 : PySem.W.nsIn K mainGlobals "mark_of" = some (some (.ref f12))) (l12 : K.lookup f12 = some ⟨oc12, od12, .func (PySem.W.fnOf "mark_of" "mark_of" (defArgs s_mark_of) (defBody s_mark_of) (defScope s_mark_of) .none kV12 dc12 pm12 an12 cd12 ct12), sl12⟩) (c12 : PySem.W.codeIn K cd12 "mark_of" = true) (k12 : PySem.W.keepIn K (.ref f12) = true)
    (a13 : PySem.W.nsIn K mainGlobals "marks_of" = some (some (.ref f13))) (l13 : K.lookup f13 = some ⟨oc13, od13, .func (PySem.W.fnOf "marks_of" "marks_of" (defArgs s_marks_of) (defBody s_marks_of) (defScope s_marks_of) .none kV13 dc13 pm13 an13 cd13 ct13), sl13⟩) (c13 : PySem.W.codeIn K cd13 "marks_of" = true) (k13 : PySem.W.keepIn K (.ref f13) = true)
    (a14 : PySem.W.nsIn K mainGlobals "_law_pen" = some (some (.ref f14))) (l14 : K.lookup f14 = some ⟨oc14, od14, .func (PySem.W.fnOf "_law_pen" "_law_pen" (defArgs s_law_pen) (defBody s_law_pen) (defScope s_law_pen) .none kV14 dc14 pm14 an14 cd14 ct14), sl14⟩) (c14 : PySem.W.codeIn K cd14 "_law_pen" = true) (k14 : PySem.W.keepIn K (.ref f14) = true)
    (a15 : PySem.W.nsIn K mainGlobals "_law_stroke" = some (some (.ref f15))) (l15 : K.lookup f15 = some ⟨oc15, od15, .func (PySem.W.fnOf "_law_stroke" "_law_stroke" (defArgs s_law_stroke) (defBody s_law_stroke) (defScope s_law_stroke) .none kV15 dc15 pm15 an15 cd15 ct15), sl15⟩) (c15 : PySem.W.codeIn K cd15 "_law_stroke" = true) (k15 : PySem.W.keepIn K (.ref f15) = true)
    (a16 : PySem.W.nsIn K mainGlobals "_law_one_of" = some (some (.ref f16))) (l16 : K.lookup f16 = some ⟨oc16, od16, .func (PySem.W.fnOf "_law_one_of" "_law_one_of" (defArgs s_law_one_of) (defBody s_law_one_of) (defScope s_law_one_of) .none kV16 dc16 pm16 an16 cd16 ct16), sl16⟩) (c16 : PySem.W.codeIn K cd16 "_law_one_of" = true) (k16 : PySem.W.keepIn K (.ref f16) = true)
    (a17 : PySem.W.nsIn K mainGlobals "_law_heard" = some (some (.ref f17))) (l17 : K.lookup f17 = some ⟨oc17, od17, .func (PySem.W.fnOf "_law_heard" "_law_heard" (defArgs s_law_heard) (defBody s_law_heard) (defScope s_law_heard) .none kV17 dc17 pm17 an17 cd17 ct17), sl17⟩) (c17 : PySem.W.codeIn K cd17 "_law_heard" = true) (k17 : PySem.W.keepIn K (.ref f17) = true)
    (a18 : PySem.W.nsIn K mainGlobals "_law_spot" = some (some (.ref f18))) (l18 : K.lookup f18 = some ⟨oc18, od18, .func (PySem.W.fnOf "_law_spot" "_law_spot" (defArgs s_law_spot) (defBody s_law_spot) (defScope s_law_spot) .none kV18 dc18 pm18 an18 cd18 ct18), sl18⟩) (c18 : PySem.W.codeIn K cd18 "_law_spot" = true) (k18 : PySem.W.keepIn K (.ref f18) = true)
    (a19 : PySem.W.nsIn K mainGlobals "_law_ahead" = some (some (.ref f19))) (l19 : K.lookup f19 = some ⟨oc19, od19, .func (PySem.W.fnOf "_law_ahead" "_law_ahead" (defArgs s_law_ahead) (defBody s_law_ahead) (defScope s_law_ahead) .none kV19 dc19 pm19 an19 cd19 ct19), sl19⟩) (c19 : PySem.W.codeIn K cd19 "_law_ahead" = true) (k19 : PySem.W.keepIn K (.ref f19) = true)
    (a20 : PySem.W.nsIn K mainGlobals "_law_edited" = some (some (.ref f20))) (l20 : K.lookup f20 = some ⟨oc20, od20, .func (PySem.W.fnOf "_law_edited" "_law_edited" (defArgs s_law_edited) (defBody s_law_edited) (defScope s_law_edited) .none kV20 dc20 pm20 an20 cd20 ct20), sl20⟩) (c20 : PySem.W.codeIn K cd20 "_law_edited" = true) (k20 : PySem.W.keepIn K (.ref f20) = true)
    (a21 : PySem.W.nsIn K mainGlobals "_law_lines" = some (some (.ref f21))) (l21 : K.lookup f21 = some ⟨oc21, od21, .func (PySem.W.fnOf "_law_lines" "_law_lines" (defArgs s_law_lines) (defBody s_law_lines) (defScope s_law_lines) .none kV21 dc21 pm21 an21 cd21 ct21), sl21⟩) (c21 : PySem.W.codeIn K cd21 "_law_lines" = true) (k21 : PySem.W.keepIn K (.ref f21) = true)
    (a22 : PySem.W.nsIn K mainGlobals "_law_edits" = some (some (.ref f22))) (l22 : K.lookup f22 = some ⟨oc22, od22, .func (PySem.W.fnOf "_law_edits" "_law_edits" (defArgs s_law_edits) (defBody s_law_edits) (defScope s_law_edits) .none kV22 dc22 pm22 an22 cd22 ct22), sl22⟩) (c22 : PySem.W.codeIn K cd22 "_law_edits" = true) (k22 : PySem.W.keepIn K (.ref f22) = true)
    (a23 : PySem.W.nsIn K mainGlobals "law" = some (some (.ref f23))) (l23 : K.lookup f23 = some ⟨oc23, od23, .func (PySem.W.fnOf "law" "law" (defArgs s_law) (defBody s_law) (defScope s_law) .none kV23 dc23 pm23 an23 cd23 ct23), sl23⟩) (c23 : PySem.W.codeIn K cd23 "law" = true) (k23 : PySem.W.keepIn K (.ref f23) = true)
    (ca_Marking : PySem.W.nsIn K mainGlobals "Marking" = some (some (.ref KC_Marking)))
    (cp_Marking : PySem.W.plainGet K KC_Marking Str.empty = true)
    (cd_Marking : PySem.W.hasDictIn K KC_Marking = true)
    (co_Marking : PySem.W.plainOver K KC_Marking = true)
    (cs_Marking : PySem.W.findIn K (.ref KC_Marking) "__setattr__" = some (some (.builtin "object.__setattr__")))
    (cm_Marking : PySem.W.makesIn K KC_Marking = true)
    (ck_Marking : PySem.W.keepIn K (.ref KC_Marking) = true)
    (cb_Marking : PySem.W.mroIn K KC_Marking (.type "object") = some true)
    (cn_Marking : PySem.W.findIn K (.ref KC_Marking) "__ne__" = some (some (.builtin "object.__ne__")))
    (cc_Marking : PySem.W.findIn K (.ref KC_Marking) "__class__" = some (some (.builtin "object.__class__")))
    (cg_Marking : PySem.W.specialIn K (.builtin "object.__class__") "__get__" = some (some (.builtin "getset_descriptor.__get__")))
    (ct_Marking : PySem.W.takesIn K (.builtin "object.__class__") = some true)
    (ci_Marking : PySem.W.isClsIn K KC_Marking = true)
    (cy_Marking : PySem.W.typeIn K (.ref KC_Marking) = some (.type "type"))
    (cx_Marking_news : PySem.W.findIn K (.ref KC_Marking) "news" = some none)
    (cx_Marking_gaps : PySem.W.findIn K (.ref KC_Marking) "gaps" = some none)
    (da_TooMany : PySem.W.nsIn K mainGlobals "TooMany" = some (some (.ref KD_TooMany)))
    (di_TooMany : PySem.W.isClsIn K KD_TooMany = true)
    (dy_TooMany : PySem.W.typeIn K (.ref KD_TooMany) = some (.type "type"))
    (da_BadText : PySem.W.nsIn K mainGlobals "BadText" = some (some (.ref KD_BadText)))
    (di_BadText : PySem.W.isClsIn K KD_BadText = true)
    (dy_BadText : PySem.W.typeIn K (.ref KD_BadText) = some (.type "type"))
    (da_BadEdits : PySem.W.nsIn K mainGlobals "BadEdits" = some (some (.ref KD_BadEdits)))
    (di_BadEdits : PySem.W.isClsIn K KD_BadEdits = true)
    (dy_BadEdits : PySem.W.typeIn K (.ref KD_BadEdits) = some (.type "type"))
    (ds_BadText_TooMany : PySem.W.subIn K (.ref KD_BadText) (.ref KD_TooMany) = some false)
    (ds_BadText_BadText : PySem.W.subIn K (.ref KD_BadText) (.ref KD_BadText) = some true)
    (ds_BadText_BadEdits : PySem.W.subIn K (.ref KD_BadText) (.ref KD_BadEdits) = some false)
    (ds_BadEdits_TooMany : PySem.W.subIn K (.ref KD_BadEdits) (.ref KD_TooMany) = some false)
    (ds_BadEdits_BadText : PySem.W.subIn K (.ref KD_BadEdits) (.ref KD_BadText) = some false)
    (ds_BadEdits_BadEdits : PySem.W.subIn K (.ref KD_BadEdits) (.ref KD_BadEdits) = some true)
    (ma0 : PySem.W.findIn K (.ref KC_Marking) "__init__" = some (some (.ref mf0))) (mi0 : PySem.W.isFn K (.ref mf0) = true) (ml0 : K.lookup mf0 = some ⟨moc0, mod0, .func (PySem.W.fnOf "__init__" "Marking.__init__" (defArgs s_Marking_init) (defBody s_Marking_init) (defScope s_Marking_init) .none mkV0 mdc0 mpm0 man0 mcd0 mct0), msl0⟩) (mc0 : PySem.W.codeIn K mcd0 "Marking.__init__" = true) (mk0 : PySem.W.keepIn K (.ref mf0) = true)
    (z0 : PySem.W.nsIn K mainGlobals "isinstance" = some none)
    (z1 : PySem.W.nsIn K mainGlobals "list" = some none)
    (z2 : PySem.W.nsIn K mainGlobals "tuple" = some none)
    (z3 : PySem.W.nsIn K mainGlobals "int" = some none)
    (z4 : PySem.W.nsIn K mainGlobals "bool" = some none)
    (z5 : PySem.W.nsIn K mainGlobals "str" = some none)
    (z6 : PySem.W.nsIn K mainGlobals "len" = some none)
    (z7 : PySem.W.nsIn K mainGlobals "range" = some none)
    (z8 : PySem.W.nsIn K mainGlobals "max" = some none)
    (z9 : PySem.W.nsIn K mainGlobals "zip" = some none)
    (z10 : PySem.W.nsIn K mainGlobals "abs" = some none)
    (z11 : PySem.W.nsIn K mainGlobals "enumerate" = some none)
    (z12 : PySem.W.nsIn K mainGlobals "min" = some none)
    (z13 : PySem.W.nsIn K mainGlobals "repr" = some none)
    (er_BadText : Er K mg "BadText" "BadText.__init__" s_BadText_init "LetterError")
    (er_BadEdits : Er K mg "BadEdits" "BadEdits.__init__" s_BadEdits_init "LetterError")
    (q0 : PySem.W.nsIn K mainGlobals "MOST_SIGNS" = some (some (.int 200000 t0)))
    (q1 : PySem.W.nsIn K mainGlobals "MOST_EDITS" = some (some (.int 12 t1)))
    (q2 : PySem.W.nsIn K mainGlobals "SIGNS_OF_LINE" = some (some (.int 60 t2))) : Tx K mg :=
  {
    f_is_list := f0
    fd_is_list := _
    F_is_list := fun_mk (st := s_is_list) l0 c0 k0
    g_is_list := PySem.W.mg_of X G a0
    b_is_list := (fun_mk (st := s_is_list) l0 c0 k0).binds (ps := ["value"]) fun _ _ _ _ _ _ us hl => match us, hl with | [_], _ => rfl
    f_is_integer := f1
    fd_is_integer := _
    F_is_integer := fun_mk (st := s_is_integer) l1 c1 k1
    g_is_integer := PySem.W.mg_of X G a1
    b_is_integer := (fun_mk (st := s_is_integer) l1 c1 k1).binds (ps := ["value"]) fun _ _ _ _ _ _ us hl => match us, hl with | [_], _ => rfl
    f_is_within := f2
    fd_is_within := _
    F_is_within := fun_mk (st := s_is_within) l2 c2 k2
    g_is_within := PySem.W.mg_of X G a2
    b_is_within := (fun_mk (st := s_is_within) l2 c2 k2).binds (ps := ["value", "least", "most"]) fun _ _ _ _ _ _ us hl => match us, hl with | [_, _, _], _ => rfl
    f_are_letters := f3
    fd_are_letters := _
    F_are_letters := fun_mk (st := s_are_letters) l3 c3 k3
    g_are_letters := PySem.W.mg_of X G a3
    b_are_letters := (fun_mk (st := s_are_letters) l3 c3 k3).binds (ps := ["text"]) fun _ _ _ _ _ _ us hl => match us, hl with | [_], _ => rfl
    f_is_sign := f4
    fd_is_sign := _
    F_is_sign := fun_mk (st := s_is_sign) l4 c4 k4
    g_is_sign := PySem.W.mg_of X G a4
    b_is_sign := (fun_mk (st := s_is_sign) l4 c4 k4).binds (ps := ["value"]) fun _ _ _ _ _ _ us hl => match us, hl with | [_], _ => rfl
    f_is_text := f5
    fd_is_text := _
    F_is_text := fun_mk (st := s_is_text) l5 c5 k5
    g_is_text := PySem.W.mg_of X G a5
    b_is_text := (fun_mk (st := s_is_text) l5 c5 k5).binds (ps := ["value"]) fun _ _ _ _ _ _ us hl => match us, hl with | [_], _ => rfl
    f_is_edit := f6
    fd_is_edit := _
    F_is_edit := fun_mk (st := s_is_edit) l6 c6 k6
    g_is_edit := PySem.W.mg_of X G a6
    b_is_edit := (fun_mk (st := s_is_edit) l6 c6 k6).binds (ps := ["value"]) fun _ _ _ _ _ _ us hl => match us, hl with | [_], _ => rfl
    f_left_by_edit := f7
    fd_left_by_edit := _
    F_left_by_edit := fun_mk (st := s_left_by_edit) l7 c7 k7
    g_left_by_edit := PySem.W.mg_of X G a7
    b_left_by_edit := (fun_mk (st := s_left_by_edit) l7 c7 k7).binds (ps := ["text", "edit"]) fun _ _ _ _ _ _ us hl => match us, hl with | [_, _], _ => rfl
    f_texts_behind := f8
    fd_texts_behind := _
    F_texts_behind := fun_mk (st := s_texts_behind) l8 c8 k8
    g_texts_behind := PySem.W.mg_of X G a8
    b_texts_behind := (fun_mk (st := s_texts_behind) l8 c8 k8).binds (ps := ["text", "edits"]) fun _ _ _ _ _ _ us hl => match us, hl with | [_, _], _ => rfl
    f_checked_texts := f9
    fd_checked_texts := _
    F_checked_texts := fun_mk (st := s_checked_texts) l9 c9 k9
    g_checked_texts := PySem.W.mg_of X G a9
    b_checked_texts := (fun_mk (st := s_checked_texts) l9 c9 k9).binds (ps := ["text", "edits"]) fun _ _ _ _ _ _ us hl => match us, hl with | [_, _], _ => rfl
    f_damaged := f10
    fd_damaged := _
    F_damaged := fun_mk (st := s_damaged) l10 c10 k10
    g_damaged := PySem.W.mg_of X G a10
    b_damaged := (fun_mk (st := s_damaged) l10 c10 k10).binds (ps := ["text", "edits"]) fun _ _ _ _ _ _ us hl => match us, hl with | [_, _], _ => rfl
    f_mark_edit := f11
    fd_mark_edit := _
    F_mark_edit := fun_mk (st := s_mark_edit) l11 c11 k11
    g_mark_edit := PySem.W.mg_of X G a11
    b_mark_edit := (fun_mk (st := s_mark_edit) l11 c11 k11).binds (ps := ["marking", "edit"]) fun _ _ _ _ _ _ us hl => match us, hl with | [_, _], _ => rfl
    f_mark_of := f12
    fd_mark_of := _
    F_mark_of := fun_mk (st := s_mark_of) l12 c12 k12
    g_mark_of := PySem.W.mg_of X G a12
    b_mark_of := (fun_mk (st := s_mark_of) l12 c12 k12).binds (ps := ["is_new", "has_gap"]) fun _ _ _ _ _ _ us hl => match us, hl with | [_, _], _ => rfl
    f_marks_of := f13
    fd_marks_of := _
    F_marks_of := fun_mk (st := s_marks_of) l13 c13 k13
    g_marks_of := PySem.W.mg_of X G a13
    b_marks_of := (fun_mk (st := s_marks_of) l13 c13 k13).binds (ps := ["text", "edits"]) fun _ _ _ _ _ _ us hl => match us, hl with | [_, _], _ => rfl
    f_law_pen := f14
    fd_law_pen := _
    F_law_pen := fun_mk (st := s_law_pen) l14 c14 k14
    g_law_pen := PySem.W.mg_of X G a14
    b_law_pen := (fun_mk (st := s_law_pen) l14 c14 k14).binds (ps := ["script"]) fun _ _ _ _ _ _ us hl => match us, hl with | [_], _ => rfl
    f_law_stroke := f15
    fd_law_stroke := _
    F_law_stroke := fun_mk (st := s_law_stroke) l15 c15 k15
    g_law_stroke := PySem.W.mg_of X G a15
    b_law_stroke := (fun_mk (st := s_law_stroke) l15 c15 k15).binds (ps := ["pen", "many"]) fun _ _ _ _ _ _ us hl => match us, hl with | [_, _], _ => rfl
    f_law_one_of := f16
    fd_law_one_of := _
    F_law_one_of := fun_mk (st := s_law_one_of) l16 c16 k16
    g_law_one_of := PySem.W.mg_of X G a16
    b_law_one_of := (fun_mk (st := s_law_one_of) l16 c16 k16).binds (ps := ["pen", "some"]) fun _ _ _ _ _ _ us hl => match us, hl with | [_, _], _ => rfl
    f_law_heard := f17
    fd_law_heard := _
    F_law_heard := fun_mk (st := s_law_heard) l17 c17 k17
    g_law_heard := PySem.W.mg_of X G a17
    b_law_heard := (fun_mk (st := s_law_heard) l17 c17 k17).binds (ps := ["ask"]) fun _ _ _ _ _ _ us hl => match us, hl with | [_], _ => rfl
    f_law_spot := f18
    fd_law_spot := _
    F_law_spot := fun_mk (st := s_law_spot) l18 c18 k18
    g_law_spot := PySem.W.mg_of X G a18
    b_law_spot := (fun_mk (st := s_law_spot) l18 c18 k18).binds (ps := ["tokens", "at"]) fun _ _ _ _ _ _ us hl => match us, hl with | [_, _], _ => rfl
    f_law_ahead := f19
    fd_law_ahead := _
    F_law_ahead := fun_mk (st := s_law_ahead) l19 c19 k19
    g_law_ahead := PySem.W.mg_of X G a19
    b_law_ahead := (fun_mk (st := s_law_ahead) l19 c19 k19).binds (ps := ["tokens", "spot"]) fun _ _ _ _ _ _ us hl => match us, hl with | [_, _], _ => rfl
    f_law_edited := f20
    fd_law_edited := _
    F_law_edited := fun_mk (st := s_law_edited) l20 c20 k20
    g_law_edited := PySem.W.mg_of X G a20
    b_law_edited := (fun_mk (st := s_law_edited) l20 c20 k20).binds (ps := ["tokens", "edit"]) fun _ _ _ _ _ _ us hl => match us, hl with | [_, _], _ => rfl
    f_law_lines := f21
    fd_law_lines := _
    F_law_lines := fun_mk (st := s_law_lines) l21 c21 k21
    g_law_lines := PySem.W.mg_of X G a21
    b_law_lines := (fun_mk (st := s_law_lines) l21 c21 k21).binds (ps := ["tokens"]) fun _ _ _ _ _ _ us hl => match us, hl with | [_], _ => rfl
    f_law_edits := f22
    fd_law_edits := _
    F_law_edits := fun_mk (st := s_law_edits) l22 c22 k22
    g_law_edits := PySem.W.mg_of X G a22
    b_law_edits := (fun_mk (st := s_law_edits) l22 c22 k22).binds (ps := ["pen", "text"]) fun _ _ _ _ _ _ us hl => match us, hl with | [_, _], _ => rfl
    f_law := f23
    fd_law := _
    F_law := fun_mk (st := s_law) l23 c23 k23
    g_law := PySem.W.mg_of X G a23
    b_law := (fun_mk (st := s_law) l23 c23 k23).binds (ps := ["script"]) fun _ _ _ _ _ _ us hl => match us, hl with | [_], _ => rfl
    n_law := a23
    f_Marking_init := mf0
    fd_Marking_init := _
    F_Marking_init := fun_mk (st := s_Marking_init) ml0 mc0 mk0
    b_Marking_init := (fun_mk (st := s_Marking_init) ml0 mc0 mk0).binds (ps := ["self", "length"]) fun _ _ _ _ _ _ us hl => match us, hl with | [_, _], _ => rfl
    mk_Marking := ⟨cm_Marking, ma0, mi0, ck_Marking⟩
    na_Marking_news := cx_Marking_news
    na_Marking_gaps := cx_Marking_gaps
    C_Marking := KC_Marking
    gC_Marking := PySem.W.mg_of X G ca_Marking
    cl_Marking := ⟨cp_Marking, cd_Marking, co_Marking, cs_Marking⟩
    ob_Marking := cb_Marking
    ne_Marking := cn_Marking
    oc_Marking := cc_Marking
    on_Marking := cg_Marking
    ot_Marking := ct_Marking
    kc_Marking := ci_Marking
    kt_Marking := cy_Marking
    k_TooMany := KD_TooMany
    gk_TooMany := PySem.W.mg_of X G da_TooMany
    kc_TooMany := di_TooMany
    kt_TooMany := dy_TooMany
    k_BadText := KD_BadText
    gk_BadText := PySem.W.mg_of X G da_BadText
    kc_BadText := di_BadText
    kt_BadText := dy_BadText
    k_BadEdits := KD_BadEdits
    gk_BadEdits := PySem.W.mg_of X G da_BadEdits
    kc_BadEdits := di_BadEdits
    kt_BadEdits := dy_BadEdits
    su_BadText_TooMany := ds_BadText_TooMany
    su_BadText_BadText := ds_BadText_BadText
    su_BadText_BadEdits := ds_BadText_BadEdits
    su_BadEdits_TooMany := ds_BadEdits_TooMany
    su_BadEdits_BadText := ds_BadEdits_BadText
    su_BadEdits_BadEdits := ds_BadEdits_BadEdits
    m_isinstance := PySem.W.mg_none_of X G z0
    m_list := PySem.W.mg_none_of X G z1
    m_tuple := PySem.W.mg_none_of X G z2
    m_int := PySem.W.mg_none_of X G z3
    m_bool := PySem.W.mg_none_of X G z4
    m_str := PySem.W.mg_none_of X G z5
    m_len := PySem.W.mg_none_of X G z6
    m_range := PySem.W.mg_none_of X G z7
    m_max := PySem.W.mg_none_of X G z8
    m_zip := PySem.W.mg_none_of X G z9
    m_abs := PySem.W.mg_none_of X G z10
    m_enumerate := PySem.W.mg_none_of X G z11
    m_min := PySem.W.mg_none_of X G z12
    m_repr := PySem.W.mg_none_of X G z13
    e_BadText := er_BadText
    e_BadEdits := er_BadEdits
    t_MOST_SIGNS := t0
    c_MOST_SIGNS := PySem.W.mg_of X G q0
    t_MOST_EDITS := t1
    c_MOST_EDITS := PySem.W.mg_of X G q1
    t_SIGNS_OF_LINE := t2
    c_SIGNS_OF_LINE := PySem.W.mg_of X G q2 }
end K55
open PySem PySem.W PyProof.Rows
set_option maxHeartbeats 0 in
theorem PySem.Challenge.cw_anyletter_k55_marks_of_damages_holds : PySem.Challenge.rw_anyletter_k55_marks_of_damages.Holds := by
  w_on; o_law; k_head; (case hw => w_witness2)
  k_fill
  refine Kx.walkL (l := PySem.Challenge.rw_anyletter_k55_marks_of_damages) (n := 63) (k := 20) (x := "script") (y := "law") K55.sp_law rfl (by decide) rfl ⟨rfl, by decide, by decide⟩ (fun w h Y => PySem.W.km_in_of Y) ?hcs ?FF (fun K Pt H a ns hl ht hS => ⟨a, ns, rfl, hS, ht, fun _ => rfl⟩)
  case hcs =>
    intro p
    refine' ⟨⟨_, rfl⟩, Kx.tabIn_of ?ta ?tl ?te ?tl2 ?tv ?tn⟩
    case ta => k_is
    case tl => k_is
    case te => rfl
    case tl2 => k_is
    case tv => rfl
    case tn => rfl
  case FF =>
    intro w mg fa h KX G hmg
    refine' Kx.useIt (K55.tx_mk KX G ?a0 ?l0 ?c0 ?k0 ?a1 ?l1 ?c1 ?k1 ?a2 ?l2 ?c2 ?k2 ?a3 ?l3 ?c3 ?k3 ?a4 ?l4 ?c4 ?k4 ?a5 ?l5 ?c5 ?k5 ?a6 ?l6 ?c6 ?k6 ?a7 ?l7 ?c7 ?k7 ?a8 ?l8 ?c8 ?k8 ?a9 ?l9 ?c9 ?k9 ?a10 ?l10 ?c10 ?k10 ?a11 ?l11 ?c11 ?k11 ?a12 ?l12 ?c12 ?k12 ?a13 ?l13 ?c13 ?k13 ?a14 ?l14 ?c14 ?k14 ?a15 ?l15 ?c15 ?k15 ?a16 ?l16 ?c16 ?k16 ?a17 ?l17 ?c17 ?k17 ?a18 ?l18 ?c18 ?k18 ?a19 ?l19 ?c19 ?k19 ?a20 ?l20 ?c20 ?k20 ?a21 ?l21 ?c21 ?k21 ?a22 ?l22 ?c22 ?k22 ?a23 ?l23 ?c23 ?k23 ?ca_Marking ?cp_Marking ?cd_Marking ?co_Marking ?cs_Marking ?cm_Marking ?ck_Marking ?cb_Marking ?cn_Marking ?cc_Marking ?cg_Marking ?ct_Marking ?ci_Marking ?cy_Marking ?cx_Marking_news ?cx_Marking_gaps ?da_TooMany ?di_TooMany ?dy_TooMany ?da_BadText ?di_BadText ?dy_BadText ?da_BadEdits ?di_BadEdits ?dy_BadEdits ?ds_BadText_TooMany ?ds_BadText_BadText ?ds_BadText_BadEdits ?ds_BadEdits_TooMany ?ds_BadEdits_BadText ?ds_BadEdits_BadEdits ?ma0 ?mi0 ?ml0 ?mc0 ?mk0 ?z0 ?z1 ?z2 ?z3 ?z4 ?z5 ?z6 ?z7 ?z8 ?z9 ?z10 ?z11 ?z12 ?z13 ?er_BadText ?er_BadEdits ?q0 ?q1 ?q2) (fun T => ?main)
    (case a0 => k_is)
    (case l0 => k_is)
    (case c0 => k_is)
    (case k0 => k_is)
    (case a1 => k_is)
    (case l1 => k_is)
    (case c1 => k_is)
    (case k1 => k_is)
    (case a2 => k_is)
    (case l2 => k_is)
    (case c2 => k_is)
    (case k2 => k_is)
    (case a3 => k_is)
    (case l3 => k_is)
    (case c3 => k_is)
    (case k3 => k_is)
    (case a4 => k_is)
    (case l4 => k_is)
    (case c4 => k_is)
    (case k4 => k_is)
    (case a5 => k_is)
    (case l5 => k_is)
    (case c5 => k_is)
    (case k5 => k_is)
    (case a6 => k_is)
    (case l6 => k_is)
    (case c6 => k_is)
    (case k6 => k_is)
    (case a7 => k_is)
    (case l7 => k_is)
    (case c7 => k_is)
    (case k7 => k_is)
    (case a8 => k_is)
    (case l8 => k_is)
    (case c8 => k_is)
    (case k8 => k_is)
    (case a9 => k_is)
    (case l9 => k_is)
    (case c9 => k_is)
    (case k9 => k_is)
    (case a10 => k_is)
    (case l10 => k_is)
    (case c10 => k_is)
    (case k10 => k_is)
    (case a11 => k_is)
    (case l11 => k_is)
    (case c11 => k_is)
    (case k11 => k_is)
    (case a12 => k_is)
    (case l12 => k_is)
    (case c12 => k_is)
    (case k12 => k_is)
    (case a13 => k_is)
    (case l13 => k_is)
    (case c13 => k_is)
    (case k13 => k_is)
    (case a14 => k_is)
    (case l14 => k_is)
    (case c14 => k_is)
    (case k14 => k_is)
    (case a15 => k_is)
    (case l15 => k_is)
    (case c15 => k_is)
    (case k15 => k_is)
    (case a16 => k_is)
    (case l16 => k_is)
    (case c16 => k_is)
    (case k16 => k_is)
    (case a17 => k_is)
    (case l17 => k_is)
    (case c17 => k_is)
    (case k17 => k_is)
    (case a18 => k_is)
    (case l18 => k_is)
    (case c18 => k_is)
    (case k18 => k_is)
    (case a19 => k_is)
    (case l19 => k_is)
    (case c19 => k_is)
    (case k19 => k_is)
    (case a20 => k_is)
    (case l20 => k_is)
    (case c20 => k_is)
    (case k20 => k_is)
    (case a21 => k_is)
    (case l21 => k_is)
    (case c21 => k_is)
    (case k21 => k_is)
    (case a22 => k_is)
    (case l22 => k_is)
    (case c22 => k_is)
    (case k22 => k_is)
    (case a23 => k_is)
    (case l23 => k_is)
    (case c23 => k_is)
    (case k23 => k_is)
    (case ca_Marking => k_is)
    (case cp_Marking => k_is)
    (case cd_Marking => k_is)
    (case co_Marking => k_is)
    (case cs_Marking => k_is)
    (case cm_Marking => k_is)
    (case ck_Marking => k_is)
    (case cb_Marking => k_is)
    (case cn_Marking => k_is)
    (case cc_Marking => k_is)
    (case cg_Marking => k_is)
    (case ct_Marking => k_is)
    (case ci_Marking => k_is)
    (case cy_Marking => k_is)
    (case cx_Marking_news => k_is)
    (case cx_Marking_gaps => k_is)
    (case da_TooMany => k_is)
    (case di_TooMany => k_is)
    (case dy_TooMany => k_is)
    (case da_BadText => k_is)
    (case di_BadText => k_is)
    (case dy_BadText => k_is)
    (case da_BadEdits => k_is)
    (case di_BadEdits => k_is)
    (case dy_BadEdits => k_is)
    (case ds_BadText_TooMany => k_is)
    (case ds_BadText_BadText => k_is)
    (case ds_BadText_BadEdits => k_is)
    (case ds_BadEdits_TooMany => k_is)
    (case ds_BadEdits_BadText => k_is)
    (case ds_BadEdits_BadEdits => k_is)
    (case ma0 => k_is)
    (case mi0 => k_is)
    (case ml0 => k_is)
    (case mc0 => k_is)
    (case mk0 => k_is)
    (case z0 => k_is)
    (case z1 => k_is)
    (case z2 => k_is)
    (case z3 => k_is)
    (case z4 => k_is)
    (case z5 => k_is)
    (case z6 => k_is)
    (case z7 => k_is)
    (case z8 => k_is)
    (case z9 => k_is)
    (case z10 => k_is)
    (case z11 => k_is)
    (case z12 => k_is)
    (case z13 => k_is)
    (case er_BadText =>
      refine' Kx.er_mk KX G ?waC ?waL ?wxL ?whbm ?wsa ?weC ?wtC ?wkC ?wa1 ?wt1 ?wl1 ?wc1 ?wk1 ?wb1 ?wnb ?wga ?wgg ?whd ?whc ?whn ?wht ?whm ?weL ?wdL ?wtL ?wsCL
      (case waC => k_is); (case waL => k_is); (case wxL => k_is); (case whbm => rfl); (case wsa => k_is); (case weC => k_is); (case wtC => k_is); (case wkC => k_is); (case wa1 => k_is); (case wt1 => k_is); (case wl1 => k_is); (case wc1 => k_is); (case wk1 => k_is)
      (case wb1 => exact fun _ _ _ _ _ _ us hl => match us, hl with | [_, _], _ => rfl)
      (case wnb => k_is); (case wga => k_is); (case wgg => k_is); (case whd => k_is); (case whc => k_is); (case whn => k_is); (case wht => k_is); (case whm => k_is); (case weL => k_is); (case wdL => k_is); (case wtL => k_is); (case wsCL => k_is))
    (case er_BadEdits =>
      refine' Kx.er_mk KX G ?waC ?waL ?wxL ?whbm ?wsa ?weC ?wtC ?wkC ?wa1 ?wt1 ?wl1 ?wc1 ?wk1 ?wb1 ?wnb ?wga ?wgg ?whd ?whc ?whn ?wht ?whm ?weL ?wdL ?wtL ?wsCL
      (case waC => k_is); (case waL => k_is); (case wxL => k_is); (case whbm => rfl); (case wsa => k_is); (case weC => k_is); (case wtC => k_is); (case wkC => k_is); (case wa1 => k_is); (case wt1 => k_is); (case wl1 => k_is); (case wc1 => k_is); (case wk1 => k_is)
      (case wb1 => exact fun _ _ _ _ _ _ us hl => match us, hl with | [_, _], _ => rfl)
      (case wnb => k_is); (case wga => k_is); (case wgg => k_is); (case whd => k_is); (case whc => k_is); (case whn => k_is); (case wht => k_is); (case whm => k_is); (case weL => k_is); (case wdL => k_is); (case wtL => k_is); (case wsCL => k_is))
    (case q0 => k_is)
    (case q1 => k_is)
    (case q2 => k_is)
    case main =>
      obtain rfl := Kx.same_ref (x := "law") T.g_law hmg
      exact ⟨T.fd_law, Kx.binds_one T.F_law (fun _ _ _ _ _ _ _ => rfl), fun c Pt ht base hk hg hTB => K55.ok_law T (Kx.funC_of T.F_law T.n_law ht) hTB⟩
