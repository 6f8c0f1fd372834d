import PyProof.Rows.All
import Wide.All
import OpenK.AllK
import Wide.FinOn
import PyProof.EqAt
import PyProof.EqKinds
import PyProof.TupleCall
import HandS.ForMost
import HandS.Exc
import HandS.IsInst
import HandS.StrMore
import HandS.Replace
import HandS.ReplaceDef
import HandS.ReplaceLit
import HandS.ReplaceList
import HandS.Defaults
import HandS.Style
import HandS.Zip
import HandS.Conv
import HandS.Lambda
import HandS.Codes
import HandS.Evl
import HandS.ExcValue
import HandS.ExcInit
import HandS.ExcIs
import HandS.ExcField
import KE.KDflt
import KE.KExcIs
import HandS.EndTab
import PyProof.ReprRoads
import PyProof.ReprBulk
import HandS.ExcOwn
import HandS.WordsExc
import HandS.Walk
import PyProof.Rows.StrStrike
import PyProof.Draws
import PyProof.ListStr
import PyProof.Rows.RegStrFacts
import PyProof.Rows.RegReprOcc
import KE.KxIndex
import HandS.OwnEq
import HandS.More
import HandS.Strs
import HandS.SetFor
import KE.KRevSl
import KE.GoesMore
import HandS.DictComp
import PyProof.StrCalls6
import PyProof.MeetsStr3
import PyProof.CallFns
import KE.GoesZip
import KE.SortData
import PyProof.StrWalks
import PyProof.DictUpdate
import PyProof.AssignAttr
import HandS.Finally
import HandS.Small
import HandS.SortRule
import HandS.Iter
import HandS.Wide
import HandS.TryMany
import HandS.DeepEq
import HandS.DictEq
import KE.KItemsList
import HandS.ClsMeth
import HandS.Nested
import HandS.Star
import KE.KSuper
import HandS.Records
import HandS.ListEq
import PyProof.NeKinds
import KE.KTypeName
import HandS.MakeKwOnly
import HandS.Flt
import KE.RegKSuper
import PySem.Challenge.RW_anyletter_k06_whole_least_ways
set_option Elab.async false
set_option linter.all false
set_option maxRecDepth 100000
set_option maxHeartbeats 4000000
set_option autoImplicit false
namespace Kx
open PySem PySem.Spec PyProof.Rows L2
/-! ### a def that is promised only where no repr runs around it -/
structure FnG (P : Program) (w : World) (K : PySem.W.Frag) (mg : Str → Option Value) (base : Heap) (CX : CXT) (k : Nat) (f : Addr) (fd : FuncData) (ps : List Str) (sp : Sp) : Prop where
  len : ∀ vs H Q E, sp vs H Q E → vs.length = ps.length
  go : ∀ (A : Around) (outer : List Env) (s : Shared) (H : Hp) (args : Args) (us : List Value) (vs : List V) (Q : VK) (E : XK), A.guards = some [] → Room k A → Env0 P w K mg base A outer s H →
    BindsTo s fd args (ps.zip us) → Vals vs us → sp vs H Q E → codeAny (model P w) A (.call (.ref f) args) (CR CX outer P w H s Q E) s
section
variable {P : Program} {w : World} {K : PySem.W.Frag} {mg : Str → Option Value} {base : Heap}
theorem FnG.of {CX : CXT} {k : Nat} {f : Addr} {fd : FuncData} {ps : List Str} {sp : Sp} (F : FnOk P w K mg base CX k f fd ps sp) : FnG P w K mg base CX k f fd ps sp :=
  ⟨F.len, fun A outer s H args us vs Q E _ => F.run A outer s H args us vs Q E⟩
/-- the body's rule, guards told -/
theorem okG {x qual : Str} {st : Stmt} {f : Addr} {fd : FuncData} {N ps : List Str} {k : Nat} {sp : Sp} (F : Fun K x qual st f fd) (S : FnScope N ps (defScope st)) (len : ∀ vs H Q E, sp vs H Q E → vs.length = ps.length)
    (hbody : ∀ (cdv : Value) (A : Around) (outer : List Env) (s : Shared) (H : Hp) (vs : List V) (Q : VK) (E : XK), A.guards = some [] → Room k (A.deeper (envOfC qual (defScope st) s.heap.objs.size f cdv)) → sp vs H Q E →
      ∃ t, PSs (cxOf CX0 P w K mg base N qual (defScope st) f cdv A outer s H E).nox (defBody st) t ∧ t { nx := fun _ H' => Q .non H', rt := Q } (start N vs) H) :
    FnG P w K mg base CX0 (k + 1) f fd ps sp := by
  obtain ⟨oc, od, kV, doc, pm, an, cdv, ct, osl, rfl, lk, hcd⟩ := F.ex
  refine ⟨len, fun A outer s H args us vs Q E hg hr e0 hb r hsp => ?_⟩
  refine LamX.run_ofS lk hcd S hr e0 hb r (len _ _ _ _ hsp) fun hr' => ?_
  obtain ⟨t, h, q⟩ := hbody cdv A outer s H vs Q E hg hr' hsp
  exact ⟨t, h.nox, q⟩
end
/-! ### the law's own call, guards told -/
section
variable {P : Program} {w : World} {K : PySem.W.Frag} {mg mb : Str → Option Value} {k : Nat} {fa a : Addr} {fd : FuncData} {x : Str} {sp : Sp} {s : Shared} {vs : List Value} {ns : List Int}
/-- what the law's call has to leave -/
def LawEnd (s : Shared) (r : Result) (t : Shared) : Prop := r = .ok (.ret (.bool true)) ∧ OldK s.heap t.heap ∧ t.os = s.os ∧ AllBare t.gens
theorem lawG_of (KX : K.In s.heap) (G : s.heap.Ns mainGlobals mg) (B : s.heap.Ns builtinsNs mb) (BB : ∀ y : Str, y ≠ "__name__" → mb y = bootBuiltins y) (NL : s.heap.NoLimit) (g0 : s.gens = #[])
    (hr : Room k callerA) (F : ∀ base : Heap, K.In base → base.Ns mainGlobals mg → FnG P w K mg base CX0 k fa fd [x] sp) (bd : ∀ (t : Shared) (u : Value), BindsTo t fd ⟨[u], []⟩ [(x, u)])
    (H : Hp) (one : ∀ b u, H b = some u → b = a ∧ K.lookup a = none ∧ (∃ o xs, u = .frz o (.lst xs)) ∧ ∀ o es ep, s.heap.get? a = some o → o.data ≠ .dict es ep) (ok : HOk P w H s.heap)
    (pr : sp [.ref a] H (fun v _ => v = .bl true) fun _ _ _ => False) : codeAny (model P w) callerA (.call (.ref fa) ⟨[.ref a], []⟩) (LawEnd s) s := by
  have stay : ∀ {b : Addr} {o : Obj}, s.heap.get? b = some o → H b = none → (hidT s.heap H).get? b = some o := fun e n => hidT_get e n
  have nodict : ∀ {b : Addr} {m : Str → Option Value}, s.heap.Ns b m → (hidT s.heap H).Ns b m := by
    rintro b m ⟨o, es, ep, e, d, r⟩
    refine ⟨o, es, ep, stay e ?_, d, r⟩
    cases q : H b with
    | none => rfl
    | some u =>
      obtain ⟨rfl, _, _, nd⟩ := one b u q
      exact absurd d (nd o es ep e)
  have Kb : K.In (hidT s.heap H) := by
    intro b o e
    refine stay (KX b o e) ?_
    cases q : H b with
    | none => rfl
    | some u =>
      obtain ⟨rfl, z, _, _⟩ := one b u q
      rw [z] at e
      cases e
  obtain ⟨ml, l1, l2⟩ := NL
  have E0 : Env0 P w K mg (hidT s.heap H) callerA [] s H :=
    { frames := rfl
      mod := { kin := Kb, glob := nodict G, blt := ⟨mb, nodict B, BB⟩, nolimit := ⟨ml, nodict l1, l2⟩ }
      bs := fun b o e => of_hidT e
      bsz := Nat.le_of_eq (hidT_size _ _)
      funs := trivial
      frf := fun b hb => absurd hb (List.not_mem_nil)
      hok := ok
      bare := .of_eq g0 }
  refine codeAny_mono ((F _ Kb (nodict G)).go callerA [] s H ⟨[.ref a], []⟩ [.ref a] [.ref a] _ _ rfl hr E0 (bd s (.ref a)) (.cons rfl .nil) pr) ?_
  intro r t h
  match r, h with
  | .error e, h =>
    exact (show False from h).elim
  | .ok .next, h => exact False.elim h
  | .ok .brk, h => exact False.elim h
  | .ok .cont, h => exact False.elim h
  | .ok (.ret u), h =>
    obtain ⟨v, H', h1, h2, un, ok', rv, rfl⟩ := h
    cases rv
    refine ⟨rfl, OldK.of_keep fun b o e => ?_, h1, h2⟩
    cases q : H b with
    | none => exact un.keep b o e q List.not_mem_nil List.not_mem_nil
    | some u =>
      obtain ⟨rfl, _, ⟨ob, xs, rfl⟩, _⟩ := one b u q
      have e1 := (ok b _ q).1
      have e2 := (ok' b _ (un.frzs b ob _ q)).1
      rw [e] at e1
      cases e1
      exact e2
theorem lawG (KX : K.In s.heap) (G : s.heap.Ns mainGlobals mg) (B : s.heap.Ns builtinsNs mb) (BB : ∀ y : Str, y ≠ "__name__" → mb y = bootBuiltins y) (NL : s.heap.NoLimit) (g0 : s.gens = #[])
    (ha : s.heap.get? a = some { cls := .type "list", data := .seq vs.toArray }) (hi : IntsAre vs ns) (hl : ns.length ≤ sizeLine)
    (hr : Room k callerA) (F : ∀ base : Heap, K.In base → base.Ns mainGlobals mg → FnG P w K mg base CX0 k fa fd [x] sp) (bd : ∀ (t : Shared) (u : Value), BindsTo t fd ⟨[u], []⟩ [(x, u)])
    (pr : ∀ H : Hp, Only H → SqL K H a (ns.map V.int) → sp [.ref a] H (fun v _ => v = .bl true) fun _ _ _ => False) : codeAny (model P w) callerA (.call (.ref fa) ⟨[.ref a], []⟩) (LawEnd s) s := by
  have rv := vals_ints hi
  have lv := hi.length
  have nd : ∀ o es ep, s.heap.get? a = some o → o.data ≠ .dict es ep := by
    intro o es ep e d
    rw [ha] at e
    cases e
    cases d
  cases hk : K.lookup a with
  | some o =>
    have e := KX a o hk
    rw [ha] at e
    cases e
    have z : ∀ (b : Addr) (u : HO), (none : Option HO) = some u → False := fun _ _ q => nomatch q
    refine lawG_of KX G B BB NL g0 hr F bd (fun _ => none) (fun b u q => (z b u q).elim) (fun b u q => (z b u q).elim) (pr _ (fun _ => .inl rfl) (.inr ⟨_, vs.toArray, _, hk, rfl, rfl, rfl, ?_, by simpa using rv⟩))
    rw [List.size_toArray, lv]
    exact hl
  | none =>
    let o0 : Obj := { cls := .type "list", data := .seq vs.toArray }
    let Ha : Hp := fun b => if b = a then some (.frz o0 (.lst (ns.map V.int))) else none
    have at_a : Ha a = some (.frz o0 (.lst (ns.map V.int))) := if_pos rfl
    have but : ∀ b u, Ha b = some u → b = a ∧ u = .frz o0 (.lst (ns.map V.int)) := by
      intro b u q
      by_cases hb : b = a
      · subst hb
        rw [at_a] at q
        exact ⟨rfl, (Option.some.inj q).symm⟩
      · have q' : (none : Option HO) = some u := (if_neg hb).symm.trans q
        cases q'
    refine lawG_of KX G B BB NL g0 hr F bd Ha (fun b u q => ?_) (fun b u q => ?_) (pr _ (fun b => ?_) (.inl (.inr ⟨o0, at_a⟩)))
    · obtain ⟨e1, e2⟩ := but b u q
      exact ⟨e1, hk, ⟨_, _, e2⟩, nd⟩
    · obtain ⟨rfl, rfl⟩ := but b u q
      exact ⟨ha, by rw [List.length_map]; exact hl, vs, _, rv, ha⟩
    · by_cases hb : b = a
      · exact .inr ⟨_, _, by rw [hb]; exact at_a⟩
      · exact .inl (if_neg hb)
end
open PySem.W in
/-- the goal that the head leaves -/
theorem walkG {l : OpenLaw} {n k : Nat} {q : Program} {loose : List Str} {XP : (Str → Option Value) → Heap → Prop} {YP : World → Heap → Prop} {d : DefRec} {K : Params → Frag} {sp : Frag → Sp} {x : Str}
    (hn : l.most = some n) (hz : n ≤ sizeLine) (h0 : d.params.defaults = []) (hr : Room k callerA) (hY : ∀ (w : World) (h : Heap), YP w h → (K w.params).In h)
    (F : ∀ (w : World) (mg : Str → Option Value) (fa : Addr) (h : Heap), (K w.params).In h → h.Ns mainGlobals mg → mg d.name = some (.ref fa) → ∃ fd : FuncData,
      (∀ (t : Shared) (u : Value), BindsTo t fd ⟨[u], []⟩ [(x, u)]) ∧ ∀ base : Heap, (K w.params).In base → base.Ns mainGlobals mg → FnG l.prog w (K w.params) mg base CX0 k fa fd [x] (sp (K w.params)))
    (pr : ∀ (K : Frag) (H : Hp) (a : Addr) (ns : List Int), ns.length ≤ n → Only H → SqL K H a (ns.map V.int) → sp K [.ref a] H (fun v _ => v = .bl true) fun _ _ _ => False) :
    WalkO q loose XP YP l.row.toRowW d [] (fun f us => PySem.call f us) := by
  refine Att.attach_call hn h0 ?_
  intro w s₀ s₁ mg mb fa o pm cd doc a us ns G Y ho hd hcd hm hobj hints hlen hg
  obtain ⟨fd, hb, hF⟩ := F w mg fa _ (hY w _ Y) G.T.g hm
  exact lawG (hY w _ Y) G.T.g G.T.b G.T.builtins G.T.nolimit hg hobj hints (Nat.le_trans hlen hz) hr hF hb fun H hO hS => pr _ H a ns hlen hO hS
end Kx
namespace Kx
open PySem PySem.Spec PyProof.Rows L2 SX
/-! ### heaps -/
theorem same_new {H : Hp} {p : Addr} {o : HO} (h : H p = none) : Same H (upd H p o) := fun b u e => by
  rw [upd_ne (ne_of_none e h)]
  exact e
theorem Same.t {K : PySem.W.Frag} {H H' : Hp} {a : Addr} {xs : List V} (e : Same H H') (h : SqT K H a xs) : SqT K H' a xs := by
  rcases h with (h | ⟨o, h⟩) | h
  · exact .inl (.inl (e _ _ h))
  · exact .inl (.inr ⟨o, e _ _ h⟩)
  · exact .inr h
/-- a list or a tuple -/
def SqQ (K : PySem.W.Frag) (H : Hp) (a : Addr) (xs : List V) : Prop := SqL K H a xs ∨ SqT K H a xs
theorem Same.q {K : PySem.W.Frag} {H H' : Hp} {a : Addr} {xs : List V} (e : Same H H') (h : SqQ K H a xs) : SqQ K H' a xs := h.imp e.seq (Same.t e)
theorem tyL {K : PySem.W.Frag} {H : Hp} {a : Addr} {xs : List V} (h : SqL K H a xs) : TyX K H (.ref a) (.type "list") := by
  rcases h with (h | ⟨o, h⟩) | ⟨o, vs, n, h, hc, _⟩
  · exact .base (.lst h)
  · exact .base (.frz h)
  · exact .kList h hc
theorem tyT {K : PySem.W.Frag} {H : Hp} {a : Addr} {xs : List V} (h : SqT K H a xs) : TyX K H (.ref a) (.type "tuple") := by
  rcases h with (h | ⟨o, h⟩) | ⟨o, vs, n, h, hc, _⟩
  · exact .base (.tup h)
  · exact .fTuple h
  · exact .kTuple h hc
theorem kit_at {K : PySem.W.Frag} {n : String} {a b : Bool} (h1 : kitB n "list" = some a) (h2 : kitB n "tuple" = some b) : PySem.W.kitAny K (.type n) [.type "list", .type "tuple"] = some (a || b) := by
  refine kitAny_cons (kit_ty h1) (fun e => ?_) (fun e => by rw [e]; rfl)
  rw [e, Bool.false_or]
  exact kitAny_cons (kit_ty h2) (fun e => by rw [e]; exact kitAny_nil) (fun e => e)
theorem isl_q {K : PySem.W.Frag} {H : Hp} {a : Addr} {xs : List V} (h : SqQ K H a xs) : ∃ n, TyX K H (.ref a) (.type n) ∧ PySem.W.kitAny K (.type n) [.type "list", .type "tuple"] = some true := by
  rcases h with h | h
  · exact ⟨_, tyL h, kit_at (a := true) (b := false) (by decide +kernel) (by decide +kernel)⟩
  · exact ⟨_, tyT h, kit_at (a := false) (b := true) (by decide +kernel) (by decide +kernel)⟩
theorem ix_q {K : PySem.W.Frag} {H : Hp} {a : Addr} {xs : List V} {i : Int} {v : V} {Q : VK} (h : SqQ K H a xs) (hv : atI xs i = some v) (q : Q v H) : rIx K (.ref a) (.int i) H Q := by
  rcases h with h | h
  · exact .inl ⟨a, xs, i, v, rfl, rfl, h, hv, q⟩
  · exact .inr (.inl ⟨a, xs, i, v, rfl, rfl, h, hv, q⟩)
/-- is it data of this form, whatever tracks it -/
theorem dp_same {K : PySem.W.Frag} {H H' : Hp} (e : Same H H') : ∀ (d : PyData) (v : V), Dp K H v d → Dp K H' v d := by
  intro d v h
  exact Dp.rec (motive_1 := fun v d _ => Dp K H' v d) (motive_2 := fun vs ds _ => DpAll K H' vs ds) .non .bl .int .str (fun h _ i => .lst (e.seq h) i) (fun h _ i => .tup (Same.t e h) i) .nil (fun _ _ a b => .cons a b) h
end Kx
namespace Kx
open PySem PySem.Spec PyProof.Rows L2 SX
theorem iteC {c : Bool} {A B : Prop} (h1 : c = true → A) (h2 : c = false → B) : if c = true then A else B := by
  cases c with
  | true => exact iteT (h1 rfl)
  | false => exact iteF (h2 rfl)
/-! ### letters and signs -/
def low (c : Nat) : Bool := decide (97 ≤ c) && decide (c ≤ 122)
def lowB (l : List Nat) : Bool := !l.isEmpty && l.all low
def sg (c : Nat) : Bool := decide (c = 32) || low c
def textB (l : List Nat) : Bool := decide (l.length ≤ 200000) && l.all sg
theorem ascii1 : (List.range 128).all (fun c => (if Unicode.isAlpha c then (Unicode.isLower c && !(Unicode.isUpper c || Unicode.isTitle c)) == low c && ((Unicode.isLower c && !(Unicode.isUpper c || Unicode.isTitle c)) || (Unicode.isUpper c || Unicode.isTitle c)) else !low c)) = true := by decide +kernel
theorem ascii2 (c : Nat) (h : c < 128) : (Unicode.isAlpha c = true → ((Unicode.isUpper c || Unicode.isTitle c) = !low c) ∧ (low c = true → Unicode.isLower c = true)) ∧ (low c = true → Unicode.isAlpha c = true) := by
  have z := List.all_eq_true.mp ascii1 c (List.mem_range.mpr h)
  cases ha : Unicode.isAlpha c <;> cases hl : Unicode.isLower c <;> cases hu : (Unicode.isUpper c || Unicode.isTitle c) <;> cases hw : low c <;> simp_all
theorem low_lt {c : Nat} (h : low c = true) : c < 128 := by
  unfold low at h
  simp only [Bool.and_eq_true, decide_eq_true_eq] at h
  omega
theorem letters_S (l : List Nat) : (Txt.isascii (S l) && (Txt.isalpha (S l) && Txt.islower (S l))) = lowB l := by
  have ea : ∀ p : Nat → Bool, (S l).cps.all p = l.all p := fun p => by simp
  have ey : ∀ p : Nat → Bool, (S l).cps.any p = l.any p := fun p => by simp
  unfold Txt.isascii Txt.isalpha Txt.islower lowB
  rw [ea, ea, ey, ey, S_len]
  cases l with
  | nil => rfl
  | cons d r =>
    have e0 : decide ((d :: r).length > 0) = true := by simp
    rw [e0, Bool.true_and]
    rw [Bool.eq_iff_iff]
    simp only [Bool.and_eq_true, List.all_eq_true, decide_eq_true_eq, List.any_eq_true, Bool.not_eq_true', List.isEmpty_cons, Bool.not_false, true_and]
    constructor
    · rintro ⟨h1, h2, _, h4⟩ c hc
      have k := (ascii2 c (h1 c hc)).1 (h2 c hc)
      have n : (Unicode.isUpper c || Unicode.isTitle c) = false := by
        cases q : (Unicode.isUpper c || Unicode.isTitle c) with
        | false => rfl
        | true =>
          rw [List.any_eq_false] at h4
          exact absurd q (h4 c hc)
      rw [n] at k
      simpa using k.1
    · intro h
      refine ⟨fun c hc => low_lt (h c hc), fun c hc => (ascii2 c (low_lt (h c hc))).2 (h c hc), ⟨d, List.mem_cons_self, ?_⟩, ?_⟩
      · have hd := h d List.mem_cons_self
        exact ((ascii2 d (low_lt hd)).1 ((ascii2 d (low_lt hd)).2 hd)).2 hd
      · rw [List.any_eq_false]
        intro c hc q
        have hd := h c hc
        have k := ((ascii2 c (low_lt hd)).1 ((ascii2 c (low_lt hd)).2 hd)).1
        rw [q, hd] at k
        cases k
end Kx
namespace Kx
open PySem PySem.Spec PyProof.Rows L2 SX
/-! ### an exception that a name keeps behind the suite -/
/-- at a: an exception of the class cls, its own dict at d -/
def exT (a : Addr) (cls : Value) (d : Option Addr) : HO := .ext fun h => ∃ (oe : Obj) (vs : Array Value), h.get? a = some oe ∧ Zc cls d oe ∧ oe.data = .fields vs
section
variable {X : Cx} {pn0 : List (Addr × Obj)} {σ : L2.St} {H : Hp} {s : Shared} {a : Addr} {oe : Obj} {cls : Value} {d : Option Addr}
theorem exT_ne (o : HO) (h : ∀ φ, o ≠ .ext φ) : exT a cls d ≠ o := fun z => h _ z.symm
/-- what stands pinned in the suite is tracked behind it -/
theorem Inv.track {vs : Array Value} (I : Inv X pn0 σ H s) (ha : s.heap.get? a = some oe) (hz : Zc cls d oe) (hd : oe.data = .fields vs) (na : H a = none) (new0 : X.s_0.heap.get? a = none) (nL : a ≠ X.env.locals)
    (np : ∀ p ∈ X.pn ++ pn0, p.1 ≠ a) : Inv X pn0 σ (upd H a (exT a cls d)) s := by
  have off : ∀ {b : Addr} {u : HO}, H b = some u → upd H a (exT a cls d) b = some u := fun {b u} e => by
    rw [upd_ne (ne_of_none e na)]
    exact e
  have un : ∀ {b : Addr}, b ≠ a → H b = none → upd H a (exT a cls d) b = none := fun {b} n e => by
    rw [upd_ne n]
    exact e
  have old : ∀ {b : Addr} {o : Obj}, X.s_0.heap.get? b = some o → b ≠ a := fun {b o} e z => by
    rw [z, new0] at e
    cases e
  exact
    { ok := I.ok
      os := I.os
      bare := I.bare
      base :=
        { keep := I.base.keep
          slot := I.base.slot
          free := fun b o e n x => un (old e) (I.base.free b o e n x)
          there := I.base.there
          tups := fun b xs e => off (I.base.tups b xs e)
          frzs := fun b o u e => off (I.base.frzs b o u e)
          tbls := fun b ps e => by
            obtain ⟨m, q⟩ := I.base.tbls b ps e
            exact ⟨m, off q⟩ }
      loc := I.loc
      cell := I.cell
      free := un (Ne.symm nL) I.free
      freeC := fun y c e => by
        refine un (fun z => ?_) (I.freeC y c e)
        obtain ⟨v, o, e1, e2⟩ := I.cell y c e
        rw [z, ha] at e1
        cases e1
        rw [hd] at e2
        cases e2
      pin := fun p hp => by
        obtain ⟨e, n, r⟩ := I.pin p hp
        exact ⟨e, un (np p hp) n, r⟩
      hok := HOk.laidN (P := X.prog) (w := X.w) I.hok (fun _ _ e => e) na ⟨⟨oe, vs, ha, hz, hd⟩, ⟨oe, ha⟩, fun h1 h2 z k => by
        obtain ⟨o, v, e1, e2⟩ := z
        exact ⟨o, v, k _ e1, e2⟩⟩
      len := I.len }
end
/-- what «try: .. except x as n: y = n» wishes of an exception: it is one of x's; y keeps it -/
def wKeep (K : PySem.W.Frag) (n : Nat) (c : Value) (i j : Nat) (D : Ends) : WX := fun cls d σ H =>
  PySem.W.exmOne K cls c = some true ∧ ∀ a, H a = none → σ.length = n → D.nx ((((σ.set i (some (.ref a))).set j (some (.ref a)))).set i none) (upd H a (exT a cls d))
section
variable {X : Cx} {x n y : Str} {c : Value} {i j : Nat} {body : List Stmt} {p1 p2 p3 np pos pos' : Pos} {tb : WX → TS}
theorem ps_keep (hs : X.stack = X.env :: X.outer) (hex : X.ex = []) (hf : X.env.frame = some X.env.locals) (hN : X.N.Nodup) (hi : X.N[i]? = some n) (hln : X.env.kindOf n = some .local) (hlv : X.env.scope.names.lookup n = some .local)
    (hj : X.N[j]? = some y) (hlj : X.env.scope.names.lookup y = some .local) (hc : Names X x c) (hdb : (n == ("__debug__" : Str)) = false) (hdc : (n == ("__classdict__" : Str)) = false)
    (hb : ∀ (W : WX) (pn : List (Addr × Obj)) (xe : Value → Shared → Prop), Takes (X.tr pn xe) W → PassesOwn (model X.prog X.w) X.A X.env xe → PSs (X.tr pn xe) body (tb W)) :
    PS X (.Try body [.ExceptHandler (some (.Name x np)) (some n) [.Assign [.Name y p1] (.Name n p2) p3] pos'] [] [] pos) (fun D σ H => tb (wKeep X.K X.N.length c i j D) D σ H) := by
  refine ⟨fun pn0 s σ H D I h => ?_⟩
  have ok := I.ok
  have fr : X.A.frames = some (X.env :: X.outer) := by rw [ok.frames, hs]
  apply wpAny_Try_except
  have run := hb (wKeep X.K X.N.length c i j D) (X.pn ++ pn0)
    (fun e t1 => wpAny (model X.prog X.w) X.A (noteFrame e X.env)
      (fun _ t2 => wpAny (model X.prog X.w) X.A (setFlight e none)
        (fun _ t3 => wpAny (model X.prog X.w) X.A (handleBy e X.env [.ExceptHandler (some (.Name x np)) (some n) [.Assign [.Name y p1] (.Name n p2) p3] pos']) (SP X pn0 D) X.xe t3) X.xe t2) X.xe t1) ?take PassesOwn.looking
  case take =>
    rintro u t ⟨a, B, sI, pins', σ', H', cls, d, rfl, J', nb, up, sky, na, os, ag, isOne, hend⟩
    have Jb : Inv X pn0 σ' H' sI := J'.ofTry ok
    rw [show (X.tr (X.pn ++ pn0) _).stack = X.env :: X.outer from hs] at sky
    show wpAny (model X.prog X.w) X.A (noteFrame (.ref a) X.env) _ _ _
    refine Sky.land Zc.steady fr hf sky (fun h3 fl up3 => ?_)
    have J3 : Inv X pn0 σ' H' { t with heap := h3 } := Jb.landed nb fl.1 (up.trans up3) os ag
    have Bn := fl.2.1
    obtain ⟨oz3, vz3, at3, zc3, dt3⟩ := fl.there
    have out : a ∉ frs (X.env :: X.outer) := by
      intro hm
      obtain ⟨_, o', e', hnf⟩ := fl.2.2.1.mem hm
      rw [at3] at e'
      cases e'
      exact hnf _ dt3
    have nL : a ≠ X.env.locals := fun z => out (List.mem_filterMap.mpr ⟨X.env, List.mem_cons_self, by rw [hf, z]⟩)
    have nF : a ∉ X.fs := by
      intro hm
      obtain ⟨e, hme, q⟩ := List.mem_filterMap.mp hm
      exact out (List.mem_filterMap.mpr ⟨e, List.mem_cons_of_mem _ hme, q⟩)
    have gone : ∀ {b : Addr} {o : Obj}, sI.heap.get? b = some o → b ≠ a := by
      intro b o e z
      rw [z] at e
      have q := nb a o e (by rw [hs]; exact out)
      rw [Bn] at q
      cases q
    have new0 : X.s_0.heap.get? a = none := by
      cases q : X.s_0.heap.get? a with
      | none => rfl
      | some o =>
        obtain ⟨o', e'⟩ := Jb.base.there a o q (by rw [hex]; exact List.not_mem_nil)
        exact absurd rfl (gone e')
    have np0 : ∀ p ∈ X.pn ++ pn0, p.1 ≠ a := fun p hp => gone (Jb.pin p hp).1
    have In3 := J3.suite at3 dt3 na nL nF
    refine wpAny_handleBy_cons (codeAny_handlers_test ?_) (by intro q; cases q)
    have lookT : PySem.W.Looks (model X.prog X.w) h3 (typeOf (.ref a)) cls := fun A Q E s k q => wpAny_typeOf_ref (k _ _ at3) (by rw [zc3.1]; exact q)
    have LM := PySem.W.exm_one (M := model X.prog X.w) J3.kIn lookT isOne
    have named : ∀ {Q E : Value → Shared → Prop}, Q c { t with heap := h3 } → wpAny (model X.prog X.w) (X.A.mark (some (.ref a))) (eval (.Name x np) X.env) Q E { t with heap := h3 } := by
      intro Q E q
      obtain ⟨g, gd, g2⟩ := hc
      rcases g2 with m | ⟨m, v, nn⟩
      · exact ld_glob (X := X.suite a ((a, oz3) :: (X.pn ++ pn0))) In3 g m q gd
      · exact ld_blt (X := X.suite a ((a, oz3) :: (X.pn ++ pn0))) In3 g m v q nn gd
    refine named (LM.here ?_)
    refine codeAny_handlers_suite_as (HandSPX.lands_againZ fl fun h4 flr up4 => ?_)
    have J4 : Inv X pn0 σ' H' { t with heap := h4 } := Jb.landed nb flr.1 ((up.trans up3).trans up4) os ag
    obtain ⟨oz4, vz4, at4, zc4, dt4⟩ := flr.there
    have In4 := J4.suite at4 dt4 na nL nF
    refine store_ok (X := X.suite a ((a, oz4) :: (X.pn ++ pn0))) (v := .ref a) In4 hN hi (.inl hlv) rfl (fun s5 S5 => ?_) (.inr hlv)
    have il : i < σ'.length := by
      rw [In4.len]
      exact (List.getElem?_eq_some_iff.mp hi).1
    have suite : PSs (X.suite a ((a, oz4) :: (X.pn ++ pn0))) [.Assign [.Name y p1] (.Name n p2) p3] (tAsg (tVar i) (gName j)) :=
      pss_one (ps_set hN hj (.inl hlj) (pe_var hi (.inl hlv) hdb hdc) rfl (.inr hlj))
    refine wpAny_mono (suite.run [] s5 _ H' { nx := fun σ6 H6 => σ6 = (σ'.set i (some (.ref a))).set j (some (.ref a)) ∧ H6 = H', rt := fun _ _ => False, bk := fun _ _ => False, ct := fun _ _ => False } S5 ⟨_, List.getElem?_set_self il, rfl, rfl⟩) (fun f s6 q => ?_) (fun _ _ z => False.elim z)
    match f, q with
    | .ret _, q =>
      obtain ⟨_, _, _, _, _, z⟩ := q
      exact False.elim z
    | .brk, q =>
      obtain ⟨_, _, _, z⟩ := q
      exact False.elim z
    | .cont, q =>
      obtain ⟨_, _, _, z⟩ := q
      exact False.elim z
    | .next, q =>
      obtain ⟨σ6, H6, S6, rfl, rfl⟩ := q
      have pin := S6.pin (a, oz4) List.mem_cons_self
      have J6 : Inv X pn0 _ _ s6 := S6.unsuite ok
      have J7 := Kx.Inv.track J6 pin.1 zc4 dt4 na new0 nL np0
      refine gone_ok J7 hN hi hln fun s8 J8 => ⟨_, _, J8, hend a na Jb.len⟩
  refine wpAny_mono (run.run [] s σ H D (I.toTry _) h) (fun f s1 q => ?_) fun _ _ z => z
  match f, q with
  | .next, q =>
    obtain ⟨σ', H', J', z⟩ := q
    exact wpAny_execs_nil ⟨σ', H', J'.ofTry ok, z⟩
  | .brk, q =>
    obtain ⟨σ', H', J', z⟩ := q
    exact ⟨σ', H', J'.ofTry ok, z⟩
  | .cont, q =>
    obtain ⟨σ', H', J', z⟩ := q
    exact ⟨σ', H', J'.ofTry ok, z⟩
  | .ret u, q =>
    obtain ⟨v, σ', H', J', r, z⟩ := q
    exact ⟨v, σ', H', J'.ofTry ok, r, z⟩
end
end Kx
namespace Kx
open PySem PySem.Spec PyProof.Rows L2 SX LamX
section
variable {X : Cx} {pn0 : List (Addr × Obj)} {σ : L2.St} {H HZ : Hp} {s sB : Shared}
abbrev lamQ (X : Cx) : Str := X.env.qual ++ "<lambda>"
/-- the lambda as an object, its defaults at dV -/
abbrev lamObj (X : Cx) (params : Arguments) (body : Expr) (scp : Scope) (dV doc pm : Value) (c' : Addr) (ctv : Value) : Obj := PySem.W.kdv_obj "<lambda>" (lamQ X) params (.expr body) scp (cloFrom X.env.cells scp.names []) dV doc pm c' ctv
/-- what the making leaves -/
def Made (X : Cx) (pn0 : List (Addr × Obj)) (σ : L2.St) (H : Hp) (T : List (Addr × Str)) (params : Arguments) (body : Expr) (scp : Scope) (dV : Value) (s0 : Shared) (v : Value) (s' : Shared) : Prop :=
  ∃ (f c' : Addr) (doc pm ctv : Value) (H1 : Hp), v = .ref f ∧ Inv X pn0 σ H1 s' ∧ ExtN H H1 ∧ Tabs T H1 ∧ s'.heap.get? f = some (lamObj X params body scp dV doc pm c' ctv) ∧ H1 f = none ∧ f ∉ frs X.stack ∧ H1 c' = some (CodeO c' (lamQ X)) ∧
    (∀ b o, s0.heap.get? b = some o → (∀ pz, H b ≠ some (.tbl pz)) → s'.heap.get? b = some o) ∧ (∀ b, b < s0.heap.objs.size → H b = none → H1 b = none)
theorem lam_tail {T : List (Addr × Str)} {c P : Addr} {params : Arguments} {body : Expr} {scp : Scope} {pos : Pos} {ln : Nat} {dV : Value} {E : Value → Shared → Prop} (I : Inv X pn0 σ H s) (TB : TabB X.base X.mg c P) (hcode : X.env.code = .ref c)
    (hm : (P, lamQ X) ∈ T) (onlyP : ∀ p ∈ T, p.1 = P → p.2 = lamQ X) (hT : Tabs T H) (hfree : ∀ y ∈ scp.names, y.2 = .free → ∃ c, X.env.cells.lookup y.1 = some c) :
    wpAny (model X.prog X.w) X.A (makeTail "<lambda>" (lamQ X) params (.expr body) scp X.env dV .none none pos ln) (Made X pn0 σ H T params body scp dV s) E s := by
  obtain ⟨pz, eP, tr3, amg⟩ := hT _ hm
  have btP : s.heap.BuiltinsAt X.mg P := TB.bm.keeps I.bk
  have hP' : s.heap.get? P = some { cls := .none, data := .fields pz } := I.hok P _ eP
  have nofr : ∀ f, s.heap.objs.size ≤ f → f ∉ frs X.stack := by
    intro f hf z
    rcases List.mem_cons.mp (I.stkSub _ z) with e | e
    · have h1 := I.lt
      rw [← e] at h1
      exact absurd (Nat.lt_of_lt_of_le h1 hf) (Nat.lt_irrefl _)
    · exact I.nofs hf e
  cases fnd : codeAmong pos pz.toList with
  | none =>
    refine PySem.W.kdv_makeTail (mg := X.mg) (c := c) (P := P) (ps := pz) (closure_ok hfree) I.ok.glob (I.mod.glob.keeps I.bk) hcode (TB.code.keeps I.bk) hP' tr3 fnd TB.gP btP fun c' ctv doc h' tk stP gec ltc rcc tbb => ?_
    obtain ⟨cc2, oc, vs, t, e2, ocE, hd, ovE⟩ := rcc
    cases e2
    have szle : s.heap.objs.size ≤ h'.objs.size := Nat.le_trans gec (Nat.le_of_lt ltc)
    have ncn : H c' = none := I.hok.fresh gec
    have up : ∀ b o, b ≠ P → s.heap.get? b = some o → (h'.push (lamObj X params body scp dV doc ((X.mg "__name__").getD .none) c' ctv)).get? b = some o := fun b o hb e => Heap.get?_push_of_some _ (stP b o hb e)
    have I1 := inv_table (t' := tk) (more := #[rawInt pos.line, rawInt pos.col, .ref c']) (h' := h'.push (lamObj X params body scp dV doc ((X.mg "__name__").getD .none) c' ctv)) I eP up (Heap.get?_push_of_some _ tbb) gec ⟨oc, vs, t, Heap.get?_push_of_some _ ocE, hd, ovE⟩
    have exE : ExtN H (upd (upd H P (.tbl (pz ++ #[rawInt pos.line, rawInt pos.col, .ref c']))) c' (CodeO c' (lamQ X))) := by
      intro b o e n
      rw [upd_ne (ne_of_none e ncn), upd_ne (fun z => n pz (Option.some.inj (e.symm.trans (by rw [z]; exact eP))))]
      exact e
    have ell : (pz ++ #[rawInt pos.line, rawInt pos.col, .ref c']).toList = pz.toList ++ [rawInt pos.line, rawInt pos.col, .ref c'] := by simp
    refine ⟨h'.objs.size, c', doc, _, ctv, _, rfl, I1, exE, fun p hp => ?_, Heap.get?_push_size _ rfl, ?_, nofr _ szle, upd_same, fun b o e n => up b o (fun z => n pz (by rw [z]; exact eP)) e, fun b hb n => ?_⟩
    · by_cases hb : p.1 = P
      · rw [onlyP p hp hb, hb]
        refine ⟨_, by rw [upd_ne (ne_of_none eP ncn), upd_same], by rw [ell]; exact PySem.TriplesOk_snoc _ _ _ _ tr3, fun p' cwv cvE => ?_⟩
        rw [ell] at cvE
        rcases among_app _ tr3 cvE with z | z
        · obtain ⟨cq, e1, e2⟩ := amg p' cwv z
          exact ⟨cq, e1, exE _ _ e2 codeO_ne⟩
        · exact ⟨c', z, upd_same⟩
      · obtain ⟨ps', a1, a2, a3⟩ := hT p hp
        refine ⟨ps', by rw [upd_ne (ne_of_none a1 ncn), upd_ne hb]; exact a1, a2, fun p' cwv cvE => ?_⟩
        obtain ⟨cq, e1, e2⟩ := a3 p' cwv cvE
        exact ⟨cq, e1, exE _ _ e2 codeO_ne⟩
    · rw [upd_ne (Nat.ne_of_gt ltc), upd_ne (Nat.ne_of_gt (Nat.lt_of_lt_of_le (Heap.lt_size hP') szle))]
      exact I.hok.fresh szle
    · have n1 : b ≠ c' := Nat.ne_of_lt (Nat.lt_of_lt_of_le hb gec)
      have n2 : b ≠ P := fun z => by
        rw [z, eP] at n
        cases n
      rw [upd_ne n1, upd_ne n2]
      exact n
  | some cwv =>
    obtain ⟨c', e, hco⟩ := amg pos cwv fnd
    subst e
    refine PySem.W.kdv_makeTailHit (mg := X.mg) (c := c) (P := P) (ps := pz) (closure_ok hfree) I.ok.glob (I.mod.glob.keeps I.bk) hcode (TB.code.keeps I.bk) hP' tr3 fnd btP fun ctv doc h' tk stP szle => ?_
    refine ⟨h'.objs.size, c', doc, (X.mg "__name__").getD .none, ctv, H, rfl, I.kept fun b o e => Heap.get?_push_of_some _ (stP b o e), ExtN.refl H, hT, Heap.get?_push_size _ rfl, I.hok.fresh szle, nofr _ szle, hco, fun b o e _ => Heap.get?_push_of_some _ (stP b o e), fun _ _ n => n⟩
/-- .. with one default, 0 -/
theorem lam_makeD {T : List (Addr × Str)} {c P : Addr} {params : Arguments} {body : Expr} {scp : Scope} {pos cp : Pos} {j : Nat} {E : Value → Shared → Prop} {Qw : Value → Shared → Prop} (I : Inv X pn0 σ H s) (TB : TabB X.base X.mg c P) (hcode : X.env.code = .ref c)
    (hm : (P, lamQ X) ∈ T) (onlyP : ∀ p ∈ T, p.1 = P → p.2 = lamQ X) (hT : Tabs T H) (hfree : ∀ y ∈ scp.names, y.2 = .free → ∃ c, X.env.cells.lookup y.1 = some c)
    (hp : params.defaults = [.Constant (.int 0) j cp]) (hk : params.kw_defaults = [])
    (h : ∀ (t f c' : Addr) (tk : Tok) (doc pm ctv : Value) (H1 : Hp) (s' : Shared), Inv X pn0 σ H1 s' → ExtN H H1 → Tabs T H1 → s'.heap.get? t = some (PySem.W.kdv_tup [.int 0 tk]) → H1 t = none → t ∉ frs X.stack →
      s'.heap.get? f = some (lamObj X params body scp (.ref t) doc pm c' ctv) → H1 f = none → f ∉ frs X.stack → H1 c' = some (CodeO c' (lamQ X)) → Qw (.ref f) s') :
    wpAny (model X.prog X.w) X.A (eval (.Lambda params body scp pos) X.env) Qw E s := by
  refine PySem.W.kdv_lam (by rw [hp]; rfl) hk ?_
  rw [hp]
  refine PySem.W.kdv_all1 (thn ((pe_int (X := X) (i := 0) (j := j) (pos := cp)).run pn0 s σ H (fun v H1 => v = .int 0 ∧ H1 = H) I ⟨rfl, rfl⟩) fun u sB ⟨v, H1, I1, r, e1, e2⟩ => ?_)
  subst e1 e2
  obtain ⟨tk, rfl⟩ := r
  refine PySem.W.kdv_all0 ?_
  rw [makeFunction_eq]
  simp only [List.zip_nil_right, List.filterMap_nil, List.isEmpty_nil, if_true, pure_bind, List.isEmpty_cons, Bool.false_eq_true, if_false]
  refine wpAny_bind (wpAny_newTextTuple ?_)
  have fresh : H1 sB.heap.objs.size = none := I1.hok.fresh (Nat.le_refl _)
  have off : sB.heap.objs.size ∉ frs X.stack := by
    intro z
    rcases List.mem_cons.mp (I1.stkSub _ z) with e | e
    · exact absurd I1.lt (by rw [← e]; exact Nat.lt_irrefl _)
    · exact I1.nofs (Nat.le_refl _) e
  have I2 : Inv X pn0 σ H1 { sB with heap := sB.heap.push (PySem.W.kdv_tup [.int 0 tk]) } := I1.kept (t' := sB.toks) fun b o e => Heap.get?_push_of_some _ e
  refine thn (lam_tail I2 TB hcode hm onlyP hT hfree) fun v s2 ⟨f, c', doc, pm, ctv, H2, ev, I3, eN, T3, hf, nf, off2, hco, keep, fr⟩ => ?_
  subst ev
  refine h sB.heap.objs.size f c' tk doc pm ctv H2 s2 I3 eN T3 (keep _ _ (Heap.get?_push_size _ rfl) fun pz z => ?_) (fr _ ?_ fresh) off hf nf off2 hco
  · rw [fresh] at z
    cases z
  · show sB.heap.objs.size < (sB.heap.push _).objs.size
    rw [Heap.size_push]
    exact Nat.lt_succ_self _
/-! ### its body -/
/-- one parameter, z, with a default; else captured names and globals -/
structure LamP (sc scp : Scope) (z : Str) : Prop where
  kind : scp.kind = .function
  co : scp.isCoroutine = false
  gen : scp.isGenerator = false
  own : ∀ y ∈ scp.names, y.2 ≠ .cell ∧ (y.2 = .local → y.1 = z)
  par : scp.names.lookup z = some .local
  free : ∀ y ∈ scp.names, y.2 = .free → sc.names.lookup y.1 = some .cell ∨ sc.names.lookup y.1 = some .free
theorem LamP.has {X : Cx} {scp : Scope} {z : Str} (L : LamP X.env.scope scp z) (ok : X.Ok) : ∀ y ∈ scp.names, y.2 = .free → ∃ c, X.env.cells.lookup y.1 = some c := fun y hy e => ok.has _ ((L.free y hy e).imp id id)
/-- the slots' names without z -/
def hideN (z : Str) (N : List Str) : List Str := N.map fun y => if y = z then ("%" : Str) else y
/-- the context of such a body -/
def lamCxD (X : Cx) (A : Around) (outer : List Env) (s : Shared) (H : Hp) (E : XK) (scp : Scope) (z : Str) (f c' : Addr) : Cx := { lamCx X A outer s H E scp f c' with N := hideN z X.N }
theorem lam_startD {A : Around} {outer : List Env} {E : XK} {scp : Scope} {z : Str} {f c' : Addr} {h₁ : Heap} {tk : Nat} {u : Value} (I : Inv X pn0 σ H s) (L : LamP X.env.scope scp z) (hz : scp.names.lookup ("%" : Str) = none) (e0 : Env0 X.prog X.w X.K X.mg X.base A outer sB HZ)
    (hd : A.handled = none) (un : Un (frs X.stack) [] H HZ s.heap sB.heap) (hns : h₁.Ns sB.heap.objs.size fun y => ([(z, u)] : List (Str × Value)).reverse.lookup y) (kp : ∀ b o, sB.heap.get? b = some o → h₁.get? b = some o) :
    Inv (lamCxD X A outer sB HZ E scp z f c') [] σ HZ { sB with heap := h₁, toks := tk } := by
  have hfree := L.has I.ok
  have back : ∀ {y c}, (cloFrom X.env.cells scp.names []).lookup y = some c → X.env.cells.lookup y = some c := by
    intro y c e
    rcases cloFrom_mem (PySem.mem_of_lookup e) with hm | ⟨h1, h2⟩
    · cases hm
    · obtain ⟨cc1, fnd⟩ := hfree _ h1 rfl
      have hc' : X.env.cells.lookup y = some cc1 := fnd
      have e2 : c = cc1 := by
        rw [h2]
        show (X.env.cells.lookup y).getD 0 = cc1
        rw [hc'] <;> rfl
      rw [e2]
      exact hc'
  have there : ∀ {y}, scp.names.lookup y = some .free → ∃ c, (cloFrom X.env.cells scp.names []).lookup y = some c := fun {y} hl => mem_lookup (cloFrom_has (cells := X.env.cells) (acc := []) (PySem.mem_of_lookup hl))
  have cellK : ∀ {c : Addr} {v : Option Value}, H c = none → s.heap.IsCell c v → h₁.IsCell c v := by
    rintro c v n ⟨o, ho, hdat⟩
    obtain ⟨sl, q⟩ := un.any ho n List.not_mem_nil
    exact ⟨_, kp _ _ q, hdat⟩
  have noEx : ∀ b : Addr, b ∉ (lamCxD X A outer sB HZ E scp z f c').ex := fun b => List.not_mem_nil
  refine
    { ok :=
        { mod := e0.mod
          kind := L.kind
          glob := rfl
          blt := rfl
          above := Nat.le_refl _
          inj := fun y y2 c e1 e2 => I.ok.inj y y2 c (back e1) (back e2)
          has := fun y hy => ?has
          cab := fun y c q _ => absurd (show false = true from q) Bool.false_ne_true
          hd := fun _ => hd
          frames := Around.frames_deeper e0.frames
          stk := .inr ⟨rfl, rfl⟩
          exf := fun b q => absurd q (noEx b)
          bs := e0.bs
          bsz := e0.bsz
          noex := fun b _ _ => noEx b
          exfs := fun b q => absurd q (noEx b)
          funs := e0.funs
          frf := e0.frf }
      os := rfl
      bare := e0.bare
      base := Un.kept kp
      loc := ⟨_, hns, fun i y v e1 e2 e3 => ?loc⟩
      cell := fun y c e => ?cell
      free := e0.hok.fresh (Nat.le_refl _)
      freeC := fun y c e => ?freeC
      pin := fun q hq => absurd (show q ∈ ([] : List (Addr × Obj)) ++ [] from hq) List.not_mem_nil
      hok := e0.hok.kept kp
      len := ?len }
  case has =>
    rcases (show scp.names.lookup y = some .cell ∨ scp.names.lookup y = some .free from hy) with q | q
    · exact absurd rfl (L.own _ (PySem.mem_of_lookup q)).1
    · exact there q
  case loc =>
    have e3 : Vis scp y := e3
    have e1' : (hideN z X.N)[i]? = some y := e1
    rcases e3 with k | k | k
    · exfalso
      have ez : y = z := (L.own _ (PySem.mem_of_lookup k)).2 rfl
      unfold hideN at e1'
      rw [List.getElem?_map] at e1'
      cases q : X.N[i]? with
      | none =>
        rw [q] at e1'
        cases e1'
      | some n =>
        rw [q] at e1'
        have e4 : (if n = z then ("%" : Str) else n) = y := Option.some.inj e1'
        by_cases hn : n = z
        · rw [if_pos hn] at e4
          rw [← e4, hz] at k
          cases k
        · rw [if_neg hn] at e4
          exact hn (e4.trans ez)
    · exact absurd rfl (L.own _ (PySem.mem_of_lookup k)).1
    · have eN : X.N[i]? = some y := by
        unfold hideN at e1'
        rw [List.getElem?_map] at e1'
        cases q : X.N[i]? with
        | none =>
          rw [q] at e1'
          cases e1'
        | some n =>
          rw [q] at e1'
          have e4 : (if n = z then ("%" : Str) else n) = y := Option.some.inj e1'
          by_cases hn : n = z
          · rw [if_pos hn] at e4
            rw [← e4, hz] at k
            cases k
          · rw [if_neg hn] at e4
            rw [e4]
      obtain ⟨m, hn, hl⟩ := I.loc
      have vis : Vis X.env.scope y := (L.free _ (PySem.mem_of_lookup k) rfl).elim (fun q => .inr (.inl q)) fun q => .inr (.inr q)
      obtain ⟨w', r, q⟩ := hl i y v eN e2 vis
      obtain ⟨cc2, h2⟩ := there k
      refine ⟨w', r, .inr ⟨.inr k, cc2, h2, ?_⟩⟩
      have cc1 := back h2
      rcases q with ⟨k', _⟩ | ⟨_, c3, e', q3⟩
      · have k' : X.env.scope.names.lookup y = some .local := k'
        rcases L.free _ (PySem.mem_of_lookup k) rfl with kk2 | kk2 <;> rw [show X.env.scope.names.lookup y = _ from kk2] at k' <;> cases k'
      · rw [cc1] at e'
        cases e'
        exact cellK (I.freeC y _ cc1) q3
  case cell =>
    obtain ⟨w', q⟩ := I.cell y c (back e)
    exact ⟨w', cellK (I.freeC y c (back e)) q⟩
  case freeC =>
    obtain ⟨v, o, ho, _⟩ := I.cell y c (back e)
    exact un.free c o ho (I.freeC y c (back e)) List.not_mem_nil
  case len =>
    show σ.length = (hideN z X.N).length
    unfold hideN
    rw [List.length_map]
    exact I.len
end
end Kx
namespace Kx
open PySem PySem.Spec PyProof.Rows L2 SX LamX
section
variable {X : Cx} {pn0 : List (Addr × Obj)} {σ : L2.St} {Hm : Hp} {st : Shared}
/-- how the lambda's one default binds -/
def BindD (params : Arguments) (body : Expr) (scp : Scope) (z : Str) : Prop := ∀ (q : Str) (cl : List (Str × Addr)) (t : Addr) (doc pm cv ctv : Value) (tk : Tok), ∃ k,
  bindArgs (PySem.W.kdv_fn "<lambda>" q params (.expr body) scp cl (.ref t) doc pm cv ctv) ⟨[], []⟩ = seqItems? (.ref t) >>= k ∧ k (some #[.int 0 tk]) = pure [(z, .int 0 tk)]
theorem pe_actD {CXg : CXT} {Eg : XK} {Ng : List Str} {qg : Str} {sg : Scope} {g f c' t : Addr} {tk : Tok} {cdg doc pm ctv : Value} {params : Arguments} {body : Expr} {scp : Scope} {z : Str} {k i : Nat} {a : Str} {pn : List (Addr × Obj)} {xe : Value → Shared → Prop} {W : WX} {E : XK} {tb : TE} {p1 p2 : Pos}
    (I : Inv X pn0 σ Hm st) (L : LamP X.env.scope scp z) (hz : scp.names.lookup ("%" : Str) = none)
    (ht : st.heap.get? t = some (PySem.W.kdv_tup [.int 0 tk])) (htn : Hm t = none) (htr : t ∉ frs X.stack)
    (hf : st.heap.get? f = some (lamObj X params body scp (.ref t) doc pm c' ctv)) (hfn : Hm f = none) (hfr : f ∉ frs X.stack) (hbind : BindD params body scp z)
    (tk' : Takes ((cxOf CXg X.prog X.w X.K X.mg X.base Ng qg sg g cdg X.A X.stack st Hm Eg).tr pn xe) W) (hW : ∀ cls d σ' H', E cls d H' → W cls d σ' H') (hr : Room (k + 1) (X.A.deeper (envOfC qg sg st.heap.objs.size g cdg)))
    (hbody : ∀ (A : Around) (outer : List Env) (st : Shared) (Hm : Hp), Room k (A.deeper (lamEnv X scp st.heap.objs.size f c')) → PE (lamCxD X A outer st Hm E scp z f c') body tb)
    (ixN1 : Ng[i]? = some a) (visN : Vis sg a) (dbgN : (a == ("__debug__" : Str)) = false := by decide) (clsN : (a == ("__classdict__" : Str)) = false := by decide) :
    PE ((cxOf CXg X.prog X.w X.K X.mg X.base Ng qg sg g cdg X.A X.stack st Hm Eg).tr pn xe) (.Call (.Name a p1) [] [] p2)
      (fun σZ HZ Q => σZ[i]? = some (some (.ref f)) ∧ HZ c' = some (CodeO c' (lamQ X)) ∧ tb σ HZ Q) := by
  refine ⟨fun pnZ tZ σZ HZ Q IZ h => ?_⟩
  obtain ⟨hs, hc, hq⟩ := h
  refine wpAny_Call_Name_kw (thn ((pe_var (pos := p1) (i := i) ixN1 visN dbgN clsN).run pnZ tZ σZ HZ (fun v H1 => v = .ref f ∧ H1 = HZ) IZ ⟨.ref f, hs, rfl, rfl⟩) fun u s1 hh => ?_)
  obtain ⟨v, H1, I1, r1, rfl, rfl⟩ := hh
  obtain rfl : u = Value.ref f := r1
  have none_ex : ∀ {b : Addr}, b ∉ ([] : List Addr) := fun {b} => List.not_mem_nil
  have f1 := I1.base.keep f _ hf hfn hfr none_ex
  have t1 := I1.base.keep t _ ht htn htr none_ex
  refine PySem.W.callWith_F0 ⟨_, _, _, _, f1⟩ ?_
  have un : Un (frs X.stack) [] Hm H1 st.heap s1.heap := I1.base
  obtain ⟨⟨oc, vs, tq, e1, e2, e3⟩, _, _⟩ := I1.hok c' _ hc
  have run : codeAny (model X.prog X.w) (X.A.deeper (envOfC qg sg st.heap.objs.size g cdg)) (.call (.ref f) ⟨[], []⟩) (CR (L2.CX X.prog X.w) (envOfC qg sg st.heap.objs.size g cdg :: X.stack) X.prog X.w H1 s1 Q E) s1 := by
    refine PySem.W.kla_callFunE hr.depth f1 rfl L.co L.gen rfl ⟨c', oc, vs, tq, rfl, e1, e2, e3⟩ ?_
    obtain ⟨k2, b1, b2⟩ := hbind (lamQ X) (cloFrom X.env.cells scp.names []) t doc pm (.ref c') ctv tk
    refine BindsTo.of_defaults rfl t1 rfl b1 b2 _ _ _ _ ?_
    refine wpAny_newFunctionEnv (fun y hy => (L.own y hy).1) (fun y hy => ?_) (fun h₁ hns sbt => ⟨I1.nolimit.fresh _ sbt, ?_⟩) L.kind
    · obtain rfl := List.mem_singleton.mp hy
      exact L.par
    show codeAny _ _ (.expr body (lamEnv X scp s1.heap.objs.size f c')) _ _
    have kpt : ∀ b o, s1.heap.get? b = some o → h₁.get? b = some o := fun b o e => sbt.extBut b o (Nat.ne_of_lt (Heap.lt_size e)) (Heap.get?_push_of_some _ e)
    have J := lam_startD (E := E) (f := f) (c' := c') (tk := s1.toks + 1) I L hz I1.env0 hr.hd un hns kpt
    refine PySem.W.kla_codeExpr (wpAny_mono ((hbody _ _ s1 H1 (hr.deeper _)).run [] _ _ H1 Q J hq) (fun v s' q => ?_) fun _ _ q => q)
    obtain ⟨w', H', J', rv, q⟩ := q
    exact ⟨w', H', J'.os, J'.bare, J'.base, J'.hok, rv, q⟩
  have pass : Passes (L2.CX X.prog X.w) ((cxOf CXg X.prog X.w X.K X.mg X.base Ng qg sg g cdg X.A X.stack st Hm Eg).tr pn xe) E := passes_call tk' hW
  refine wpAny_call (codeAny_mono run fun r s' q => ?_)
  match r, q with
  | .error e, q => exact pass pnZ σZ H1 s1 e s' I1 q
  | .ok (.ret u), q => exact I1.after q
  | .ok .next, q => exact False.elim q
  | .ok .brk, q => exact False.elim q
  | .ok .cont, q => exact False.elim q
/-- x(lambda z=0: body) -/
theorem pe_lamcallD {T : List (Addr × Str)} {TT : (XK → Hp → VK → Prop) → Hp → VK → Prop} {x a z : Str} {g c P : Addr} {k : Nat} {pg : Arguments} {bg : List Stmt} {sg : Scope} {dV kV doc pm cdw ct oc : Value} {an od : Option Addr} {slg : Array (Option Value)} {Ng : List Str}
    {params : Arguments} {body : Expr} {scp : Scope} {t : XK → TE} {p lps pos cp : Pos} {j : Nat} (hg : Gl X x) (mgx : X.mg x = some (.ref g)) (hk : PySem.W.keepIn X.K (.ref g) = true)
    (lkg : X.K.lookup g = some ⟨oc, od, .func (PySem.W.fnOf x x pg bg sg dV kV doc pm an cdw ct), slg⟩) (cdg2 : PySem.W.codeIn X.K cdw x = true) (bdg : L2.Binds X.K (PySem.W.fnOf x x pg bg sg dV kV doc pm an cdw ct) [a] []) (Sg : FnScope Ng [a] sg) (hNg : Ng[0]? = some a) (hva : Vis sg a)
    (hG : GivesTo X Ng x sg g cdw bg a (lamQ X) TT) (TB : TabB X.base X.mg c P) (hcode : X.env.code = .ref c) (hmT : (P, lamQ X) ∈ T) (hu : ∀ p ∈ T, p.1 = P → p.2 = lamQ X) (hr : Room (k + 2) X.A)
    (L : LamP X.env.scope scp z) (hz : scp.names.lookup ("%" : Str) = none) (hp : params.defaults = [.Constant (.int 0) j cp]) (hkw : params.kw_defaults = []) (hbind : BindD params body scp z)
    (hbody : ∀ (A : Around) (outer : List Env) (st : Shared) (Hm : Hp) (E : XK) (f c' : Addr), Room k (A.deeper (lamEnv X scp st.heap.objs.size f c')) → PE (lamCxD X A outer st Hm E scp z f c') body (t E))
    (dbgX : (x == ("__debug__" : Str)) = false := by decide) (dbgN : (a == ("__debug__" : Str)) = false := by decide) (clsN : (a == ("__classdict__" : Str)) = false := by decide) :
    PE X (.Call (.Name x p) [.Lambda params body scp lps] [] pos) (tLam T TT t) := by
  refine ⟨fun pn0 st σ Hm Q I h => ?_⟩
  obtain ⟨hT, hq⟩ := h
  refine wpAny_Call_Name_kw (ld_glob I hg mgx ?_ dbgX)
  refine PySem.W.callWith_K (h₀ := X.base) I.ok.mod.kin hk ?_ (by rfl) (by rfl)
  show wpAny _ _ (spliced ((false, eval (.Lambda params body scp lps) X.env) :: backTo pos (starEach [] X.env))) _ _ st
  refine Calls.spliced_cons (lam_makeD I TB hcode hmT hu hT (L.has I.ok) hp hkw ?_)
  intro tt f c' tk doc' pm' ctv H1 s' I1 eN T1 ht nt ot hf nf of_ hco
  refine Calls.spliced_nil ⟨I1.kIn, ?_⟩
  have called : codeAny (model X.prog X.w) X.A (.call (.ref g) ⟨[.ref f], []⟩) (CR C8.CX0 X.stack X.prog X.w H1 s' Q C8.E0) s' := by
    refine run_ofS (N := Ng) (ps := [a]) (us := [.ref f]) (vs := [.ref f]) lkg cdg2 Sg hr I1.env0 (bdg s' [.ref f] I1.kIn rfl) (.cons rfl .nil) rfl fun hr' => ?_
    obtain ⟨t', d', q'⟩ := hG f c' s' H1 Q (fun E H' Q' => t E σ H' Q') (fun W pn xe E p1 p2 tk2 hW => pe_actD (i := 0) I1 L hz ht nt ot hf nf of_ hbind tk2 hW hr' (fun A outer st Hm hr2 => hbody A outer st Hm E f c' hr2) hNg hva dbgN clsN) hco (hq H1 eN T1)
    exact ⟨t', d'.nox, q'⟩
  refine wpAny_call (codeAny_mono called fun r s2 q => ?_)
  match r, q with
  | .error e, q => exact (show False from q).elim
  | .ok (.ret u), q => exact I1.after q
  | .ok .next, q => exact False.elim q
  | .ok .brk, q => exact False.elim q
  | .ok .cont, q => exact False.elim q
end
end Kx
namespace Kx
open PySem PySem.Spec PyProof.Rows L2 SX LamX
/-! ### the law's own call: guards told, tables of code objects known -/
section
variable {P : Program} {w : World} {K : PySem.W.Frag} {mg mb : Str → Option Value} {k : Nat} {fa a : Addr} {fd : FuncData} {x : Str} {sp : Sp} {s : Shared} {vs : List Value} {ns : List Int} {cs : List (Addr × Addr)}
abbrev tab0 : Obj := { cls := .none, data := .fields #[] }
abbrev scriptObj (vs : List Value) : Obj := { cls := .type "list", data := .seq vs.toArray }
/-- what is tracked when the law begins: the script, perhaps, and the tables -/
inductive Tr (cs : List (Addr × Addr)) (K : PySem.W.Frag) (a : Addr) (b : Addr) (u : HO) : Prop where
  | script (o : Obj) (xs : List V) (e : b = a) (k : K.lookup a = none) (h : u = .frz o (.lst xs))
  | table (p : Addr × Addr) (m : p ∈ cs) (e : b = p.2) (h : u = .tbl #[])
theorem lawT_of (KX : K.In s.heap) (G : s.heap.Ns mainGlobals mg) (B : s.heap.Ns builtinsNs mb) (BB : ∀ y : Str, y ≠ "__name__" → mb y = bootBuiltins y) (NL : s.heap.NoLimit) (g0 : s.gens = #[])
    (hT : ∀ p ∈ cs, s.heap.get? p.2 = some tab0 ∧ K.lookup p.2 = none ∧ PySem.W.CodeHd s.heap p.1 p.2)
    (bm : ∃ (m : Addr) (ob : Obj), mg "__builtins__" = some (.ref m) ∧ m ≠ builtinsNs ∧ s.heap.get? m = some ob ∧ ob.cls = .type "module" ∧ ob.dict = some builtinsNs ∧ ob.data = .plain)
    (ha : s.heap.get? a = some (scriptObj vs)) (hr : Room k callerA) (F : ∀ base : Heap, K.In base → base.Ns mainGlobals mg → (∀ p ∈ cs, TabB base mg p.1 p.2) → FnG P w K mg base CX0 k fa fd [x] sp)
    (bd : ∀ (t : Shared) (u : Value), BindsTo t fd ⟨[u], []⟩ [(x, u)]) (H : Hp) (tr : ∀ b u, H b = some u → Tr cs K a b u) (ok : HOk P w H s.heap) (all : ∀ p ∈ cs, H p.2 = some (.tbl #[]))
    (pr : sp [.ref a] H (fun v _ => v = .bl true) fun _ _ _ => False) : codeAny (model P w) callerA (.call (.ref fa) ⟨[.ref a], []⟩) (LawEnd s) s := by
  have stay : ∀ {b : Addr} {o : Obj}, s.heap.get? b = some o → H b = none → (hidT s.heap H).get? b = some o := fun e n => hidT_get e n
  -- what is neither a list nor an empty table is not tracked
  have off : ∀ {b : Addr} {o : Obj}, s.heap.get? b = some o → (∀ l n, o.data ≠ .seq l n) → o.data ≠ .fields #[] → H b = none := by
    intro b o e h1 h2
    cases q : H b with
    | none => rfl
    | some u =>
      exfalso
      cases tr b u q with
      | script ob xs eb _ _ =>
        rw [eb, ha] at e
        cases e
        exact h1 _ _ rfl
      | table p m eb _ =>
        rw [eb, (hT p m).1] at e
        cases e
        exact h2 rfl
  have nsK : ∀ {b : Addr} {m : Str → Option Value}, s.heap.Ns b m → (hidT s.heap H).Ns b m := by
    rintro b m ⟨o, es, ep, e, d, r⟩
    exact ⟨o, es, ep, stay e (off e (fun l n z => by rw [d] at z; cases z) (fun z => by rw [d] at z; cases z)), d, r⟩
  have Kb : K.In (hidT s.heap H) := by
    intro b o e
    refine stay (KX b o e) ?_
    cases q : H b with
    | none => rfl
    | some u =>
      exfalso
      cases tr b u q with
      | script ob xs eb kn _ =>
        rw [eb, kn] at e
        cases e
      | table p m eb _ =>
        rw [eb, (hT p m).2.1] at e
        cases e
  obtain ⟨ml, l1, l2⟩ := NL
  have TB : ∀ p ∈ cs, TabB (hidT s.heap H) mg p.1 p.2 := by
    intro p hp
    obtain ⟨t0, _, cd⟩ := hT p hp
    refine { code := ?_, bm := ?_, gP := ?_ }
    · obtain ⟨o, us, fl, tf, fg, tg, iF, tx, tt, e1, r1, r2, r3, r⟩ := cd
      refine ⟨o, us, fl, tf, fg, tg, iF, tx, tt, stay e1 (off e1 (fun l n z => by rw [r2] at z; cases z) fun z => ?_), r1, r2, r3, r⟩
      rw [r2] at z
      cases z
      simp at r3
    · obtain ⟨m, ob, b1, b2, b3, b4, b5, b6⟩ := bm
      have pl : ∀ d : Data, d = .plain → (∀ l n, d ≠ .seq l n) ∧ d ≠ .fields #[] := by
        rintro d rfl
        exact ⟨fun l n z => (by cases z), fun z => (by cases z)⟩
      refine ⟨m, ob, b1, b2, fun q => ?_, fun q => ?_, stay b3 (off b3 (pl _ b6).1 (pl _ b6).2), b4, b5, b6⟩
      · obtain ⟨o, es, ep, e, hd, _⟩ := G
        rw [q, e] at b3
        cases b3
        rw [hd] at b6
        cases b6
      · rw [q, t0] at b3
        cases b3
        cases b6
    · intro z
      obtain ⟨o, es, ep, e, hd, _⟩ := G
      rw [z, t0] at e
      cases e
      cases hd
  have E0 : Env0 P w K mg (hidT s.heap H) callerA [] s H :=
    { frames := rfl
      mod := { kin := Kb, glob := nsK G, blt := ⟨mb, nsK B, BB⟩, nolimit := ⟨ml, nsK l1, l2⟩ }
      bs := fun b o e => of_hidT e
      bsz := Nat.le_of_eq (hidT_size _ _)
      funs := trivial
      frf := fun b hb => absurd hb (List.not_mem_nil)
      hok := ok
      bare := .of_eq g0 }
  refine codeAny_mono ((F _ Kb (nsK G) TB).go callerA [] s H ⟨[.ref a], []⟩ [.ref a] [.ref a] _ _ rfl hr E0 (bd s (.ref a)) (.cons rfl .nil) pr) ?_
  intro r t h
  match r, h with
  | .error e, h =>
    exact (show False from h).elim
  | .ok .next, h => exact False.elim h
  | .ok .brk, h => exact False.elim h
  | .ok .cont, h => exact False.elim h
  | .ok (.ret u), h =>
    obtain ⟨v, H', h1, h2, un, ok', rv, rfl⟩ := h
    cases rv
    have grown : ∀ p ∈ cs, ∃ more : Array Value, t.heap.get? p.2 = some { cls := .none, data := .fields more } := by
      intro p hp
      obtain ⟨more, q⟩ := un.tbls p.2 #[] (all p hp)
      exact ⟨_, ok' p.2 _ q⟩
    have kept : ∀ b o, (∀ p ∈ cs, b ≠ p.2) → s.heap.get? b = some o → t.heap.get? b = some o := by
      intro b o nb e
      cases q : H b with
      | none => exact un.keep b o e q List.not_mem_nil List.not_mem_nil
      | some u =>
        cases tr b u q with
        | script ob xs eb _ eu =>
          rw [eu] at q
          have e1 := (ok b _ q).1
          have e2 := (ok' b _ (un.frzs b ob _ q)).1
          rw [e] at e1
          cases e1
          exact e2
        | table p m eb _ => exact absurd eb (nb p m)
    refine ⟨rfl, ⟨fun b o e => ?_, fun b o e => ?_⟩, h1, h2⟩
    · by_cases hb : ∃ p ∈ cs, b = p.2
      · obtain ⟨p, hp, rfl⟩ := hb
        obtain ⟨t0, _, cd⟩ := hT p hp
        obtain ⟨more, q⟩ := grown p hp
        rw [t0] at e
        cases e
        exact .inr (.inl ⟨(cd.tab t0).isCodeTable, rfl, #[], more, rfl, by rw [Array.empty_append]; exact q⟩)
      · exact .inl (kept b o (fun p hp z => hb ⟨p, hp, z⟩) e)
    · by_cases hb : ∃ p ∈ cs, b = p.2
      · obtain ⟨p, hp, rfl⟩ := hb
        obtain ⟨more, q⟩ := grown p hp
        exact ⟨_, q⟩
      · exact ⟨o, kept b o (fun p hp z => hb ⟨p, hp, z⟩) e⟩
theorem lawT (KX : K.In s.heap) (G : s.heap.Ns mainGlobals mg) (B : s.heap.Ns builtinsNs mb) (BB : ∀ y : Str, y ≠ "__name__" → mb y = bootBuiltins y) (NL : s.heap.NoLimit) (g0 : s.gens = #[])
    (hT : ∀ p ∈ cs, s.heap.get? p.2 = some tab0 ∧ K.lookup p.2 = none ∧ PySem.W.CodeHd s.heap p.1 p.2)
    (bm : ∃ (m : Addr) (ob : Obj), mg "__builtins__" = some (.ref m) ∧ m ≠ builtinsNs ∧ s.heap.get? m = some ob ∧ ob.cls = .type "module" ∧ ob.dict = some builtinsNs ∧ ob.data = .plain)
    (ha : s.heap.get? a = some (scriptObj vs)) (hi : IntsAre vs ns) (hl : ns.length ≤ sizeLine) (hr : Room k callerA)
    (F : ∀ base : Heap, K.In base → base.Ns mainGlobals mg → (∀ p ∈ cs, TabB base mg p.1 p.2) → FnG P w K mg base CX0 k fa fd [x] sp) (bd : ∀ (t : Shared) (u : Value), BindsTo t fd ⟨[u], []⟩ [(x, u)])
    (pr : ∀ H : Hp, (∀ p ∈ cs, H p.2 = some (.tbl #[])) → SqL K H a (ns.map V.int) → (∀ b u, H b = some u → Tr cs K a b u) → sp [.ref a] H (fun v _ => v = .bl true) fun _ _ _ => False) :
    codeAny (model P w) callerA (.call (.ref fa) ⟨[.ref a], []⟩) (LawEnd s) s := by
  have rv := vals_ints hi
  have na : ∀ p ∈ cs, p.2 ≠ a := by
    intro p hp z
    have e := (hT p hp).1
    rw [z, ha] at e
    cases e
  let tabs : Hp := fun b => if b ∈ cs.map (·.2) then some (.tbl #[]) else none
  have isT : ∀ p ∈ cs, tabs p.2 = some (.tbl #[]) := fun p hp => if_pos (List.mem_map.mpr ⟨p, hp, rfl⟩)
  have ofT : ∀ b u, tabs b = some u → ∃ p ∈ cs, b = p.2 ∧ u = .tbl #[] := by
    intro b u q
    by_cases hb : b ∈ cs.map (·.2)
    · obtain ⟨p, hp, e⟩ := List.mem_map.mp hb
      have q' : some (HO.tbl #[]) = some u := (if_pos hb).symm.trans q
      exact ⟨p, hp, e.symm, (Option.some.inj q').symm⟩
    · have q' : (none : Option HO) = some u := (if_neg hb).symm.trans q
      cases q'
  cases hk : K.lookup a with
  | some o =>
    have e := KX a o hk
    rw [ha] at e
    cases e
    have tr : ∀ b u, tabs b = some u → Tr cs K a b u := fun b u q => by
      obtain ⟨p, hp, e1, e2⟩ := ofT b u q
      exact .table p hp e1 e2
    refine lawT_of KX G B BB NL g0 hT bm ha hr F bd tabs tr (fun b u q => ?_) isT (pr tabs isT (.inr ⟨_, vs.toArray, _, hk, rfl, rfl, rfl, ?_, by simpa using rv⟩) tr)
    · obtain ⟨p, hp, rfl, rfl⟩ := ofT b u q
      exact (hT p hp).1
    · rw [List.size_toArray, hi.length]
      exact hl
  | none =>
    let Ha : Hp := fun b => if b = a then some (.frz (scriptObj vs) (.lst (ns.map V.int))) else tabs b
    have at_a : Ha a = some (.frz (scriptObj vs) (.lst (ns.map V.int))) := if_pos rfl
    have but : ∀ b, b ≠ a → Ha b = tabs b := fun b hb => if_neg hb
    have tr : ∀ b u, Ha b = some u → Tr cs K a b u := by
      intro b u q
      by_cases hb : b = a
      · rw [hb, at_a] at q
        exact .script _ _ hb hk (Option.some.inj q).symm
      · rw [but b hb] at q
        obtain ⟨p, hp, e1, e2⟩ := ofT b u q
        exact .table p hp e1 e2
    have isH : ∀ p ∈ cs, Ha p.2 = some (.tbl #[]) := fun p hp => (but _ (na p hp)).trans (isT p hp)
    refine lawT_of KX G B BB NL g0 hT bm ha hr F bd Ha tr (fun b u q => ?_) isH (pr Ha isH (.inl (.inr ⟨scriptObj vs, at_a⟩)) tr)
    by_cases hb : b = a
    · subst hb
      rw [at_a] at q
      cases q
      exact ⟨ha, by rw [List.length_map]; exact hl, vs, _, rv, ha⟩
    · rw [but b hb] at q
      obtain ⟨p, hp, rfl, rfl⟩ := ofT b u q
      exact (hT p hp).1
end
open PySem.W in
/-- the goal that the head leaves; cs: the defs that make lambdas, each with its code object and its table -/
theorem walkT {l : OpenLaw} {n k : Nat} {q : Program} {loose : List Str} {XP : (Str → Option Value) → Heap → Prop} {YP : World → Heap → Prop} {d : DefRec} {K : Params → Frag} {sp : Frag → Sp} {x : Str} {cs : Params → List (Str × Addr × Addr)}
    (hn : l.most = some n) (hz : n ≤ sizeLine) (h0 : d.params.defaults = []) (hr : Room k callerA) (hY : ∀ (w : World) (h : Heap), YP w h → (K w.params).In h)
    (hc : ∀ p, ∀ e ∈ cs p, (∃ r, (recsOf q).find? (fun r => r.name == e.1) = some r) ∧ tabIn (K p) e.1 = some e.2 ∧ (K p).lookup e.2.2 = none)
    (F : ∀ (w : World) (mg : Str → Option Value) (fa : Addr) (h : Heap), (K w.params).In h → h.Ns mainGlobals mg → mg d.name = some (.ref fa) → ∃ fd : FuncData,
      (∀ (t : Shared) (u : Value), BindsTo t fd ⟨[u], []⟩ [(x, u)]) ∧ ∀ base : Heap, (K w.params).In base → base.Ns mainGlobals mg → (∀ e ∈ cs w.params, TabB base mg e.2.1 e.2.2) → FnG l.prog w (K w.params) mg base CX0 k fa fd [x] (sp (K w.params)))
    (pr : ∀ (p : Params) (H : Hp) (a : Addr) (ns : List Int), ns.length ≤ n → (∀ e ∈ cs p, H e.2.2 = some (.tbl #[])) → SqL (K p) H a (ns.map V.int) → (∀ b u, H b = some u → Tr ((cs p).map (·.2)) (K p) a b u) → sp (K p) [.ref a] H (fun v _ => v = .bl true) fun _ _ _ => False) :
    WalkO q loose XP YP l.row.toRowW d [] (fun f us => PySem.call f us) := by
  refine Att.attach_call hn h0 ?_
  intro w s₀ s₁ mg mb fa o pm cd doc a us ns G Y ho hd hcd hm hobj hints hlen hg
  have KX := hY w _ Y
  obtain ⟨fd, hb, hF⟩ := F w mg fa _ KX G.T.g hm
  have lift : ∀ {φ : Addr × Addr → Prop}, (∀ p ∈ (cs w.params).map (·.2), φ p) ↔ ∀ e ∈ cs w.params, φ e.2 := by
    intro φ
    constructor
    · intro h e he
      exact h _ (List.mem_map.mpr ⟨e, he, rfl⟩)
    · intro h p hp
      obtain ⟨e, he, rfl⟩ := List.mem_map.mp hp
      exact h e he
  refine lawT (cs := (cs w.params).map (·.2)) KX G.T.g G.T.b G.T.builtins G.T.nolimit hg (lift.mpr fun e he => ?_) G.T.bmain hobj hints (Nat.le_trans hlen hz) hr (fun base h1 h2 h3 => hF base h1 h2 (lift.mp h3)) hb fun H h1 h2 h3 => pr _ H a ns hlen (lift.mp h1) h2 h3
  obtain ⟨⟨r, e1⟩, e2, e3⟩ := hc w.params e he
  obtain ⟨t1, t2⟩ := tab_of G.T KX e1 e2
  exact ⟨t2, e3, t1⟩
end Kx
namespace Kx
open PySem PySem.Spec PyProof.Rows L2 SX LamX
section
variable {X : Cx}
/-! ### repr of data -/
def rRepr (K : PySem.W.Frag) : List V → Hp → VK → Prop := fun xs H Q => ∃ (a : Addr) (d : PyData), xs = [.ref a] ∧ Dp K H (.ref a) d ∧ d.showable = true ∧ d.hasDict = false ∧ d.depth ≤ 60 ∧ d.shown.length ≤ sizeLine ∧ Q (.str d.shown) H
theorem call_reprD (hg : X.A.guards = some []) (hu : X.A.units + 64 < cLine) : CallR X (.builtin "repr") (rRepr X.K) := by
  intro pins s σ H xs us Q I r h
  obtain ⟨a, d, rfl, hd, hs, hn, hp, hl, q⟩ := h
  cases r with
  | cons r0 rr =>
    cases rr
    obtain ⟨as, rd⟩ := Dp.reads I d _ _ hd r0
    cases r0
    refine repr_of_reads' rd hs (PyData.noDict_hsm hn) hg (by omega) (fun _ _ e => e) (fun h' u tk k => ?_) hl
    exact ⟨.str d.shown, H, I.kept k, ⟨u, rfl⟩, q⟩
/-! ### f(k = v, ..): keywords alone -/
theorem pe_callK0 {CX : CXT} {k : Nat} {f : Addr} {fd : FuncData} {ps ks : List Str} {sp : Sp} {E : XK} {x : Str} {p pos : Pos} {kws : List Keyword} {tk : TA} {g : List Value → List Value → List Value} {gV : List V → List V → List V}
    (F : FnOk X.prog X.w X.K X.mg X.base CX k f fd ps sp) (hr : Room k X.A) (hg : Gl X x) (hm : X.mg x = some (.ref f)) (hk : PySem.W.keepIn X.K (.ref f) = true) (hb : KBinds X.K fd ps ks g gV) (hx : Passes CX X E) (hkw : PK X kws tk)
    (hall : (backToKw pos (keywordEach kws X.env)).all (·.1.isSome) = true := by rfl) (hks : (backToKw pos (keywordEach kws X.env)).filterMap (·.1) = ks := by rfl) (hdb : (x == ("__debug__" : Str)) = false := by decide)
    (hpl : ((backTo pos (starEach [] X.env)).any (·.1) || (backToKw pos (keywordEach kws X.env)).any (·.1.isNone)) = false := by rfl) : PE X (.Call (.Name x p) [] kws pos) (tCallK sp gV E tNil tk) := by
  refine ⟨fun pins s σ H Q I h => ?_⟩
  apply wpAny_Call_Name_kw
  refine ld_glob I hg hm ?_ hdb
  refine PySem.W.callWith_KW0 (h₀ := X.base) I.ok.mod.kin hk hall (thn (hkw.run pos pins s σ H _ I h) fun ws s2 hh => ?_) hpl
  obtain ⟨zs, H2, I2, rz, q2⟩ := hh
  refine ⟨I2.kIn, ?_⟩
  rw [hks]
  exact run_fnk (us := []) F hr hb hx I2 .nil rz q2
/-! ### an exception that a name holds -/
/-- isinstance of it -/
def rIsX (K : PySem.W.Frag) : List V → Hp → VK → Prop := fun xs H Q => ∃ (a D dd : Addr) (fs : List (Str × V)) (c : V) (cv : Value) (b : Bool), xs = [.ref a, c] ∧ H a = some (exT a (.ref D) (some dd)) ∧ H dd = some (.xd fs) ∧ ExcC K D ∧
  (∀ u, RelV c u → u = cv) ∧ PySem.W.kitOne K (.ref D) cv = some b ∧ Q (.bl b) H
theorem exT_at {P : Program} {w : World} {H : Hp} {h : Heap} {a : Addr} {cls : Value} {d : Option Addr} (hok : HOk P w H h) (e : H a = some (exT a cls d)) : ∃ (oe : Obj) (vs : Array Value), h.get? a = some oe ∧ Zc cls d oe ∧ oe.data = .fields vs := by
  have q : ObjOk P w H h a (exT a cls d) := hok a _ e
  exact q.1
theorem inst_at {pins : List (Addr × Obj)} {σ : L2.St} {H : Hp} {s : Shared} {a D dd : Addr} {fs : List (Str × V)} (I : Inv X pins σ H s) (e : H a = some (exT a (.ref D) (some dd))) (ed : H dd = some (.xd fs)) :
    ∃ (oe od : Obj) (mA : Str → Option Value), PySem.W.InstAt s.heap a oe D (some od) ∧ (∀ n, PySem.W.lookIn n od = some (mA n)) ∧ ∀ n, RelO (fs.lookup n) (mA n) := by
  obtain ⟨oe, vs, h1, h2, h3⟩ := exT_at I.hok e
  have hx : ObjOk X.prog X.w H s.heap dd (.xd fs) := I.hok dd _ ed
  obtain ⟨mA, hns, hr⟩ := hx
  obtain ⟨od, ho, hl⟩ := lookIn_ns hns
  refine ⟨oe, od, mA, { at_ := h1, cls := h2.1, no := ?_, dict := ?_ }, hl, hr⟩
  · unfold PySem.W.notCls
    rw [h3] <;> rfl
  · rw [h2.2]
    exact ho
theorem call_isX : CallR X (.builtin "isinstance") (rIsX X.K) := by
  intro pins s σ H xs us Q I r h
  obtain ⟨a, D, dd, fs, c, cv, b, rfl, e, ed, C, hc, hk, q⟩ := h
  obtain ⟨u1, u2, rfl, r1, r2⟩ := vals2 r
  obtain rfl : u1 = Value.ref a := r1
  obtain rfl := hc _ r2
  obtain ⟨oe, od, mA, J, _, _⟩ := inst_at I e ed
  have cls : (PySem.W.clsIn X.K D).isSome = true := by
    obtain ⟨cd, hcd, _⟩ := PySem.W.any_some C.hd
    rw [hcd]
    rfl
  exact PySem.W.kia_one (PySem.W.kitx_exc cls C.hg C.hk C.hs C.ha C.hn C.ht C.hm) I.kIn J hk (fun z => nomatch z) fun tk => ⟨.bl b, H, I.kept (t' := tk) fun _ _ z => z, rfl, q⟩
def rIsiX (K : PySem.W.Frag) : List V → Hp → VK → Prop := fun xs H Q => rIsi K xs H Q ∨ rIsX K xs H Q
theorem call_isiX : CallR X (.builtin "isinstance") (rIsiX X.K) := fun pins s σ H xs us Q I r h => h.elim (call_isi pins s σ H xs us Q I r) (call_isX pins s σ H xs us Q I r)
/-- e.n, e's value such an exception -/
def tXp (K : PySem.W.Frag) (n : Str) (te : TE) : TE := fun σ H Q => te σ H fun x H1 => ∃ (a D dd : Addr) (fs : List (Str × V)) (v : V), x = .ref a ∧ H1 a = some (exT a (.ref D) (some dd)) ∧ H1 dd = some (.xd fs) ∧ XfC K D ∧ PySem.W.findIn K (.ref D) n = some none ∧ fs.lookup n = some v ∧ Q v H1
theorem pe_xp {e : Expr} {te : TE} {n : Str} {pos : Pos} (he : PE X e te) (hb : attributeBase e n X.env (eval e X.env) = eval e X.env := by rfl) : PE X (.Attribute e n pos) (tXp X.K n te) := by
  refine ⟨fun pins s σ H Q I h => ?_⟩
  refine attr_of hb (thn (he.run pins s σ H _ I h) fun u s1 hh => ?_)
  obtain ⟨x, H1, I1, rx, a, D, dd, fs, v, rfl, e1, e2, T, hno, hl, q⟩ := hh
  obtain rfl : u = Value.ref a := rx
  obtain ⟨oe, od, mA, J, look, rel⟩ := inst_at I1 e1 e2
  obtain ⟨w, hw, rw'⟩ := RelO.some_of (v := v) (o := mA n) (by rw [← hl]; exact rel n)
  exact HandSPX.exc_get I1.kIn J T.ga T.gg T.exC (PySem.W.findObj_own T.hdC hno rfl (by rw [look, hw])) (handed_of rw') ⟨v, H1, I1.tok _, rw', q⟩
end
end Kx
namespace Kx
open PySem PySem.Spec PyProof.Rows L2 SX LamX
/-! ### an error class of the program: one field, part -/
structure Er (K : PySem.W.Frag) (mg : Str → Option Value) (x qual : Str) (st : Stmt) (base : Str) where
  C : Addr
  L : Addr
  fI : Addr
  fd : FuncData
  gC : mg x = some (.ref C)
  gL : mg base = some (.ref L)
  oex : OexC K C
  iC : PySem.W.findIn K (.ref C) "__init__" = some (some (.ref fI))
  tI : PySem.W.typeIn K (.ref fI) = some (.type "function")
  F : Fun K "__init__" qual st fI fd
  b : Binds K fd ["self", "part"] []
  np : PySem.W.findIn K (.ref C) "part" = some none
  exc : ExcC K C
  xf : XfC K C
  em : PySem.W.exmOne K (.ref C) (.ref L) = some true
/-- its making, out of what the top left -/
def er_mk {K : PySem.W.Frag} {h : Heap} {mg : Str → Option Value} (X : K.In h) (G : h.Ns mainGlobals mg) {x qual : Str} {st : Stmt} {base : Str} {C L fI N : Addr} {nm q : Str} {bs bm : List Value} {sn : List Str} {sub : List Value} {ab : Bool} {col : Option Bool} {dd : Option Addr} {m0 m1 m2 m3 m5 : Option Value}
    {od an : Option Addr} {sl : Array (Option Value)} {oc kV dc pm cd ct : Value} (aC : PySem.W.nsIn K mainGlobals x = some (some (.ref C))) (aL : PySem.W.nsIn K mainGlobals base = some (some (.ref L)))
    (xL : K.lookup C = some (excClassObj nm q C N bs bm true sn sub ab col dd m0 m1 m2 m3 m5 "ValueError.__new__")) (hbm : PySem.HandSPX.refsVE bm = true)
    (sa : PySem.W.findIn K (.ref C) "__setattr__" = some (some (.builtin "object.__setattr__"))) (eC : PySem.W.subIn K (.ref C) (.type "BaseException") = some true) (tC : PySem.W.typeIn K (.ref C) = some (.type "type")) (kC : PySem.W.keepIn K (.ref C) = true)
    (a1 : PySem.W.findIn K (.ref C) "__init__" = some (some (.ref fI))) (t1 : PySem.W.typeIn K (.ref fI) = some (.type "function"))
    (l1 : K.lookup fI = some ⟨oc, od, .func (PySem.W.fnOf "__init__" qual (defArgs st) (defBody st) (defScope st) .none kV dc pm an cd ct), sl⟩) (c1 : PySem.W.codeIn K cd qual = true) (k1 : PySem.W.keepIn K (.ref fI) = true)
    (b1 : ∀ (kV doc pm : Value) (an : Option Addr) (cdv ct : Value) (us : List Value), us.length = (["self", "part"] : List Str).length → bindArgs (PySem.W.fnOf "__init__" qual (defArgs st) (defBody st) (defScope st) .none kV doc pm an cdv ct) ⟨us, []⟩ = pure ((["self", "part"] : List Str).zip us))
    (nb : PySem.W.findIn K (.ref C) "part" = some none) (ga : PySem.W.findIn K (.ref C) "__getattribute__" = some (some (.builtin "BaseException.__getattribute__"))) (gg : PySem.W.findIn K (.ref C) "__getattr__" = some none) (hd : PySem.W.hasDictIn K C = true)
    (hc : PySem.W.findIn K (.ref C) "__class__" = some (some (.builtin "object.__class__"))) (hn : PySem.W.specialIn K (.builtin "object.__class__") "__get__" = some (some (.builtin "getset_descriptor.__get__"))) (ht : PySem.W.takesIn K (.builtin "object.__class__") = some true)
    (hm : PySem.W.mroIn K C (.type "object") = some true) (eL : PySem.W.subIn K (.ref L) (.type "BaseException") = some true) (dL : PySem.W.hasDictIn K L = true) (tL : PySem.W.typeIn K (.ref L) = some (.type "type")) (sCL : PySem.W.subIn K (.ref C) (.ref L) = some true) : Er K mg x qual st base where
  C := C
  L := L
  fI := fI
  fd := _
  gC := PySem.W.mg_of X G aC
  gL := PySem.W.mg_of X G aL
  oex := ⟨⟨nm, q, N, bs, bm, sn, sub, ab, col, dd, m0, m1, m2, m3, m5, xL, hbm⟩, sa, eC, tC, kC⟩
  iC := a1
  tI := t1
  F := fun_mk (st := st) l1 c1 k1
  b := (fun_mk (st := st) l1 c1 k1).binds (ps := ["self", "part"]) b1
  np := nb
  exc := ⟨ga, gg, eC, hd, hc, hn, ht, hm⟩
  xf := ⟨ga, gg, eC, hd⟩
  em := PySem.W.exm_ref eL dL tL sCL
theorem passF {X : Cx} : Passes (L2.CX X.prog X.w) X (fun _ _ _ => False) := fun _ _ _ _ _ _ _ z => by
  obtain ⟨_, _, _, _, _, _, _, _, _, _, _, _, f⟩ := z
  exact f.elim
/-- the promise of such an __init__: self.part = part -/
def sp_init (K : PySem.W.Frag) : Sp := fun vs H Q _ => ∃ (a C : Addr) (y : V), vs = [.ref a, y] ∧ OexC K C ∧ PySem.W.findIn K (.ref C) "part" = some none ∧ H a = some (exo a C none) ∧
  ∀ dx, H dx = none → dx ≠ a → Q .non (upd (upd H dx (exd dx [("part", y)])) a (exo a C (some dx)))
section
variable {P : Program} {w : World} {K : PySem.W.Frag} {mg : Str → Option Value} {base : Heap}
/-- the body of such an __init__ -/
def IsInit (st : Stmt) : Prop := ∃ p1 p2 p3 p4, defBody st = [.Assign [.Attribute (.Name "self" p1) "part" p2] (.Name "part" p3) p4] ∧ FnScope ["self", "part"] ["self", "part"] (defScope st) ∧ (defScope st).names.lookup ("self" : Str) = some .local ∧ (defScope st).names.lookup ("part" : Str) = some .local
theorem ok_init {x qual : Str} {st : Stmt} {bs : Str} (e : Er K mg x qual st bs) (h : IsInit st) : FnOk P w K mg base CX0 1 e.fI e.fd ["self", "part"] (sp_init K) := by
  obtain ⟨p1, p2, p3, p4, hb, sc, v1, v2⟩ := h
  refine e.F.ok sc (fun vs H Q E h => ?_) (fun cdv A outer s H vs Q E hr h => ?_)
  · obtain ⟨a, C, y, rfl, _⟩ := h
    rfl
  · obtain ⟨a, C, y, rfl, o, n, ha, q⟩ := h
    rw [hb]
    refine ⟨_, pss_one (ps_ost (pv 0 rfl (.inl v1)) (pv 1 rfl (.inl v2))), ?_⟩
    exact ⟨y, rfl, .ref a, rfl, a, C, rfl, o, n, .inl ⟨ha, q⟩⟩
end
/-! ### a choice of rules -/
section
variable {X : Cx}
theorem pi_either {tg it : Expr} {w1 w2 : TI} (h1 : PI X tg it w1) (h2 : PI X tg it w2) : PI X tg it (fun σ H R => w1 σ H R ∨ w2 σ H R) := ⟨fun pins s σ H R I h => h.elim (h1.run pins s σ H R I) (h2.run pins s σ H R I)⟩
theorem pe_either {e : Expr} {t1 t2 : TE} (h1 : PE X e t1) (h2 : PE X e t2) : PE X e (fun σ H Q => t1 σ H Q ∨ t2 σ H Q) := ⟨fun pins s σ H Q I h => h.elim (h1.run pins s σ H Q I) (h2.run pins s σ H Q I)⟩
theorem pi_seq {tg it : Expr} {tl : TE} (h : PE X it tl) : PI X tg it (fun σ H R => iList X.K tl σ H R ∨ iTup X.K tl σ H R) := pi_either (pi_list h) (pi_tup h)
end
end Kx
namespace Kx
open PySem PySem.Spec PyProof.Rows L2 SX LamX
theorem tyx_same {K : PySem.W.Frag} {H H' : Hp} {x : V} {n : String} (e : Same H H') (h : TyX K H x (.type n)) : TyX K H' x (.type n) := by
  cases h with
  | base b =>
    cases b with
    | non => exact .base .non
    | bl y => exact .base (.bl y)
    | int i => exact .base (.int i)
    | str z => exact .base (.str z)
    | flt z => exact .base (.flt z)
    | lst h => exact .base (.lst (e _ _ h))
    | frz h => exact .base (.frz (e _ _ h))
    | tup h => exact .base (.tup (e _ _ h))
    | dK h => exact .base (.dK (e _ _ h))
    | dT h => exact .base (.dT (e _ _ h))
  | byt b => exact .byt b
  | set h => exact .set (e _ _ h)
  | kList h c => exact .kList h c
  | kTuple h c => exact .kTuple h c
  | kDict h c => exact .kDict h c
  | fTuple h => exact .fTuple (e _ _ h)
  | fDict h => exact .fDict (e _ _ h)
/-! ### integers with bounds, of any value -/
def isIntV : V → Bool
  | .int _ => true
  | _ => false
/-- what the checks ask of a value's type -/
def HasInt (K : PySem.W.Frag) (H : Hp) (x : V) : Prop := ∃ (n : String) (a b : Bool), TyX K H x (.type n) ∧ kitB n "int" = some a ∧ kitB n "bool" = some b ∧ (a && !b) = isIntV x
theorem HasInt.same {K : PySem.W.Frag} {H H' : Hp} {x : V} (e : Same H H') (h : HasInt K H x) : HasInt K H' x := by
  obtain ⟨n, a, b, t, r⟩ := h
  exact ⟨n, a, b, tyx_same e t, r⟩
theorem hasInt_int {K : PySem.W.Frag} {H : Hp} (i : Int) : HasInt K H (.int i) := ⟨"int", true, false, .base (.int i), by decide +kernel, by decide +kernel, rfl⟩
theorem hasInt_bl {K : PySem.W.Frag} {H : Hp} (i : Bool) : HasInt K H (.bl i) := ⟨"bool", true, true, .base (.bl i), by decide +kernel, by decide +kernel, rfl⟩
theorem hasInt_str {K : PySem.W.Frag} {H : Hp} (i : Str) : HasInt K H (.str i) := ⟨"str", false, false, .base (.str i), by decide +kernel, by decide +kernel, rfl⟩
theorem hasInt_non {K : PySem.W.Frag} {H : Hp} : HasInt K H .non := ⟨"NoneType", false, false, .base .non, by decide +kernel, by decide +kernel, rfl⟩
theorem hasInt_lst {K : PySem.W.Frag} {H : Hp} {a : Addr} {xs : List V} (h : SqL K H a xs) : HasInt K H (.ref a) := ⟨"list", false, false, tyL h, by decide +kernel, by decide +kernel, rfl⟩
theorem hasInt_tup {K : PySem.W.Frag} {H : Hp} {a : Addr} {xs : List V} (h : SqT K H a xs) : HasInt K H (.ref a) := ⟨"tuple", false, false, tyT h, by decide +kernel, by decide +kernel, rfl⟩
/-- a bound: none, or an int -/
def bdV : Option Int → V
  | none => .non
  | some i => .int i
def loB (i : Int) : Option Int → Bool
  | none => true
  | some l => decide (l ≤ i)
def hiB (i : Int) : Option Int → Bool
  | none => true
  | some h => decide (i ≤ h)
def withinB (i : Int) (lo hi : Option Int) : Bool := loB i lo && hiB i hi
def withinV (x : V) (lo hi : Option Int) : Bool := match x with
  | .int i => withinB i lo hi
  | _ => false
end Kx
namespace Kx
open PySem PySem.Spec PyProof.Rows L2 SX LamX
/-! ### the draws' wheel: cells, how many were begun, what is left -/
def Wh (H : Hp) (a c : Addr) (n : Nat) : Prop := ∃ (cs : List Int) (t l : Int), H a = some (.lst [.ref c, .int t, .int l]) ∧ H c = some (.lst (cs.map V.int)) ∧ cs.length ≤ 60 ∧ 0 ≤ t ∧ t ≤ n
/-- all that was tracked, but for what stands at a, is as it was -/
def Mv (a : Addr) (H H' : Hp) : Prop := ∀ b o, b ≠ a → H b = some o → H' b = some o
theorem Mv.refl (a : Addr) (H : Hp) : Mv a H H := fun _ _ _ h => h
theorem Mv.trans {a : Addr} {H H1 H2 : Hp} (x : Mv a H H1) (y : Mv a H1 H2) : Mv a H H2 := fun b o n h => y b o n (x b o n h)
theorem Mv.of {a : Addr} {H H1 : Hp} (x : Same H H1) : Mv a H H1 := fun b o _ h => x b o h
theorem Mv.upd (a : Addr) (H : Hp) (o : HO) : Mv a H (upd H a o) := fun b p n h => by rw [upd_ne n]; exact h
theorem Mv.same {a : Addr} {H H1 : Hp} (x : Mv a H H1) (h : H a = none) : Same H H1 := fun b o e => x b o (fun z => by rw [z, h] at e; cases e) e
theorem Wh.lt {H : Hp} {a c : Addr} {n m : Nat} (h : Wh H a c n) (l : n ≤ m) : Wh H a c m := by
  obtain ⟨cs, t, l', h1, h2, h3, h4, h5⟩ := h
  exact ⟨cs, t, l', h1, h2, h3, h4, by omega⟩
theorem Wh.same {H H' : Hp} {a c : Addr} {n : Nat} (h : Wh H a c n) (e : Same H H') : Wh H' a c n := by
  obtain ⟨cs, t, l', h1, h2, h3⟩ := h
  exact ⟨cs, t, l', e _ _ h1, e _ _ h2, h3⟩
theorem wh_set {H : Hp} {a c : Addr} {cs : List Int} {t l : Int} {n : Nat} {u : List V} (h1 : H a = some (.lst u)) (h2 : H c = some (.lst (cs.map V.int))) (hac : a ≠ c) (h3 : cs.length ≤ 60) (h4 : 0 ≤ t) (h5 : t ≤ n) : Wh (upd H a (.lst [.ref c, .int t, .int l])) a c n :=
  ⟨cs, t, l, upd_same, by rw [upd_ne (fun e => hac e.symm)]; exact h2, h3, h4, h5⟩
theorem wh_ac {H : Hp} {a c : Addr} {cs : List Int} {t l : Int} (h1 : H a = some (.lst [.ref c, .int t, .int l])) (h2 : H c = some (.lst (cs.map V.int))) : a ≠ c := by
  intro e
  rw [← e, h1] at h2
  injection h2 with h2
  injection h2 with h2
  cases cs with
  | nil => cases h2
  | cons x xs => injection h2 with h2 _; cases h2
/-! ### data: lists that are laid, compared -/
theorem canLayAll_of : ∀ (ds : List PyData), (∀ d ∈ ds, d.canLay0 = true) → PyData.canLayAll0 ds = true
  | [], _ => rfl
  | d :: ds, h => by
    have h1 := h d (List.mem_cons_self ..)
    have h2 := canLayAll_of ds fun e m => h e (List.mem_cons_of_mem _ m)
    show (d.canLay0 && PyData.canLayAll0 ds) = true
    rw [h1, h2]
    rfl
theorem depthAll_of {k : Nat} : ∀ (ds : List PyData), (∀ d ∈ ds, d.depth ≤ k) → PyData.depthAll ds ≤ k
  | [], _ => Nat.zero_le _
  | d :: ds, h => by
    have h1 := h d (List.mem_cons_self ..)
    have h2 := depthAll_of ds fun e m => h e (List.mem_cons_of_mem _ m)
    show max d.depth (PyData.depthAll ds) ≤ k
    omega
/-- plain data of a depth -/
def Pl (k : Nat) (d : PyData) : Prop := d.canLay0 = true ∧ d.depth ≤ k
theorem Pl.lst {k : Nat} {ds : List PyData} (h : ∀ d ∈ ds, Pl k d) : Pl (k + 1) (.list ds) :=
  ⟨canLayAll_of ds fun d m => (h d m).1, Nat.succ_le_succ (depthAll_of ds fun d m => (h d m).2)⟩
theorem Pl.tup {k : Nat} {ds : List PyData} (h : ∀ d ∈ ds, Pl k d) : Pl (k + 1) (.tuple ds) :=
  ⟨canLayAll_of ds fun d m => (h d m).1, Nat.succ_le_succ (depthAll_of ds fun d m => (h d m).2)⟩
theorem Pl.shaped {k : Nat} {d : PyData} (h : Pl k d) (hk : k ≤ 64) : SeqAt.shaped d = true := by
  show (d.canLay0 && decide (d.depth ≤ 64)) = true
  rw [h.1, decide_eq_true (Nat.le_trans h.2 hk)]
  rfl
theorem pl_int (k : Nat) (i : Int) : Pl k (.int i) := ⟨rfl, Nat.zero_le _⟩
theorem pl_ints (xs : List Int) : Pl 1 (.list (xs.map PyData.int)) := Pl.lst fun d m => by
  obtain ⟨i, _, rfl⟩ := List.mem_map.mp m
  exact pl_int 0 i
theorem dpAll_map {K : PySem.W.Frag} {H : Hp} {α : Type} {f : α → V} {g : α → PyData} : ∀ (xs : List α), (∀ x ∈ xs, Dp K H (f x) (g x)) → DpAll K H (xs.map f) (xs.map g)
  | [], _ => .nil
  | x :: xs, h => .cons (h x (List.mem_cons_self ..)) (dpAll_map xs fun y m => h y (List.mem_cons_of_mem _ m))
theorem dp_ints {K : PySem.W.Frag} {H : Hp} {a : Addr} {xs : List Int} (h : SqL K H a (xs.map V.int)) : Dp K H (.ref a) (.list (xs.map PyData.int)) := .lst h (dpAll_map xs fun x _ => .int x)
theorem eqvAll_map {α : Type} [DecidableEq α] {g : α → PyData} (hg : ∀ x y, PyData.eqv (g x) (g y) = decide (x = y)) : ∀ (xs ys : List α), PyData.eqvAll (xs.map g) (ys.map g) = decide (xs = ys)
  | [], [] => rfl
  | [], _ :: _ => rfl
  | _ :: _, [] => rfl
  | x :: xs, y :: ys => by
    show (PyData.eqv (g x) (g y) && PyData.eqvAll (xs.map g) (ys.map g)) = _
    rw [hg, eqvAll_map hg xs ys]
    by_cases e : x = y
    · by_cases e2 : xs = ys
      · subst e e2; simp
      · simp [e, e2]
    · simp [e]
theorem eqv_int (x y : Int) : PyData.eqv (.int x) (.int y) = decide (x = y) := by
  show (x == y) = _
  by_cases e : x = y <;> simp [e]
theorem eqv_ints (xs ys : List Int) : PyData.eqv (.list (xs.map PyData.int)) (.list (ys.map PyData.int)) = decide (xs = ys) := eqvAll_map eqv_int xs ys
/-- «xs != []» -/
theorem ne_nil {K : PySem.W.Frag} {H : Hp} {a p : Addr} {xs : List Int} {Q : VK} (h1 : SqL K H a (xs.map V.int)) (h2 : H p = some (.lst [])) (q : Q (.bl (!decide (xs = []))) H) : rNeD K (.ref a) (.ref p) H Q :=
  ⟨_, _, dp_ints h1, dp_ints (xs := []) (.inl (.inl h2)), (pl_ints xs).shaped (by decide), (pl_ints []).shaped (by decide), by rw [eqv_ints]; exact q⟩
/-! ### places -/
theorem at_nat {α : Type} {xs : List α} {i : Nat} (h : i < xs.length) : atI xs (i : Int) = some xs[i] := by
  unfold atI ixN
  rw [if_pos (by omega), if_pos (by omega)]
  show xs[(i : Int).toNat]? = _
  rw [Int.toNat_natCast, List.getElem?_eq_getElem h]
theorem at_lt {α : Type} {xs : List α} {i : Int} (h0 : 0 ≤ i) (h : i < xs.length) : ∃ v, v ∈ xs ∧ atI xs i = some v := by
  obtain ⟨k, rfl⟩ : ∃ k : Nat, i = k := ⟨i.toNat, by omega⟩
  exact ⟨_, List.getElem_mem (by omega), at_nat (by omega)⟩
theorem at_last {α : Type} {xs : List α} {x : α} : atI (xs ++ [x]) (-1) = some x := by
  unfold atI ixN
  rw [if_neg (by omega), if_pos (by simp; omega)]
  show (xs ++ [x])[_]? = _
  rw [show (-1 + ((xs ++ [x]).length : Int)).toNat = xs.length by simp; omega]
  simp
/-- one way on from two branches, for all values that they leave -/
theorem cutI {c : Bool} {A B : Prop} {R : Int → Prop} (y : Int) (h2 : c = false → R y → B) (h1 : (∀ z, R z) → c = true → A) (key : ∀ z, R z) : if c = true then A else B := iteC (h1 key) fun e => h2 e (key y)
theorem genI {P : V → Prop} {x : Int} (h : ∀ z : Int, P (.int z)) : P (.int x) := h x
theorem genIB {P : V → Prop} {x M : Int} (hM : 0 < M) (h : ∀ z : Int, 0 ≤ z → z < M → P (.int z)) : P (.int (x.fmod M)) := h _ (Int.fmod_nonneg_of_pos _ hM) (Int.fmod_lt_of_pos _ hM)
theorem cutP {c : Bool} {X Y B : Prop} (h2 : c = false → B → Y) (h1 : B → c = true → X) (b : B) : if c = true then X else Y := iteC (h1 b) fun e => h2 e b
theorem mul_bnd {a b A B : Int} (a0 : 0 ≤ a) (a1 : a ≤ A) (b0 : 0 ≤ b) (b1 : b ≤ B) : 0 ≤ a * b ∧ a * b ≤ A * B :=
  ⟨Int.mul_nonneg a0 b0, Int.mul_le_mul a1 b1 b0 (Int.le_trans a0 a1)⟩
theorem bnd5 {c M k t l : Int} (hM : 0 < M) (hM2 : M ≤ 1099511627776) (t0 : 0 ≤ t) (t1 : t ≤ 1000000) (k0 : 0 ≤ k) (k1 : k ≤ 8388608) (l0 : 0 ≤ l) (l1 : l ≤ 1099511627776) : (c.fmod M + k * t + l).natAbs < 2 ^ 64 := by
  have h1 := Int.fmod_nonneg_of_pos c hM
  have h2 := Int.fmod_lt_of_pos c hM
  obtain ⟨h3, h4⟩ := mul_bnd k0 k1 t0 t1
  omega
theorem bnd3 {m t a k l : Int} (m0 : 0 ≤ m) (m1 : m ≤ 4294967296) (t0 : 0 ≤ t) (t1 : t ≤ 1000000) (a0 : 0 ≤ a) (a1 : a ≤ 8388608) (k0 : 0 ≤ k) (k1 : k ≤ 8388608) (l0 : 0 ≤ l) (l1 : l ≤ 1099511627776) : (m * (2 * t + a) + k * t * t + l).natAbs < 2 ^ 64 := by
  obtain ⟨h1, h2⟩ := mul_bnd (b := 2 * t + a) (B := 10388608) m0 m1 (by omega) (by omega)
  obtain ⟨h3, h4⟩ := mul_bnd k0 k1 t0 t1
  obtain ⟨h5, h6⟩ := mul_bnd h3 h4 t0 t1
  omega
/-! ### slices -/
theorem cut_to (xs : List V) (k : Nat) : cutV xs none (some (k : Int)) = xs.take k := by
  unfold cutV
  rw [HT.sIx_none, HT.sIx_nat, List.drop_zero, Nat.sub_zero]
  by_cases h : k ≤ xs.length
  · rw [Nat.min_eq_left h]
  · rw [Nat.min_eq_right (by omega), List.take_of_length_le (Nat.le_refl _), List.take_of_length_le (by omega)]
theorem cut_from (xs : List V) (k : Nat) : cutV xs (some (k : Int)) none = xs.drop k := by
  unfold cutV
  rw [HT.sIx_none, HT.sIx_nat]
  by_cases h : k ≤ xs.length
  · rw [Nat.min_eq_left h, List.take_of_length_le (by rw [List.length_drop]; omega)]
  · rw [Nat.min_eq_right (by omega), Nat.sub_self, List.take_zero, List.drop_eq_nil_of_le (by omega)]
/-! ### comprehensions, item by item -/
section
variable {K : PySem.W.Frag} {a : Addr} {xs : List V} {g : TG} {tt : TT} {te : TE} {vs : List Nat} {σ : L2.St} {H1 : Hp} {D : Addr} {Qd : Hp → Prop}
theorem lc_mapL (f : V → V) (hq : SqL K H1 a xs) (nD : H1 D = none) (len : xs.length ≤ 100000)
    (turn : ∀ (i : Nat) (x : V) (Hc : Hp) (Q' : VK) (R' : Hp → Prop), xs[i]? = some x → Same H1 Hc → (∀ H4, Same Hc H4 → Q' (f x) H4) → g x (wipe σ vs) Hc fun σ2 H2 => wipe σ2 vs = wipe σ vs ∧ tt σ2 H2 fun b H3 => if b = true then te σ2 H3 Q' else R' H3)
    (fin : ∀ Hc, Same H1 Hc → Hc D = some (.lst (xs.map f)) → Qd Hc) :
    ∃ W : Nat → Nat → Hp → Prop, (∃ m, W 0 m (upd H1 D (.lst []))) ∧ ∀ i m H, W i m H →
      ((Itl K a).stop i H ∧ Qd H) ∨ ((Itl K a).go i H ∧ ∃ Nx : Hp → Prop, (∀ H', Nx H' → ∃ m', m' < m ∧ W (i + 1) m' H') ∧ ∀ x H', (Itl K a).yld i H x H' → g x (wipe σ vs) H' fun σ2 H2 => wipe σ2 vs = wipe σ vs ∧ tt σ2 H2 fun b H3 =>
        if b = true then te σ2 H3 fun y H4 => ∃ acc, H4 D = some (.lst acc) ∧ acc.length < sizeLine ∧ Nx (upd H4 D (.lst (acc ++ [y]))) else Nx H3) := by
  refine lc_list (fun i Hc => Same H1 Hc ∧ Hc D = some (.lst ((xs.take i).map f))) ⟨same_new nD, upd_same⟩ (fun i H _ p => p.1.seq hq) (fun i x Hc hx p => ?_) (fun Hc p => ?_)
  · refine turn i x Hc _ _ hx p.1 (fun H4 e4 => ⟨_, e4 _ _ p.2, ?_, ?_⟩)
    · rw [List.length_map, List.length_take]
      exact Nat.lt_of_le_of_lt (Nat.min_le_right _ _) (Nat.lt_of_le_of_lt len (by decide))
    · refine ⟨fun b o z => ?_, ?_⟩
      · rw [upd_ne (ne_of_none z nD)]
        exact e4 _ _ (p.1 b o z)
      · rw [upd_same, List.take_add_one, hx, List.map_append]
        rfl
  · rw [List.take_length] at p
    exact fin Hc p.1 p.2
theorem lc_mapT (f : V → V) (hq : SqT K H1 a xs) (nD : H1 D = none) (len : xs.length ≤ 100000)
    (turn : ∀ (i : Nat) (x : V) (Hc : Hp) (Q' : VK) (R' : Hp → Prop), xs[i]? = some x → Same H1 Hc → (∀ H4, Same Hc H4 → Q' (f x) H4) → g x (wipe σ vs) Hc fun σ2 H2 => wipe σ2 vs = wipe σ vs ∧ tt σ2 H2 fun b H3 => if b = true then te σ2 H3 Q' else R' H3)
    (fin : ∀ Hc, Same H1 Hc → Hc D = some (.lst (xs.map f)) → Qd Hc) :
    ∃ W : Nat → Nat → Hp → Prop, (∃ m, W 0 m (upd H1 D (.lst []))) ∧ ∀ i m H, W i m H →
      ((Itt K a).stop i H ∧ Qd H) ∨ ((Itt K a).go i H ∧ ∃ Nx : Hp → Prop, (∀ H', Nx H' → ∃ m', m' < m ∧ W (i + 1) m' H') ∧ ∀ x H', (Itt K a).yld i H x H' → g x (wipe σ vs) H' fun σ2 H2 => wipe σ2 vs = wipe σ vs ∧ tt σ2 H2 fun b H3 =>
        if b = true then te σ2 H3 fun y H4 => ∃ acc, H4 D = some (.lst acc) ∧ acc.length < sizeLine ∧ Nx (upd H4 D (.lst (acc ++ [y]))) else Nx H3) := by
  refine lc_tup (fun i Hc => Same H1 Hc ∧ Hc D = some (.lst ((xs.take i).map f))) ⟨same_new nD, upd_same⟩ (fun i H _ p => Same.t p.1 hq) (fun i x Hc hx p => ?_) (fun Hc p => ?_)
  · refine turn i x Hc _ _ hx p.1 (fun H4 e4 => ⟨_, e4 _ _ p.2, ?_, ?_⟩)
    · rw [List.length_map, List.length_take]
      exact Nat.lt_of_le_of_lt (Nat.min_le_right _ _) (Nat.lt_of_le_of_lt len (by decide))
    · refine ⟨fun b o z => ?_, ?_⟩
      · rw [upd_ne (ne_of_none z nD)]
        exact e4 _ _ (p.1 b o z)
      · rw [upd_same, List.take_add_one, hx, List.map_append]
        rfl
  · rw [List.take_length] at p
    exact fin Hc p.1 p.2
end
end Kx
namespace Kx
open PySem PySem.Spec PyProof.Rows L2 SX LamX
theorem paired_get {α β : Type} {F : α → β → Prop} : ∀ {l : List α} {m : List β}, Paired F l m → ∀ {i : Nat} {a : α}, l[i]? = some a → ∃ b, m[i]? = some b ∧ F a b
  | _, _, .cons h t, 0, a, e => by
    simp at e
    subst e
    exact ⟨_, rfl, h⟩
  | _, _, .cons h t, i + 1, a, e => paired_get t (i := i) (by simpa using e)
theorem paired_split {α β : Type} {F : α → β → Prop} : ∀ {l : List α} (m : List β) {b : β}, Paired F l (m ++ [b]) → ∃ l' a, l = l' ++ [a] ∧ Paired F l' m ∧ F a b
  | _, [], _, .cons h .nil => ⟨[], _, rfl, .nil, h⟩
  | _, _ :: m, b, .cons h t => by
    obtain ⟨l', a, rfl, p, f⟩ := paired_split m t
    exact ⟨_ :: l', a, rfl, .cons h p, f⟩
theorem paired_nil {α β : Type} {F : α → β → Prop} {l : List α} (h : Paired F l []) : l = [] := by
  cases h
  rfl
theorem nil_or_snoc {α : Type} (l : List α) : l = [] ∨ ∃ l' a, l = l' ++ [a] := by
  rcases List.eq_nil_or_concat l with h | ⟨l', a, h⟩
  · exact .inl h
  · exact .inr ⟨l', a, by rw [h, List.concat_eq_append]⟩
theorem paired_map {α β γ : Type} {F : α → γ → Prop} {G : α → β → Prop} (f : β → γ) (h : ∀ a b, G a b → F a (f b)) : ∀ {l : List α} {m : List β}, Paired G l m → Paired F l (m.map f)
  | _, _, .nil => .nil
  | _, _, .cons x t => .cons (h _ _ x) (paired_map f h t)
theorem paired_of_map {α β γ : Type} {F : α → γ → Prop} (f : β → α) (g : β → γ) : ∀ {m : List β}, (∀ b ∈ m, F (f b) (g b)) → Paired F (m.map f) (m.map g)
  | [], _ => .nil
  | b :: m, h => .cons (h b (List.mem_cons_self ..)) (paired_of_map f g fun c hc => h c (List.mem_cons_of_mem _ hc))
theorem dpAll_of {K : PySem.W.Frag} {H : Hp} : ∀ {vs : List V} {ds : List PyData}, Paired (fun v d => Dp K H v d) vs ds → DpAll K H vs ds
  | _, _, .nil => .nil
  | _, _, .cons h t => .cons h (dpAll_of t)
/-- «xs != []», any laid items -/
theorem ne_nilD {K : PySem.W.Frag} {H : Hp} {a p : Addr} {vs : List V} {ds : List PyData} {k : Nat} {Q : VK} (h1 : SqL K H a vs) (hd : Paired (fun v d => Dp K H v d) vs ds) (hp : ∀ d ∈ ds, Pl k d) (hk : k ≤ 60) (h2 : H p = some (.lst [])) (q : Q (.bl (!decide (ds = []))) H) : rNeD K (.ref a) (.ref p) H Q :=
  ⟨_, _, .lst h1 (dpAll_of hd), dp_ints (xs := []) (.inl (.inl h2)), (Pl.lst hp).shaped (by omega), (pl_ints []).shaped (by decide), by
    have e : PyData.eqv (.list ds) (.list (([] : List Int).map PyData.int)) = decide (ds = []) := by
      cases ds with
      | nil => rfl
      | cons d t => rfl
    rw [e]
    exact q⟩
/-- a pair of ints -/
def Pr2 (H : Hp) (v : V) (r : Int × Int) : Prop := ∃ t, v = V.ref t ∧ H t = some (.tup [.int r.1, .int r.2])
theorem Pr2.same {H H' : Hp} {v : V} {r : Int × Int} (e : Same H H') (h : Pr2 H v r) : Pr2 H' v r := by
  obtain ⟨t, rfl, h⟩ := h
  exact ⟨t, rfl, e _ _ h⟩
def pr2D (r : Int × Int) : PyData := .tuple [.int r.1, .int r.2]
theorem Pr2.dp {K : PySem.W.Frag} {H : Hp} {v : V} {r : Int × Int} (h : Pr2 H v r) : Dp K H v (pr2D r) := by
  obtain ⟨t, rfl, h⟩ := h
  exact .tup (.inl (.inl h)) (.cons (.int _) (.cons (.int _) .nil))
theorem pl_pr2 (r : Int × Int) : Pl 1 (pr2D r) := Pl.tup fun d m => by
  rcases List.mem_cons.mp m with rfl | m
  · exact pl_int 0 _
  · rcases List.mem_cons.mp m with rfl | m
    · exact pl_int 0 _
    · cases m
/-! ### stretches of like numbers -/
def stepR (rs : List (Int × Int)) (n : Int) : List (Int × Int) :=
  match rs.reverse with
  | [] => [(n, 1)]
  | (m, k) :: t => if m = n then t.reverse ++ [(n, k + 1)] else rs ++ [(n, 1)]
theorem stepR_nil (n : Int) : stepR [] n = [(n, 1)] := rfl
theorem stepR_snoc (rs : List (Int × Int)) (m k n : Int) : stepR (rs ++ [(m, k)]) n = if m = n then rs ++ [(n, k + 1)] else rs ++ [(m, k)] ++ [(n, 1)] := by
  unfold stepR
  simp
def runs (row : List Int) : List (Int × Int) := row.foldl stepR []
theorem runs_snoc (row : List Int) (n : Int) : runs (row ++ [n]) = stepR (runs row) n := by
  unfold runs
  rw [List.foldl_append]
  rfl
theorem stepR_length (rs : List (Int × Int)) (n : Int) : (stepR rs n).length ≤ rs.length + 1 := by
  rcases nil_or_snoc rs with rfl | ⟨rs', ⟨m, k⟩, rfl⟩
  · simp [stepR_nil]
  · rw [stepR_snoc]
    split <;> simp
theorem fold_length : ∀ (row : List Int) (rs : List (Int × Int)), (row.foldl stepR rs).length ≤ rs.length + row.length
  | [], _ => Nat.le_refl _
  | x :: row, rs => by
    have h1 := fold_length row (stepR rs x)
    have h2 := stepR_length rs x
    show (row.foldl stepR (stepR rs x)).length ≤ rs.length + (row.length + 1)
    omega
theorem runs_length (row : List Int) : (runs row).length ≤ row.length := by
  have h := fold_length row []
  rw [List.length_nil, Nat.zero_add] at h
  exact h
/-! ### for and comprehension over a list or a tuple, held by a name -/
section
variable {K : PySem.W.Frag} {a : Addr} {xs : List V} {g : TG} {σ : L2.St} {H : Hp} {k : Nat}
theorem for_seq {tb : TS} {D : Ends} {H0 : Hp} (hi : σ[k]? = some (some (.ref a))) (hq : SqQ K H0 a xs) (e0 : Same H0 H) (Pv : Nat → L2.St → Hp → Prop) (h0 : Pv 0 σ H) (stay : ∀ i σ' H', i ≤ xs.length → Pv i σ' H' → Same H0 H')
    (hs : ∀ i x σ H, xs[i]? = some x → Pv i σ H → g x σ H fun σ2 H2 => tb { D with nx := Pv (i + 1), ct := Pv (i + 1), bk := D.nx } σ2 H2) (hd : ∀ σ H, Pv xs.length σ H → D.nx σ H) :
    tFor (fun σ H R => iList K (tVar k) σ H R ∨ iTup K (tVar k) σ H R) g tb D σ H := by
  rcases hq with h | h
  · exact .inl ⟨_, hi, a, rfl, ⟨_, e0.seq h⟩, for_list Pv h0 (fun i σ' H' l p => (stay i σ' H' l p).seq h) hs hd⟩
  · exact .inr ⟨_, hi, a, rfl, ⟨_, Same.t e0 h⟩, for_tup Pv h0 (fun i σ' H' l p => Same.t (stay i σ' H' l p) h) hs hd⟩
theorem lc_seqmap {tt : TT} {te : TE} {vs : List Nat} {Q : VK} (f : V → V) (hi : σ[k]? = some (some (.ref a))) (hq : SqQ K H a xs) (len : xs.length ≤ 100000)
    (turn : ∀ (i : Nat) (x : V) (Hc : Hp) (Q' : VK) (R' : Hp → Prop), xs[i]? = some x → Same H Hc → (∀ H4, Same Hc H4 → Q' (f x) H4) → g x (wipe σ vs) Hc fun σ2 H2 => wipe σ2 vs = wipe σ vs ∧ tt σ2 H2 fun b H3 => if b = true then te σ2 H3 Q' else R' H3)
    (fin : ∀ (D : Addr) (Hc : Hp), Same H Hc → Hc D = some (.lst (xs.map f)) → Q (.ref D) Hc) :
    tLc (fun σ H R => iList K (tVar k) σ H R ∨ iTup K (tVar k) σ H R) g tt te vs σ H Q := by
  rcases hq with h | h
  · exact .inl ⟨_, hi, a, rfl, ⟨_, h⟩, fun D nD => lc_mapL f h nD len turn (fin D)⟩
  · exact .inr ⟨_, hi, a, rfl, ⟨_, h⟩, fun D nD => lc_mapT f h nD len turn (fin D)⟩
theorem lc_lstmap {tt : TT} {te : TE} {vs : List Nat} {Q : VK} (f : V → V) (hi : σ[k]? = some (some (.ref a))) (hq : SqL K H a xs) (len : xs.length ≤ 100000)
    (turn : ∀ (i : Nat) (x : V) (Hc : Hp) (Q' : VK) (R' : Hp → Prop), xs[i]? = some x → Same H Hc → (∀ H4, Same Hc H4 → Q' (f x) H4) → g x (wipe σ vs) Hc fun σ2 H2 => wipe σ2 vs = wipe σ vs ∧ tt σ2 H2 fun b H3 => if b = true then te σ2 H3 Q' else R' H3)
    (fin : ∀ (D : Addr) (Hc : Hp), Same H Hc → Hc D = some (.lst (xs.map f)) → Q (.ref D) Hc) :
    tLc (iList K (tVar k)) g tt te vs σ H Q := ⟨_, hi, a, rfl, ⟨_, hq⟩, fun D nD => lc_mapL f hq nD len turn (fin D)⟩
end
theorem Pr2.set {H : Hp} {p : Addr} {us : List V} {v : V} {r : Int × Int} {o : HO} (hp : H p = some (.lst us)) (h : Pr2 H v r) : Pr2 (upd H p o) v r := by
  obtain ⟨t, rfl, h⟩ := h
  refine ⟨t, rfl, ?_⟩
  rw [upd_ne (fun e => by rw [e, hp] at h; cases h)]
  exact h
theorem same_set {H Hd : Hp} {p : Addr} {o : HO} (e : Same H Hd) (np : H p = none) : Same H (upd Hd p o) := fun b u h => by
  rw [upd_ne (ne_of_none h np)]
  exact e b u h
theorem Pr2.new {H : Hp} {t : Addr} {x y : Int} : Pr2 (upd H t (.tup [.int x, .int y])) (.ref t) (x, y) := ⟨t, rfl, upd_same⟩
theorem sz1 {x : V} : [x].length ≤ sizeLine := by
  show 1 ≤ sizeLine
  decide
theorem sz2 {x y : V} : [x, y].length ≤ sizeLine := by
  show 2 ≤ sizeLine
  decide
theorem sz3 {x y z : V} : [x, y, z].length ≤ sizeLine := by
  show 3 ≤ sizeLine
  decide
theorem sz4 {x y z u : V} : [x, y, z, u].length ≤ sizeLine := by
  show 4 ≤ sizeLine
  decide
theorem ix_last {n : Nat} : ixN (n + 1) (-1) = some n := by
  unfold ixN
  rw [if_neg (by omega), if_pos (by omega)]
  congr 1
  omega
/-- xs[-1] = y, what is set -/
theorem set_last {H : Hp} {p : Addr} {xs : List V} {x y : V} {Q : Hp → Prop} (hp : H p = some (.lst (xs ++ [x]))) (q : Q (upd H p (.lst (xs ++ [y])))) : rSetL (.ref p) (.int (-1)) y H Q :=
  ⟨p, _, -1, xs.length, rfl, rfl, hp, by rw [List.length_append]; exact ix_last, by rw [show (xs ++ [x]).set xs.length y = xs ++ [y] by simp]; exact q⟩
end Kx
namespace Kx
open PySem PySem.Spec PyProof.Rows L2 SX LamX
/-! ### rules that name the frame, within a comprehension -/
section
variable {X : Cx} {K : PySem.W.Frag}
theorem inK_ix_list (e : X.K = K) : IxR X (rIxL K) := e ▸ ix_list
theorem inK_ix_tup (e : X.K = K) : IxR X (rIxT K) := e ▸ ix_tup
theorem inK_call_len_seq (e : X.K = K) : CallR X (.builtin "len") (fun xs H Q => ∃ p ys, xs = [.ref p] ∧ (SqL K H p ys ∨ SqT K H p ys) ∧ Q (.int ys.length) H) := e ▸ call_len_seq
theorem inK_sl_list (e : X.K = K) : SlR X (rSlL K) := e ▸ sl_list
theorem inK_op_eqD (e : X.K = K) (hu : X.A.units + 64 < cLine) : OpR X (compareOp .Eq) (rEqD K) := e ▸ op_eqD hu
theorem inK_op_neD (e : X.K = K) (hu : X.A.units + 64 < cLine) : OpR X (compareOp .NotEq) (rNeD K) := e ▸ op_neD hu
theorem inK_pg_tup {es : List Expr} {k : Nat} {t : TGs} {n : Nat} {pos : Pos} (e : X.K = K) (hc : X.calm = true) (h : PGs X es t) (hn : (assignEach es X.env).length = n := by rfl) (hst : (assignEach es X.env).findIdx? (·.1) = none := by rfl) : PG X (.Tuple es k pos) (gTup K n t) := e ▸ pg_tup hc h hn hst
end
end Kx
namespace Kx
open PySem PySem.Spec PyProof.Rows L2 SX LamX
/-- an error is made with its part -/
theorem mk_part {K : PySem.W.Frag} {C : Addr} {σ : L2.St} {H : Hp} {Q : XK} {v : V} (o : OexC K C) (n : PySem.W.findIn K (.ref C) "part" = some none)
    (q : ∀ d H', Same H H' → H' d = some (.xd [("part", v)]) → Q (.ref C) (some d) H') : tMkO C (sp_init K) [] (tCons (tC v) tNil) σ H Q := by
  refine ⟨by show 1 ≤ 1000; decide, fun a na => ⟨a, C, v, rfl, o, n, upd_same, fun dx nd hne => ⟨rfl, dx, [("part", v)], upd_same, ?_, ?_, q dx _ ?_ upd_same⟩⟩⟩
  · rw [upd_ne hne, upd_same]
  · rw [upd_ne hne] at nd
    exact nd
  · rw [upd_ne hne] at nd
    intro b u h
    rw [upd_ne (ne_of_none h nd)]
    show (if b = a then none else _) = some u
    rw [if_neg (ne_of_none h na), upd_ne (ne_of_none h na), upd_ne (ne_of_none h nd), upd_ne (ne_of_none h na)]
    exact h
end Kx
namespace Kx
open PySem PySem.Spec PyProof.Rows L2 SX LamX
section
variable {K : PySem.W.Frag} {J : It} {n : Nat} {G : Hp → Prop} {Y : Nat → Hp → V → Hp → Prop} {g : TG} {tt : TT} {te : TE} {vs : List Nat} {σ : L2.St} {H1 : Hp} {D : Addr} {Qd : Hp → Prop}
/-- a comprehension whose items are told ahead -/
theorem lc_out (w : Walk J n G Y) (zs : List V) (hz : zs.length = n) (nD : H1 D = none) (len : n ≤ 100000) (hG : ∀ Hc, Same H1 Hc → G Hc)
    (turn : ∀ (i : Nat) (x z : V) (Hc Hx : Hp) (Q' : VK) (R' : Hp → Prop), i < n → zs[i]? = some z → Same H1 Hc → Y i Hc x Hx → (∀ H4, Same Hc H4 → Q' z H4) → g x (wipe σ vs) Hx fun σ2 H2 => wipe σ2 vs = wipe σ vs ∧ tt σ2 H2 fun b H3 => if b = true then te σ2 H3 Q' else R' H3)
    (fin : ∀ Hc, Same H1 Hc → Hc D = some (.lst zs) → Qd Hc) :
    ∃ W : Nat → Nat → Hp → Prop, (∃ m, W 0 m (upd H1 D (.lst []))) ∧ ∀ i m H, W i m H →
      (J.stop i H ∧ Qd H) ∨ (J.go i H ∧ ∃ Nx : Hp → Prop, (∀ H', Nx H' → ∃ m', m' < m ∧ W (i + 1) m' H') ∧ ∀ x H', J.yld i H x H' → g x (wipe σ vs) H' fun σ2 H2 => wipe σ2 vs = wipe σ vs ∧ tt σ2 H2 fun b H3 =>
        if b = true then te σ2 H3 fun y H4 => ∃ acc, H4 D = some (.lst acc) ∧ acc.length < sizeLine ∧ Nx (upd H4 D (.lst (acc ++ [y]))) else Nx H3) := by
  refine lc_it w (fun i Hc => Same H1 Hc ∧ Hc D = some (.lst (zs.take i))) ⟨same_new nD, upd_same⟩ (fun i H _ p => hG H p.1) (fun i x Hc Hx hi p y => ?_) (fun Hc p => ?_)
  · have hzi : zs[i]? = some (zs[i]'(by omega)) := List.getElem?_eq_getElem (by omega)
    refine turn i x _ Hc Hx _ _ hi hzi p.1 y (fun H4 e4 => ⟨_, e4 _ _ p.2, ?_, ?_⟩)
    · rw [List.length_take]
      exact Nat.lt_of_le_of_lt (Nat.min_le_right _ _) (Nat.lt_of_le_of_lt (by omega) (by decide : 100000 < sizeLine))
    · refine ⟨fun b o z => ?_, ?_⟩
      · rw [upd_ne (ne_of_none z nD)]
        exact e4 _ _ (p.1 b o z)
      · rw [upd_same, List.take_add_one, hzi]
        rfl
  · rw [← hz, List.take_length] at p
    exact fin Hc p.1 p.2
end
section
variable {K : PySem.W.Frag} {a b : Addr} {xs ys : List V} {g : TG} {tt : TT} {te : TE} {vs : List Nat} {σ : L2.St} {H : Hp} {k l : Nat} {Q : VK}
/-- [e for x in NAME], NAME a list: the items told ahead -/
theorem lc_lst (zs : List V) (hz : zs.length = xs.length) (hi : σ[k]? = some (some (.ref a))) (hq : SqL K H a xs) (len : xs.length ≤ 100000)
    (turn : ∀ (i : Nat) (x z : V) (Hc : Hp) (Q' : VK) (R' : Hp → Prop), xs[i]? = some x → zs[i]? = some z → Same H Hc → (∀ H4, Same Hc H4 → Q' z H4) → g x (wipe σ vs) Hc fun σ2 H2 => wipe σ2 vs = wipe σ vs ∧ tt σ2 H2 fun b H3 => if b = true then te σ2 H3 Q' else R' H3)
    (fin : ∀ (D : Addr) (Hc : Hp), Same H Hc → Hc D = some (.lst zs) → Q (.ref D) Hc) :
    tLc (iList K (tVar k)) g tt te vs σ H Q := ⟨_, hi, a, rfl, ⟨_, hq⟩, fun D nD => lc_out walk_list zs hz nD len (fun Hc e => e.seq hq) (fun i x z Hc Hx Q' R' _ hzi e y q => by
      obtain ⟨rfl, hx⟩ := y
      exact turn i x z _ Q' R' hx hzi e q) (fin D)⟩
/-- [e for x, y in zip(NAME, NAME)], both lists -/
theorem lc_zip (zs : List V) (hz : zs.length = min xs.length ys.length) (hi : σ[k]? = some (some (.ref a))) (hj : σ[l]? = some (some (.ref b))) (hq : SqL K H a xs) (hp : SqL K H b ys) (len : xs.length ≤ 100000)
    (turn : ∀ (i : Nat) (x y z : V) (t : Addr) (Hc : Hp) (Q' : VK) (R' : Hp → Prop), xs[i]? = some x → ys[i]? = some y → zs[i]? = some z → Same H Hc → Hc t = some (.tup [x, y]) → (∀ H4, Same Hc H4 → Q' z H4) → g (.ref t) (wipe σ vs) Hc fun σ2 H2 => wipe σ2 vs = wipe σ vs ∧ tt σ2 H2 fun b H3 => if b = true then te σ2 H3 Q' else R' H3)
    (fin : ∀ (D : Addr) (Hc : Hp), Same H Hc → Hc D = some (.lst zs) → Q (.ref D) Hc) :
    tLc (iZip K (tCons (tVar k) (tCons (tVar l) tNil))) g tt te vs σ H Q := ⟨_, hi, _, hj, a, b, xs, ys, rfl, hq, hp, fun D nD => lc_out (walk_zip rfl) zs hz nD (by omega) (fun Hc e => ⟨e.seq hq, e.seq hp⟩) (fun i x z Hc Hx Q' R' _ hzi e y q => by
      obtain ⟨t, x', y', rfl, nt, rfl, hx, hy⟩ := y
      exact turn i x' y' z t _ Q' R' hx hy hzi (e.trans (same_new nt)) upd_same (fun H4 e4 => q H4 ((same_new nt).trans e4))) (fin D)⟩
end
/-- «xs != ys», ints -/
theorem ne_ints {K : PySem.W.Frag} {H : Hp} {a b : Addr} {xs ys : List Int} {Q : VK} (h1 : SqL K H a (xs.map V.int)) (h2 : SqL K H b (ys.map V.int)) (q : Q (.bl (!decide (xs = ys))) H) : rNeD K (.ref a) (.ref b) H Q :=
  ⟨_, _, dp_ints h1, dp_ints h2, (pl_ints xs).shaped (by decide), (pl_ints ys).shaped (by decide), by rw [eqv_ints]; exact q⟩
theorem paired_at {α β : Type} {F : α → β → Prop} {l : List α} {m : List β} (h : Paired F l m) {i : Nat} {a : α} {b : β} (ha : l[i]? = some a) (hb : m[i]? = some b) : F a b := by
  obtain ⟨b', e, f⟩ := paired_get h ha
  rw [hb] at e
  cases e
  exact f
theorem map_at {α β : Type} {f : α → β} {l : List α} {i : Nat} {z : β} (h : (l.map f)[i]? = some z) : ∃ x, l[i]? = some x ∧ z = f x := by
  rw [List.getElem?_map] at h
  cases e : l[i]? with
  | none => rw [e] at h; cases h
  | some x => rw [e] at h; exact ⟨x, rfl, (Option.some.inj h).symm⟩
/-! ### one step into a reading -/
section
variable {D : Ends} {σ : L2.St} {H : Hp}
theorem go_seq {t u : TS} (h : t { D with nx := u D } σ H) : tSeq t u D σ H := h
theorem go_if {c : TT} {t u : TS} (h : c σ H fun b H1 => if b = true then t D σ H1 else u D σ H1) : tIfS c t u D σ H := h
theorem go_test {te : TE} {Q : Bool → Hp → Prop} (h : te σ H fun x H' => ∃ k, x = .bl k ∧ Q k H') : tTest te σ H Q := h
theorem go_op {r : R2} {ta tb : TE} {Q : VK} (h : ta σ H fun x H1 => tb σ H1 fun y H2 => r x y H2 Q) : tOp r ta tb σ H Q := h
theorem go_ret {te : TE} (h : te σ H D.rt) : tRet te D σ H := h
theorem go_asg {te : TE} {g : TG} (h : te σ H fun x H1 => g x σ H1 D.nx) : tAsg te g D σ H := h
theorem go_cb {r : List V → Hp → VK → Prop} {t : TA} {Q : VK} (h : t σ H fun vs H1 => r vs H1 Q) : tCB r t σ H Q := h
theorem go_cons {te : TE} {t : TA} {Q : List V → Hp → Prop} (h : te σ H fun x H1 => t σ H1 fun xs H2 => Q (x :: xs) H2) : tCons te t σ H Q := h
end
theorem cut_toI {xs : List Int} {k : Int} (h : 0 ≤ k) : cutV (xs.map V.int) none (some k) = (xs.take k.toNat).map V.int := by
  obtain ⟨n, rfl⟩ : ∃ n : Nat, k = n := ⟨k.toNat, by omega⟩
  rw [cut_to, List.map_take, Int.toNat_natCast]
theorem cut_fromI {xs : List Int} {k : Int} (h : 0 ≤ k) : cutV (xs.map V.int) (some k) none = (xs.drop k.toNat).map V.int := by
  obtain ⟨n, rfl⟩ : ∃ n : Nat, k = n := ⟨k.toNat, by omega⟩
  rw [cut_from, List.map_drop, Int.toNat_natCast]
theorem ne_of_two {H : Hp} {a b : Addr} {o u : HO} (ha : H a = some o) (hb : H b = some u) (h : o ≠ u) : a ≠ b := fun e => by
  rw [e, hb] at ha
  exact h (Option.some.inj ha).symm
theorem Wh.held {H : Hp} {a c : Addr} {n : Nat} (h : Wh H a c n) : ∃ o, H a = some o := by
  obtain ⟨cs, t, l, h1, _⟩ := h
  exact ⟨_, h1⟩
theorem Wh.ne {H : Hp} {a c p : Addr} {n : Nat} (h : Wh H a c n) (np : H p = none) : p ≠ a := fun e => by
  obtain ⟨o, h⟩ := h.held
  rw [← e, np] at h
  cases h
theorem Wh.new {H : Hp} {a c p : Addr} {n : Nat} {o : HO} (h : Wh H a c n) (np : H p = none) : Wh (upd H p o) a c n := h.same (same_new np)
theorem Mv.new {H H' : Hp} {a p : Addr} {o : HO} (h : Mv a H H') (np : H' p = none) : Mv a H (L2.upd H' p o) := h.trans (Mv.of (same_new np))
theorem Wh.cell {H : Hp} {a c : Addr} {n : Nat} (h : Wh H a c n) : ∃ o, H c = some o := by
  obtain ⟨cs, t, l, _, h2, _⟩ := h
  exact ⟨_, h2⟩
/-- a list of the law's own is written: the wheel stays -/
theorem Wh.set {H : Hp} {a c p : Addr} {n : Nat} {o : HO} (h : Wh H a c n) (h1 : p ≠ a) (h2 : p ≠ c) : Wh (upd H p o) a c n := by
  obtain ⟨cs, t, l, g1, g2, g3⟩ := h
  exact ⟨cs, t, l, by rw [upd_ne h1.symm]; exact g1, by rw [upd_ne h2.symm]; exact g2, g3⟩
theorem Wh.nc {H : Hp} {a c p : Addr} {n : Nat} (h : Wh H a c n) (np : H p = none) : p ≠ c := fun e => by
  obtain ⟨o, h⟩ := h.cell
  rw [← e, np] at h
  cases h
end Kx
namespace Kx
open PySem
/-- other can be cut into pieces, none empty, one for each number of row -/
inductive Th : List Int → List Int → Prop
  | nil : Th [] []
  | more {r o : List Int} (x : Int) (k : Nat) : Th r o → Th (r ++ [x]) (o ++ List.replicate (k + 1) x)
def LeR (p q : Int × Int) : Prop := p.1 = q.1 ∧ p.2 ≤ q.2
theorem snoc_inj {α : Type} {l m : List α} {a b : α} (h : l ++ [a] = m ++ [b]) : l = m ∧ a = b := by
  have h2 := List.append_inj' h rfl
  exact ⟨h2.1, by simpa using h2.2⟩
theorem snoc_ne {α : Type} {l : List α} {a : α} : l ++ [a] ≠ [] := by
  intro h
  have := congrArg List.length h
  simp at this
theorem stepR_le {rs ss : List (Int × Int)} (h : Paired LeR rs ss) (x : Int) : Paired LeR (stepR rs x) (stepR ss x) := by
  rcases nil_or_snoc ss with rfl | ⟨ss', ⟨m, d⟩, rfl⟩
  · cases paired_nil h
    exact .cons ⟨rfl, Int.le_refl _⟩ .nil
  · obtain ⟨rs', ⟨m', c⟩, rfl, h1, h2, h3⟩ := paired_split ss' h
    have e : m' = m := h2
    subst e
    rw [stepR_snoc, stepR_snoc]
    by_cases e : m' = x
    · rw [if_pos e, if_pos e]
      exact Paired.snoc h1 ⟨rfl, by have : c ≤ d := h3; show c + 1 ≤ d + 1; omega⟩
    · rw [if_neg e, if_neg e]
      exact Paired.snoc (Paired.snoc h1 ⟨rfl, h3⟩) ⟨rfl, Int.le_refl _⟩
theorem stepR_up (rs : List (Int × Int)) (x : Int) : ∃ rs' c, stepR rs x = rs' ++ [(x, c)] := by
  rcases nil_or_snoc rs with rfl | ⟨rs', ⟨m, d⟩, rfl⟩
  · exact ⟨[], 1, rfl⟩
  · rw [stepR_snoc]
    by_cases e : m = x
    · exact ⟨rs', d + 1, by rw [if_pos e]⟩
    · exact ⟨rs' ++ [(m, d)], 1, by rw [if_neg e]⟩
theorem more_le {rs ss : List (Int × Int)} {x c : Int} (h : Paired LeR (rs ++ [(x, c)]) ss) : Paired LeR (rs ++ [(x, c)]) (stepR ss x) := by
  rcases nil_or_snoc ss with rfl | ⟨ss', ⟨m, d⟩, rfl⟩
  · exact absurd (paired_nil h) snoc_ne
  · obtain ⟨rs', ⟨m', c'⟩, e, h1, h2, h3⟩ := paired_split ss' h
    obtain ⟨rfl, e2⟩ := snoc_inj e
    cases e2
    have e : x = m := h2
    subst e
    rw [stepR_snoc, if_pos rfl]
    exact Paired.snoc h1 ⟨rfl, by have : c ≤ d := h3; show c ≤ d + 1; omega⟩
theorem runs_rep (o : List Int) (x : Int) : ∀ k : Nat, runs (o ++ List.replicate (k + 1) x) = stepR (runs (o ++ List.replicate k x)) x := fun k => by
  rw [List.replicate_succ', ← List.append_assoc, runs_snoc]
theorem th_le {r o : List Int} (h : Th r o) : Paired LeR (runs r) (runs o) := by
  induction h with
  | nil => exact .nil
  | @more r o x k _ ih =>
    rw [runs_snoc]
    induction k with
    | zero =>
      rw [runs_rep]
      simp only [List.replicate_zero, List.append_nil]
      exact stepR_le ih x
    | succ k ihk =>
      rw [runs_rep]
      obtain ⟨rs', c, e⟩ := stepR_up (runs r) x
      rw [e] at ihk ⊢
      exact more_le ihk
theorem fold_pos : ∀ (o : List Int) (rs : List (Int × Int)), (∀ p ∈ rs, 1 ≤ p.2) → ∀ p ∈ o.foldl stepR rs, 1 ≤ p.2
  | [], _, h => h
  | x :: o, rs, h => by
    refine fold_pos o (stepR rs x) fun p m => ?_
    rcases nil_or_snoc rs with rfl | ⟨rs', ⟨y, d⟩, rfl⟩
    · rcases List.mem_singleton.mp m with rfl
      exact Int.le_refl _
    · have hd : (1 : Int) ≤ d := h (y, d) (by simp)
      rw [stepR_snoc] at m
      by_cases e : y = x
      · rw [if_pos e] at m
        rcases List.mem_append.mp m with m | m
        · exact h p (List.mem_append_left _ m)
        · rcases List.mem_singleton.mp m with rfl
          show (1 : Int) ≤ d + 1
          omega
      · rw [if_neg e] at m
        rcases List.mem_append.mp m with m | m
        · exact h p m
        · rcases List.mem_singleton.mp m with rfl
          exact Int.le_refl _
theorem runs_pos (o : List Int) : ∀ p ∈ runs o, 1 ≤ p.2 := fold_pos o [] (fun _ m => by cases m)
theorem runs_nil {o : List Int} (h : runs o = []) : o = [] := by
  rcases nil_or_snoc o with rfl | ⟨o', x, rfl⟩
  · rfl
  · rw [runs_snoc] at h
    obtain ⟨rs', c, e⟩ := stepR_up (runs o') x
    rw [e] at h
    exact absurd h snoc_ne
theorem runs_last {o : List Int} {ss : List (Int × Int)} {x d : Int} (h : runs o = ss ++ [(x, d)]) : ∃ o', o = o' ++ [x] ∧ ((d = 1 ∧ runs o' = ss) ∨ (2 ≤ d ∧ runs o' = ss ++ [(x, d - 1)])) := by
  rcases nil_or_snoc o with rfl | ⟨o', y, rfl⟩
  · exact absurd h.symm snoc_ne
  · rw [runs_snoc] at h
    rcases nil_or_snoc (runs o') with e | ⟨rs', ⟨m, c⟩, e⟩
    · rw [e] at h
      obtain ⟨h1, h2⟩ := snoc_inj (l := []) h
      cases h2
      exact ⟨o', rfl, .inl ⟨rfl, by rw [e, h1]⟩⟩
    · have hc : (1 : Int) ≤ c := runs_pos o' (m, c) (by rw [e]; simp)
      rw [e, stepR_snoc] at h
      by_cases em : m = y
      · rw [if_pos em] at h
        obtain ⟨h1, h2⟩ := snoc_inj h
        cases h2
        subst em h1
        exact ⟨o', rfl, .inr ⟨by omega, by rw [e, Int.add_sub_cancel]⟩⟩
      · rw [if_neg em] at h
        obtain ⟨h1, h2⟩ := snoc_inj h
        cases h2
        exact ⟨o', rfl, .inl ⟨rfl, by rw [e, h1]⟩⟩
theorem runs_piece {x : Int} {ss : List (Int × Int)} : ∀ (n : Nat) {o : List Int}, runs o = ss ++ [(x, (n : Int) + 1)] → ∃ o', o = o' ++ List.replicate (n + 1) x ∧ runs o' = ss
  | 0, o, h => by
    obtain ⟨o', e, h1 | h1⟩ := runs_last h
    · exact ⟨o', e, h1.2⟩
    · omega
  | n + 1, o, h => by
    obtain ⟨o', rfl, h1 | h1⟩ := runs_last h
    · omega
    · rw [show ((n + 1 : Nat) : Int) + 1 - 1 = (n : Int) + 1 by omega] at h1
      obtain ⟨o2, rfl, e2⟩ := runs_piece n h1.2
      exact ⟨o2, by rw [List.replicate_succ' (n := n + 1), List.append_assoc], e2⟩
theorem le_th : ∀ (n : Nat) {r o : List Int}, r.length = n → Paired LeR (runs r) (runs o) → Th r o
  | 0, r, o, hn, h => by
    cases r with
    | nil =>
      have e : runs o = [] := by
        cases h' : runs o with
        | nil => rfl
        | cons p t => rw [h'] at h; cases h
      rw [runs_nil e]
      exact .nil
    | cons _ _ => simp at hn
  | n + 1, r, o, hn, h => by
    rcases nil_or_snoc r with rfl | ⟨r', x, rfl⟩
    · simp at hn
    · have hn' : r'.length = n := by simpa using hn
      rw [runs_snoc] at h
      obtain ⟨rs', c, e⟩ := stepR_up (runs r') x
      rw [e] at h
      rcases nil_or_snoc (runs o) with eo | ⟨ss, ⟨y, d⟩, eo⟩
      · rw [eo] at h
        exact absurd (paired_nil h) snoc_ne
      · rw [eo] at h
        obtain ⟨q', ⟨x', c'⟩, e1, h1, h2, h3⟩ := paired_split ss h
        obtain ⟨e3, e2⟩ := snoc_inj e1
        cases e2
        subst e3
        have e4 : x = y := h2
        subst e4
        have h3 : c ≤ d := h3
        have hpos : (1 : Int) ≤ d := runs_pos o (x, d) (by rw [eo]; simp)
        rcases nil_or_snoc (runs r') with er | ⟨ts, ⟨m, c2⟩, er⟩
        · rw [er] at e
          obtain ⟨e5, e6⟩ := snoc_inj (l := []) e
          subst e5
          obtain ⟨o', rfl, eo'⟩ := runs_piece (d - 1).toNat (o := o) (ss := ss) (x := x) (by rw [eo]; congr 3; omega)
          exact .more x _ (le_th n hn' (by rw [er, eo']; exact h1))
        · have hc2 : (1 : Int) ≤ c2 := runs_pos r' (m, c2) (by rw [er]; simp)
          rw [er, stepR_snoc] at e
          by_cases em : m = x
          · rw [if_pos em] at e
            obtain ⟨e5, e6⟩ := snoc_inj e
            cases e6
            subst e5 em
            obtain ⟨o', rfl, hh | ⟨_, hh⟩⟩ := runs_last eo
            · omega
            · exact .more m 0 (le_th n hn' (by rw [er, hh]; exact Paired.snoc h1 ⟨rfl, by show c2 ≤ d - 1; omega⟩))
          · rw [if_neg em] at e
            obtain ⟨e5, e6⟩ := snoc_inj e
            cases e6
            subst e5
            obtain ⟨o', rfl, eo'⟩ := runs_piece (d - 1).toNat (o := o) (ss := ss) (x := x) (by rw [eo]; congr 3; omega)
            exact .more x _ (le_th n hn' (by rw [er, eo']; exact h1))
theorem leR_iff : ∀ (rs ss : List (Int × Int)), (decide (rs.map Prod.fst = ss.map Prod.fst) && (rs.zip ss).all fun p => decide (p.1.2 ≤ p.2.2)) = true ↔ Paired LeR rs ss
  | [], [] => ⟨fun _ => .nil, fun _ => rfl⟩
  | [], q :: ss => ⟨fun h => by simp at h, fun h => by cases h⟩
  | p :: rs, [] => ⟨fun h => by simp at h, fun h => by cases h⟩
  | p :: rs, q :: ss => by
    have ih := leR_iff rs ss
    constructor
    · intro h
      simp only [List.map_cons, List.zip_cons_cons, List.all_cons, Bool.and_eq_true, decide_eq_true_eq, List.cons.injEq] at h
      obtain ⟨⟨h1, h2⟩, h3, h4⟩ := h
      refine .cons ⟨h1, h3⟩ (ih.mp ?_)
      simp only [Bool.and_eq_true, decide_eq_true_eq]
      exact ⟨h2, h4⟩
    · intro h
      cases h with
      | cons h1 h2 =>
        have h3 := ih.mpr h2
        simp only [Bool.and_eq_true, decide_eq_true_eq] at h3
        simp only [List.map_cons, List.zip_cons_cons, List.all_cons, Bool.and_eq_true, decide_eq_true_eq, List.cons.injEq]
        exact ⟨⟨h1.1, h3.1⟩, h1.2, h3.2⟩
theorem th_iff (r o : List Int) : (decide ((runs r).map Prod.fst = (runs o).map Prod.fst) && ((runs r).zip (runs o)).all fun p => decide (p.1.2 ≤ p.2.2)) = true ↔ Th r o :=
  (leR_iff _ _).trans ⟨le_th _ rfl, th_le⟩
end Kx
namespace Kx
open PySem PySem.Spec PyProof.Rows L2 SX LamX
/-- a def whose code object is known -/
def FunC (K : PySem.W.Frag) (x qual : Str) (st : Stmt) (f : Addr) (fd : FuncData) (c : Addr) : Prop :=
  ∃ (oc : Value) (od : Option Addr) (kV doc pm : Value) (an : Option Addr) (ct : Value) (osl : Array (Option Value)), fd = PySem.W.fnOf x qual (defArgs st) (defBody st) (defScope st) .none kV doc pm an (.ref c) ct ∧
    K.lookup f = some ⟨oc, od, .func (PySem.W.fnOf x qual (defArgs st) (defBody st) (defScope st) .none kV doc pm an (.ref c) ct), osl⟩ ∧ PySem.W.codeIn K (.ref c) qual = true
section
variable {P : Program} {w : World} {K : PySem.W.Frag} {mg : Str → Option Value} {base : Heap}
/-- the body's rule: guards told, the code object known -/
theorem okC {x qual : Str} {st : Stmt} {f c : Addr} {fd : FuncData} {N ps : List Str} {k : Nat} {sp : Sp} (F : FunC K x qual st f fd c) (S : FnScope N ps (defScope st)) (len : ∀ vs H Q E, sp vs H Q E → vs.length = ps.length)
    (hbody : ∀ (A : Around) (outer : List Env) (s : Shared) (H : Hp) (vs : List V) (Q : VK) (E : XK), A.guards = some [] → Room k (A.deeper (envOfC qual (defScope st) s.heap.objs.size f (.ref c))) → sp vs H Q E →
      ∃ t, PSs (cxOf CX0 P w K mg base N qual (defScope st) f (.ref c) A outer s H E).nox (defBody st) t ∧ t { nx := fun _ H' => Q .non H', rt := Q } (start N vs) H) :
    FnG P w K mg base CX0 (k + 1) f fd ps sp := by
  obtain ⟨oc, od, kV, doc, pm, an, ct, osl, rfl, lk, hcd⟩ := F
  refine ⟨len, fun A outer s H args us vs Q E hg hr e0 hb r hsp => ?_⟩
  refine LamX.run_ofS lk hcd S hr e0 hb r (len _ _ _ _ hsp) fun hr' => ?_
  obtain ⟨t, h, q⟩ := hbody A outer s H vs Q E hg hr' hsp
  exact ⟨t, h.nox, q⟩
theorem funC_mk {x qual : Str} {st : Stmt} {f c : Addr} {oc : Value} {od an : Option Addr} {osl : Array (Option Value)} {kV doc pm ct : Value} (l : K.lookup f = some ⟨oc, od, .func (PySem.W.fnOf x qual (defArgs st) (defBody st) (defScope st) .none kV doc pm an (.ref c) ct), osl⟩)
    (h : PySem.W.codeIn K (.ref c) qual = true) : FunC K x qual st f (PySem.W.fnOf x qual (defArgs st) (defBody st) (defScope st) .none kV doc pm an (.ref c) ct) c := ⟨oc, od, kV, doc, pm, an, ct, osl, rfl, l, h⟩
theorem funC_of {x qual : Str} {st : Stmt} {f c Pt : Addr} {fd : FuncData} (F : Fun K x qual st f fd) (g : PySem.W.nsIn K mainGlobals x = some (some (.ref f))) (t : PySem.W.tabIn K x = some (c, Pt)) : FunC K x qual st f fd c := by
  obtain ⟨oc, od, kV, doc, pm, an, cdv, ct, osl, rfl, lk, hcd⟩ := F.ex
  unfold PySem.W.tabIn at t
  rw [g] at t
  simp only [lk] at t
  have e : (PySem.W.fnOf x qual (defArgs st) (defBody st) (defScope st) .none kV doc pm an cdv ct).code = cdv := rfl
  clear e
  cases cdv with
  | ref c' =>
    simp only at t
    split at t
    · split at t
      · injection t with t
        injection t with t1 t2
        subst t1
        exact ⟨oc, od, kV, doc, pm, an, ct, osl, rfl, lk, hcd⟩
      · cases t
    · cases t
  | _ => simp at t
end
/-- no positional value, two by name: exchanged -/
def swapG {α : Type} (us ws : List α) : List α := match us, ws with | [], [v, u] => [u, v] | _, _ => []
/-- f(b = .., a = ..): two parameters, both by name, the other way round -/
theorem kb_swap {K : PySem.W.Frag} {x qual : Str} {st : Stmt} {f : Addr} {fd : FuncData} {a b : Str} (F : Fun K x qual st f fd)
    (h : ∀ (kV doc pm : Value) (an : Option Addr) (cdv ct : Value) (u v : Value), bindArgs (PySem.W.fnOf x qual (defArgs st) (defBody st) (defScope st) .none kV doc pm an cdv ct) ⟨[], [(b, v), (a, u)]⟩ = pure [(a, u), (b, v)]) :
    KBinds K fd [a, b] [b, a] swapG swapG := by
  obtain ⟨oc, od, kV, doc, pm, an, cdv, ct, osl, rfl, lk, hcd⟩ := F.ex
  refine ⟨fun s us ws X l => ?_, fun {vs us zs ws} r1 r2 => ?_⟩
  · match us, ws, l with
    | [], [v, u], _ => exact .of_eq (h kV doc pm an cdv ct u v)
    | [], [], l => cases l
    | [], [_], l => cases l
    | [], _ :: _ :: _ :: _, l => cases l
    | _ :: _, _, l => cases l
  · cases r1 with
    | cons _ _ => exact .nil
    | nil =>
      cases r2 with
      | nil => exact .nil
      | cons h1 r2 =>
        cases r2 with
        | nil => exact .nil
        | cons h2 r2 =>
          cases r2 with
          | nil => exact .cons h2 (.cons h1 .nil)
          | cons _ _ => exact .nil
/-! ### the scope of a lambda with one default, checked -/
def lamPB (sc scope : Scope) (z : Str) : Bool :=
  decide (scope.kind = .function) && !scope.isCoroutine && !scope.isGenerator && decide (scope.names.lookup z = some .local) && scope.names.all fun y => !decide (y.2 = .cell) && (!decide (y.2 = .local) || decide (y.1 = z)) && (!decide (y.2 = .free) || decide (sc.names.lookup y.1 = some .cell) || decide (sc.names.lookup y.1 = some .free))
theorem lamP_by {sc scope : Scope} {z : Str} (h : lamPB sc scope z = true) : LamP sc scope z := by
  unfold lamPB at h
  simp only [Bool.and_eq_true, Bool.or_eq_true, Bool.not_eq_true', decide_eq_true_eq, decide_eq_false_iff_not, List.all_eq_true] at h
  obtain ⟨⟨⟨⟨h1, h2⟩, h3⟩, h5⟩, h4⟩ := h
  refine { kind := h1, co := h2, gen := h3, own := fun y hy => ⟨(h4 y hy).1.1, fun e => ?_⟩, par := h5, free := fun y hy e => ?_ }
  · rcases (h4 y hy).1.2 with z | z
    · exact absurd e z
    · exact z
  · rcases (h4 y hy).2 with (z | z) | z
    · exact absurd e z
    · exact .inl z
    · exact .inr z
open PySem.W in
/-- the goal that the head leaves, of a law that makes lambdas: x its def's name, P its table -/
theorem walkL {l : OpenLaw} {n k : Nat} {q : Program} {loose : List Str} {XP : (Str → Option Value) → Heap → Prop} {YP : World → Heap → Prop} {d : DefRec} {K : Params → Frag} {x y : Str} (sp : Frag → Addr → Sp)
    (hn : l.most = some n) (hz : n ≤ sizeLine) (h0 : d.params.defaults = []) (hr : Room k callerA) (hY : ∀ (w : World) (h : Heap), YP w h → (K w.params).In h)
    (hc : ∀ p, (∃ r, (recsOf q).find? (fun r => r.name == y) = some r) ∧ ∃ c Pt, tabIn (K p) y = some (c, Pt) ∧ (K p).lookup Pt = none)
    (F : ∀ (w : World) (mg : Str → Option Value) (fa : Addr) (h : Heap), (K w.params).In h → h.Ns mainGlobals mg → mg d.name = some (.ref fa) → ∃ fd : FuncData,
      (∀ (t : Shared) (u : Value), BindsTo t fd ⟨[u], []⟩ [(x, u)]) ∧ ∀ (c Pt : Addr), tabIn (K w.params) y = some (c, Pt) → ∀ base : Heap, (K w.params).In base → base.Ns mainGlobals mg → TabB base mg c Pt → FnG l.prog w (K w.params) mg base CX0 k fa fd [x] (sp (K w.params) Pt))
    (pr : ∀ (K : Frag) (Pt : Addr) (H : Hp) (a : Addr) (ns : List Int), ns.length ≤ n → H Pt = some (.tbl #[]) → SqL K H a (ns.map V.int) → sp K Pt [.ref a] H (fun v _ => v = .bl true) fun _ _ _ => False) :
    WalkO q loose XP YP l.row.toRowW d [] (fun f us => PySem.call f us) := by
  refine walkT (x := x) (K := K) (cs := fun p => [(y, ((tabIn (K p) y).getD (0, 0)))]) (sp := fun K => sp K ((tabIn K y).getD (0, 0)).2) hn hz h0 hr hY (fun p e he => ?_) (fun w mg fa h KX G hmg => ?_) (fun p H a ns hl ht hS _ => pr _ _ H a ns hl (ht _ (List.mem_singleton.mpr rfl)) hS)
  · obtain ⟨h1, c, Pt, h2, h3⟩ := hc p
    cases List.mem_singleton.mp he
    refine ⟨h1, ?_, ?_⟩
    · rw [h2]
      rfl
    · rw [h2]
      exact h3
  · obtain ⟨fd, hb, hF⟩ := F w mg fa h KX G hmg
    obtain ⟨_, c, Pt, h2, _⟩ := hc w.params
    refine ⟨fd, hb, fun base hk hg ht => ?_⟩
    have hT := ht _ (List.mem_singleton.mpr rfl)
    simp only [h2, Option.getD_some] at hT ⊢
    exact hF c Pt h2 base hk hg hT
theorem useIt {α : Type} {P : Prop} (x : α) (h : α → P) : P := h x
theorem binds_one {K : PySem.W.Frag} {x qual a : Str} {st : Stmt} {f : Addr} {fd : FuncData} (F : Fun K x qual st f fd)
    (h : ∀ (kV doc pm : Value) (an : Option Addr) (cdv ct u : Value), bindArgs (PySem.W.fnOf x qual (defArgs st) (defBody st) (defScope st) .none kV doc pm an cdv ct) ⟨[u], []⟩ = pure [(a, u)]) : ∀ (t : Shared) (u : Value), BindsTo t fd ⟨[u], []⟩ [(a, u)] := by
  obtain ⟨oc, od, kV, doc, pm, an, cdv, ct, osl, rfl, lk, hcd⟩ := F.ex
  exact fun t u => .of_eq (h kV doc pm an cdv ct u)
theorem same_ref {mg : Str → Option Value} {x : Str} {a b : Addr} (h : mg x = some (.ref a)) (k : mg x = some (.ref b)) : a = b := by
  rw [h] at k
  injection k with k
  injection k
theorem tabIn_of {K : PySem.W.Frag} {x : Str} {f c Pt : Addr} {oc oc2 : Value} {od od2 : Option Addr} {osl osl2 : Array (Option Value)} {fd : FuncData} {vs : Array Value} (a : PySem.W.nsIn K mainGlobals x = some (some (.ref f)))
    (l : K.lookup f = some ⟨oc, od, .func fd, osl⟩) (e : fd.code = .ref c) (l2 : K.lookup c = some ⟨oc2, od2, .fields vs, osl2⟩) (v : (vs[11]? : Option Value) = some (.ref Pt)) (n : K.lookup Pt = none) :
    ∃ c Pt, PySem.W.tabIn K x = some (c, Pt) ∧ K.lookup Pt = none := by
  refine ⟨c, Pt, ?_, n⟩
  unfold PySem.W.tabIn
  rw [a]
  simp only [l, e, l2, v]
end Kx
namespace Kx
open PySem PySem.Spec PyProof.Rows L2 SX LamX
/-! ### what stays through draws and through the making of lambdas -/
/-- H without what stands at a and without tables -/
def core (a : Addr) (H : Hp) : Hp := fun b => if b = a then none else match H b with | some (.tbl _) => none | o => o
theorem core_at {a b : Addr} {H : Hp} {o : HO} (h : H b = some o) (n : b ≠ a) (t : ∀ ps, o ≠ .tbl ps) : core a H b = some o := by
  unfold core
  rw [if_neg n, h]
  cases o with
  | tbl ps => exact absurd rfl (t ps)
  | _ => rfl
theorem of_core {a b : Addr} {H : Hp} {o : HO} (h : core a H b = some o) : b ≠ a ∧ H b = some o ∧ ∀ ps, o ≠ .tbl ps := by
  unfold core at h
  by_cases e : b = a
  · rw [if_pos e] at h
    cases h
  · rw [if_neg e] at h
    cases q : H b with
    | none => rw [q] at h; cases h
    | some u =>
      rw [q] at h
      cases u with
      | tbl ps => cases h
      | _ =>
        have h' := Option.some.inj h
        subst h'
        exact ⟨e, rfl, fun ps z => by cases z⟩
theorem core_mv {a : Addr} {H H' : Hp} (m : Mv a H H') : Same (core a H) H' := fun b o h => m b o (of_core h).1 (of_core h).2.1
theorem core_ext {a : Addr} {H0 H H' : Hp} (s : Same (core a H0) H) (e : ExtN H H') : Same (core a H0) H' := fun b o h => e b o (s b o h) (of_core h).2.2
theorem Wh.ext {H H' : Hp} {a c : Addr} {n : Nat} (h : Wh H a c n) (e : ExtN H H') : Wh H' a c n := by
  obtain ⟨cs, t, l', h1, h2, h3⟩ := h
  exact ⟨cs, t, l', e _ _ h1 (fun ps z => by cases z), e _ _ h2 (fun ps z => by cases z), h3⟩
theorem Wh.tab {H : Hp} {a c P : Addr} {n : Nat} {ps : Array Value} (h : Wh H a c n) (t : H P = some (.tbl ps)) : P ≠ a := by
  obtain ⟨cs, x, l', h1, _⟩ := h
  exact ne_of_two t h1 (fun z => by cases z)
/-! ### what never is a list or tuple -/
theorem no_list {K : PySem.W.Frag} {n : String} (h1 : kitB n "list" = some false) (h2 : kitB n "tuple" = some false) : PySem.W.kitAny K (.type n) [.type "list", .type "tuple"] = some false := kit_at h1 h2
theorem flat_rep (n : Nat) (xs : List Int) : (List.replicate n (xs.map V.int)).flatten = ((List.replicate n xs).flatten).map V.int := by
  rw [List.map_flatten, List.map_replicate]
theorem rep_one (n : Nat) (x : Int) : (List.replicate n [V.int x]).flatten = (List.replicate n x).map V.int := by
  rw [List.map_replicate]
  induction n with
  | zero => rfl
  | succ j ih => rw [List.replicate_succ, List.flatten_cons, ih, List.replicate_succ]; rfl
theorem flat_length (n : Nat) (xs : List Int) : ((List.replicate n xs).flatten).length = n * xs.length := by
  induction n with
  | zero => simp
  | succ j ih => rw [List.replicate_succ, List.flatten_cons, List.length_append, ih, Nat.succ_mul, Nat.add_comm]
theorem flat_mem {n : Nat} {xs : List Int} {i : Int} (h : i ∈ (List.replicate n xs).flatten) : i ∈ xs := by
  obtain ⟨l, hl, hi⟩ := List.mem_flatten.mp h
  rw [List.eq_of_mem_replicate hl] at hi
  exact hi
/-- one and the same truth, twice -/
theorem dp_bb {K : PySem.W.Frag} {H : Hp} {p : Addr} {b : Bool} (h : H p = some (.lst [.bl b, .bl b])) : Dp K H (.ref p) (.list [.bool b, .bool b]) := .lst (.inl (.inl h)) (.cons (.bl b) (.cons (.bl b) .nil))
/-- [b, b] is shown -/
theorem bb1 (b : Bool) : (PyData.list [.bool b, .bool b]).showable = true := by cases b <;> rfl
theorem bb2 (b : Bool) : (PyData.list [.bool b, .bool b]).hasDict = false := by cases b <;> rfl
theorem bb3 (b : Bool) : (PyData.list [.bool b, .bool b]).depth ≤ 60 := by cases b <;> decide
theorem bb4 (b : Bool) : (PyData.list [.bool b, .bool b]).shown.length ≤ sizeLine := by cases b <;> decide +kernel
theorem bool_of {P : Prop} {a b : Bool} (h1 : a = true ↔ P) (h2 : b = true ↔ P) : a = b := Bool.eq_iff_iff.mpr (h1.trans h2.symm)
theorem ne_self {x : V} : (!decide (x = x)) = false := by simp
theorem th_refl : ∀ (n : Nat) (r : List Int), r.length = n → Th r r
  | 0, r, h => by
    cases r with
    | nil => exact .nil
    | cons _ _ => simp at h
  | n + 1, r, h => by
    rcases nil_or_snoc r with rfl | ⟨r', x, rfl⟩
    · simp at h
    · exact .more x 0 (th_refl n r' (by simpa using h))
end Kx
namespace Kx
open PySem PySem.Spec PyProof.Rows L2 SX LamX
/-! ### a def that calls replace: a token is out when it begins -/
section
variable {X : Cx}
theorem pst_set {i : Nat} {x : Str} {e : Expr} {te : TE} {pos pos' : Pos} (hN : X.N.Nodup) (hi : X.N[i]? = some x) (hx : Loc X.env.scope x) (he : PET X e te) (hs : swapsWith e (some (.Name x pos')) pos.line X.env = pure false := by rfl)
    (hf : X.fn x = true ∨ X.env.scope.names.lookup x = some .local := by first | exact .inl rfl | exact .inr rfl | assumption) : PST X (.Assign [.Name x pos'] e pos) (tAsg te (gName i)) := by
  intro pins s σ H D h0 I h
  refine wpAny_Assign_Name (thn (he pins s σ H _ h0 I h) fun v s1 hh => ?_) hs
  obtain ⟨y, H1, I1, r1, q1⟩ := hh
  exact store_ok I1 hN hi hx r1 (fun s2 I2 => ⟨_, H1, I2, q1⟩) hf
end
theorem okT {P : Program} {w : World} {K : PySem.W.Frag} {mg : Str → Option Value} {base : Heap} {x qual : Str} {st : Stmt} {f : Addr} {fd : FuncData} {N ps : List Str} {k : Nat} {sp : Sp} (F : Fun K x qual st f fd) (S : FnScope N ps (defScope st))
    (hnc : ((defScope st).names.all fun y => !decide (y.2 = .cell)) = true) (hps : 1 ≤ ps.length) (len : ∀ vs H Q E, sp vs H Q E → vs.length = ps.length)
    (hbody : ∀ (cdv : Value) (A : Around) (outer : List Env) (s : Shared) (H : Hp) (vs : List V) (Q : VK) (E : XK), Room k (A.deeper (envOfC qual (defScope st) s.heap.objs.size f cdv)) → sp vs H Q E →
      ∃ t, PSsT (cxOf CX0 P w K mg base N qual (defScope st) f cdv A outer s H E) (defBody st) t ∧ t { nx := fun _ H' => Q .non H', rt := Q } (start N vs) H) :
    FnOk P w K mg base CX0 (k + 1) f fd ps sp := by
  obtain ⟨oc, od, kV, doc, pm, an, cdv, ct, osl, rfl, lk, hcd⟩ := F.ex
  refine fn_ofT lk hcd S (fun y hy e => ?_) hps len fun A outer s H vs Q E hr hsp => hbody cdv A outer s H vs Q E hr hsp
  have h := List.all_eq_true.mp hnc y hy
  rw [e] at h
  exact absurd h (by decide)
/-! ### texts -/
theorem replace_S (l : List Nat) : Txt.replace (S l) ⟨#[32]⟩ ⟨#[]⟩ = S (l.filter (· != 32)) := by
  have h := PyProof.Rows.replace_strikes (S l) 32
  refine TL.ext_tl ?_
  show (Txt.replace (S l) ⟨#[32]⟩ ⟨#[]⟩).cps.toList = (S (l.filter (· != 32))).cps.toList
  rw [h]
theorem S_nil (l : List Nat) : decide (V.str (S l) = V.str "") = l.isEmpty := by
  cases l with
  | nil => rfl
  | cons c t =>
    rw [decide_eq_false]
    · rfl
    · intro e
      injection e with e
      have := congrArg (fun z : Str => z.cps.size) e
      have e0 : (Str.ofString "").cps.size = 0 := rfl
      simp [S] at this
      omega
/-- letters and blanks alone -/
theorem text_filter (l : List Nat) : ((l.filter (· != 32)).isEmpty || lowB (l.filter (· != 32))) = l.all sg := by
  have h : (l.filter (· != 32)).all low = l.all sg := by
    induction l with
    | nil => rfl
    | cons c t ih =>
      by_cases e : c = 32
      · subst e
        rw [List.filter_cons_of_neg (by simp), ih]
        rfl
      · rw [List.filter_cons_of_pos (by simpa using e), List.all_cons, List.all_cons, ih]
        have : sg c = low c := by
          unfold sg
          rw [decide_eq_false e, Bool.false_or]
        rw [this]
  unfold lowB
  rw [h]
  cases hE : (l.filter (· != 32)).isEmpty with
  | true =>
    have : l.filter (· != 32) = [] := List.isEmpty_iff.mp hE
    rw [← h, this]
    rfl
  | false => simp
/-- as an error with its part is raised -/
def RaisedPart (E : XK) (C : Addr) (H : Hp) (part : Str) : Prop := ∀ d H', Same H H' → H' d = some (.xd [("part", .str part)]) → E (.ref C) (some d) H'
/-! ### items between blanks -/
def itemsA (acc : List Nat) : List Nat → List (List Nat)
  | [] => [acc]
  | c :: r => if c = 32 then acc :: itemsA [] r else itemsA (acc ++ [c]) r
theorem pre_blank (c : Nat) (r : List Nat) : TL.pre [32] (c :: r) = decide (c = 32) := by
  by_cases h : c = 32
  · subst h
    simp [TL.pre]
  · have h' : ¬ 32 = c := fun e => h e.symm
    simp [TL.pre, h, h']
theorem spl_items : ∀ (l acc : List Nat), TL.spl [32] 0 acc l = itemsA acc l
  | [], acc => TL.spl_nil _ _ _
  | c :: r, acc => by
    by_cases h : c = 32
    · rw [TL.spl_hit (by rw [pre_blank, decide_eq_true h])]
      show acc :: TL.spl [32] 0 [] r = if c = 32 then acc :: itemsA [] r else itemsA (acc ++ [c]) r
      rw [if_pos h, spl_items r []]
    · rw [TL.spl_miss (by rw [pre_blank, decide_eq_false h])]
      show TL.spl [32] 0 (acc ++ [c]) r = if c = 32 then acc :: itemsA [] r else itemsA (acc ++ [c]) r
      rw [if_neg h, spl_items r (acc ++ [c])]
theorem split_items (l : List Nat) : Txt.split (S l) " " = (itemsA [] l).map S := by
  have h := SX.split_S (a := l) (b := [32]) (by simp) (by decide)
  rw [spl_items] at h
  exact h
def beginsA : Nat → List (List Nat) → List Nat
  | _, [] => []
  | p, x :: xs => p :: beginsA (p + x.length + 1) xs
/-- how far items reach -/
def reachA : Nat → List (List Nat) → Nat
  | p, [] => p
  | p, x :: xs => reachA (p + x.length + 1) xs
theorem beginsA_snoc : ∀ (xs : List (List Nat)) (p : Nat) (x : List Nat), beginsA p (xs ++ [x]) = beginsA p xs ++ [reachA p xs]
  | [], _, _ => rfl
  | y :: ys, p, x => by
    show p :: beginsA (p + y.length + 1) (ys ++ [x]) = p :: (beginsA (p + y.length + 1) ys ++ [reachA (p + y.length + 1) ys])
    rw [beginsA_snoc ys]
theorem reachA_snoc : ∀ (xs : List (List Nat)) (p : Nat) (x : List Nat), reachA p (xs ++ [x]) = reachA p xs + x.length + 1
  | [], _, _ => rfl
  | y :: ys, p, x => reachA_snoc ys _ x
theorem reach_items : ∀ (l acc : List Nat) (p : Nat), reachA p (itemsA acc l) = p + acc.length + l.length + 1
  | [], acc, p => rfl
  | c :: r, acc, p => by
    show reachA p (if c = 32 then acc :: itemsA [] r else itemsA (acc ++ [c]) r) = _
    by_cases h : c = 32
    · rw [if_pos h]
      show reachA (p + acc.length + 1) (itemsA [] r) = _
      rw [reach_items]
      simp
      omega
    · rw [if_neg h, reach_items]
      simp
      omega
theorem items_blank : ∀ (l acc : List Nat), itemsA acc (l ++ [32]) = itemsA acc l ++ [[]]
  | [], acc => rfl
  | c :: r, acc => by
    show (if c = 32 then acc :: itemsA [] (r ++ [32]) else itemsA (acc ++ [c]) (r ++ [32])) = (if c = 32 then acc :: itemsA [] r else itemsA (acc ++ [c]) r) ++ [[]]
    by_cases h : c = 32
    · rw [if_pos h, if_pos h, items_blank]
      rfl
    · rw [if_neg h, if_neg h, items_blank]
theorem items_sign {s : Nat} (hs : s ≠ 32) : ∀ (l acc : List Nat), ∃ xs x, itemsA acc l = xs ++ [x] ∧ itemsA acc (l ++ [s]) = xs ++ [x ++ [s]]
  | [], acc => ⟨[], acc, rfl, by show (if s = 32 then _ else itemsA (acc ++ [s]) []) = _; rw [if_neg hs]; rfl⟩
  | c :: r, acc => by
    by_cases h : c = 32
    · obtain ⟨xs, x, h1, h2⟩ := items_sign hs r []
      refine ⟨acc :: xs, x, ?_, ?_⟩
      · show (if c = 32 then acc :: itemsA [] r else _) = _
        rw [if_pos h, h1]
        rfl
      · show (if c = 32 then acc :: itemsA [] (r ++ [s]) else _) = _
        rw [if_pos h, h2]
        rfl
    · obtain ⟨xs, x, h1, h2⟩ := items_sign hs r (acc ++ [c])
      refine ⟨xs, x, ?_, ?_⟩
      · show (if c = 32 then _ else itemsA (acc ++ [c]) r) = _
        rw [if_neg h, h1]
      · show (if c = 32 then _ else itemsA (acc ++ [c]) (r ++ [s])) = _
        rw [if_neg h, h2]
theorem items_length : ∀ (l acc : List Nat), (itemsA acc l).length = l.count 32 + 1
  | [], acc => rfl
  | c :: r, acc => by
    show (if c = 32 then acc :: itemsA [] r else itemsA (acc ++ [c]) r).length = _
    by_cases h : c = 32
    · subst h
      rw [if_pos rfl, List.length_cons, items_length, List.count_cons_self]
    · rw [if_neg h, items_length, List.count_cons_of_ne h]
theorem join_items : ∀ (l acc : List Nat), TL.joinL [32] (itemsA acc l) = acc ++ l
  | [], acc => by simp [itemsA, TL.joinL]
  | c :: r, acc => by
    show TL.joinL [32] (if c = 32 then acc :: itemsA [] r else itemsA (acc ++ [c]) r) = _
    by_cases h : c = 32
    · subst h
      rw [if_pos rfl]
      have ih := join_items r []
      cases hi : itemsA [] r with
      | nil =>
        have := items_length r []
        rw [hi] at this
        simp at this
      | cons x xs =>
        rw [hi] at ih
        show acc ++ ([32] ++ TL.joinL [32] (x :: xs)) = _
        rw [ih]
        simp
    · rw [if_neg h, join_items]
      simp
theorem beginsA_length : ∀ (xs : List (List Nat)) (p : Nat), (beginsA p xs).length = xs.length
  | [], _ => rfl
  | x :: xs, p => by
    show (beginsA (p + x.length + 1) xs).length + 1 = xs.length + 1
    rw [beginsA_length xs]
theorem item_le : ∀ (l acc it : List Nat), it ∈ itemsA acc l → it.length ≤ acc.length + l.length
  | [], acc, it, h => by
    rw [List.mem_singleton.mp h]
    simp
  | c :: r, acc, it, h => by
    have h : it ∈ (if c = 32 then acc :: itemsA [] r else itemsA (acc ++ [c]) r) := h
    by_cases e : c = 32
    · rw [if_pos e] at h
      rcases List.mem_cons.mp h with rfl | h
      · simp
      · have := item_le r [] it h
        simp at this ⊢
        omega
    · rw [if_neg e] at h
      have := item_le r _ it h
      simp at this ⊢
      omega
end Kx
namespace Kx
open PySem PySem.Spec PyProof.Rows L2 SX LamX
/-! ### an int or a truth is (not) a truth -/
def rNotBI : R2 := fun x y H Q => ∃ b : Bool, y = .bl b ∧ ((∃ i : Int, x = .int i ∧ Q (.bl true) H) ∨ ∃ a : Bool, x = .bl a ∧ Q (.bl (!decide (a = b))) H)
section
variable {X : Cx}
theorem op_notBI : OpR X (compareOp .IsNot) rNotBI := by
  intro pins s σ H x y v u Q I rx ry h
  obtain ⟨b, rfl, h⟩ := h
  rcases h with ⟨i, rfl, q⟩ | ⟨a, rfl, q⟩
  · obtain ⟨t, rfl⟩ := rx
    obtain rfl : u = Value.bool b := ry
    exact wpAny_isNot_other rfl (fun z => nomatch z) ⟨.bl true, H, I, rfl, q⟩
  · exact op_notBl pins s σ H _ _ v u Q I rx ry ⟨a, b, rfl, rfl, q⟩
/-! ### list(text) -/
def signsV (l : List Nat) : List V := l.map fun c => V.str (S [c])
theorem vals_signs : ∀ {l : List Nat} {its : List Value}, l.length = its.length → (∀ (i : Nat) (c : Nat), l[i]? = some c → ∃ u : Tok, its[i]? = some (Value.str (S [c]) u)) → Vals (signsV l) its
  | [], [], _, _ => .nil
  | [], _ :: _, h, _ => by simp at h
  | _ :: _, [], h, _ => by simp at h
  | c :: l, v :: its, hl, h => by
    obtain ⟨u, e⟩ := h 0 c rfl
    have e' : v = .str (S [c]) u := by simpa using e
    exact .cons ⟨u, e'⟩ (vals_signs (by simpa using hl) fun i d hd => by
      have := h (i + 1) d (by simpa using hd)
      simpa using this)
theorem call_list_txt (hc : X.calm = true) : CallR X (.type "list") (fun xs H Q => ∃ l : List Nat, xs = [.str (S l)] ∧ l.length ≤ 1000000 ∧ ∀ p, H p = none → Q (.ref p) (upd H p (.lst (signsV l)))) := by
  intro pins s σ H xs us Q I r h
  obtain ⟨l, rfl, hl, q⟩ := h
  obtain ⟨u, rfl, t, rfl⟩ := vals1 r
  have hz : (S l).cps.size = l.length := by simp [S]
  have hn : (S l).cps.size ≤ sizeLine := by
    rw [hz]
    exact Nat.le_trans hl (by decide)
  refine call_list_str (hn := hn) (I.ok.hd hc) (S l) t fun h' tk acc' c' k e1 e2 => ?_
  obtain ⟨z1, z2⟩ := e2
  rw [hz] at z1
  have rv : Vals (signsV l) acc'.toList := by
    refine vals_signs (l := l) (by have e := Array.length_toList (xs := acc'); omega) fun i c hi => ?_
    have il : i < l.length := by
      rcases Nat.lt_or_ge i l.length with h | h
      · exact h
      · rw [List.getElem?_eq_none h] at hi
        cases hi
    have ia : i < acc'.size := by omega
    obtain ⟨d, u, h3, h4⟩ := z2 i acc'[i] (by simp [ia])
    have h5 : (S l).cps[i]? = l[i]? := by simp [S]
    rw [h5, hi] at h3
    cases h3
    refine ⟨u, ?_⟩
    have h6 : acc'.toList[i]? = some acc'[i] := by simp [ia]
    rw [h6, h4]
  exact ⟨.ref s.heap.objs.size, upd H s.heap.objs.size (.lst (signsV l)), I.laid (t' := tk) k (Nat.le_refl _) (show ObjOk X.prog X.w _ h' _ (.lst (signsV l)) from ⟨by unfold signsV; rw [List.length_map]; exact Nat.le_trans hl (by decide), acc'.toList, c', rv, by simpa using e1⟩), rfl, q _ (I.hok.fresh (Nat.le_refl _))⟩
end
/-! ### enumerate(text) -/
def IteS (x : Str) : It :=
  ⟨fun i _ => i < x.cps.size, fun i H v H' => ∃ T c, v = .ref T ∧ H T = none ∧ H' = upd H T (.tup [.int (i : Nat), .str ⟨#[c]⟩]) ∧ x.cps[i]? = some c, fun i _ => i = x.cps.size⟩
theorem draws_str {prog : Program} {w : World} {A : Around} (hh : A.handled = none) (it : Addr) (x : Str) (t : Tok) :
    Draws prog w A it [it] x.cps.size (fun i v => ∃ c u, x.cps[i]? = some c ∧ v = .str ⟨#[c]⟩ u) (fun i h => h.IsStrIter it (strIterType x) x t i) := by
  unfold strIterType
  cases x.cps.all (· < 128)
  · exact Draws.strWide hh it x t
  · exact Draws.strAscii hh it x t
theorem turn_enumS {P : Program} {w : World} {K : PySem.W.Frag} {elts : List Expr} {kk : Nat} {tpos : Pos} (x : Str) (t : Tok) (e it : Addr) :
    Turn P w K (.Tuple elts kk tpos) (IteS x) [e, it] e (fun i h => (∃ old, IsEnum h e it ((i : Nat) : Int) old) ∧ h.IsStrIter it (strIterType x) x t i ∧ e ≠ it) where
  mem := by simp
  obj := fun i h st b hb => by
    obtain ⟨⟨old, he⟩, ⟨o, ho, hc, hd⟩, _⟩ := st
    rcases (show b = e ∨ b = it by simpa using hb) with z | z
    · rw [z]
      exact ⟨_, he, fun v q => nomatch q⟩
    · rw [z]
      exact ⟨o, ho, fun v q => by rw [hd] at q; cases q⟩
  keep := fun i h h' st k => by
    obtain ⟨⟨old, he⟩, ⟨o, ho, r⟩, hne⟩ := st
    exact ⟨⟨old, k e (by simp) _ he⟩, ⟨o, k it (by simp) _ ho, r⟩, hne⟩
  item := by
    intro X hP hw hK hc i pins s σ H E I hf st hg
    subst hP hw hK
    obtain ⟨⟨old, he⟩, hit, hne⟩ := st
    have el : e < s.heap.objs.size := Heap.lt_size he
    have il : it < s.heap.objs.size := by
      obtain ⟨_, q, _⟩ := hit
      exact Heap.lt_size q
    have D := draws_str (prog := X.prog) (w := X.w) (A := X.A.in1) (I.ok.hd hc) it x t
    refine wpAny_pyNext_enum_itemD D he hit hg hne (by simpa using hne) fun u h' tk hu ho hit' hT hz hk => ?_
    obtain ⟨c, tu, hcx, rfl⟩ := hu
    refine ⟨_, rfl, wpAny_letOwnedTupleGo_enum (s := { s with heap := h', toks := tk + 1 }) ho fun h2 he' sb => ?_⟩
    have T2 := (sb.2 _ (Nat.ne_of_gt el)).trans hT
    have new : ObjOk X.prog X.w (upd H s.heap.objs.size (.tup [.int (i : Nat), .str ⟨#[c]⟩])) h2 s.heap.objs.size (.tup [.int (i : Nat), .str ⟨#[c]⟩]) :=
      ⟨by show 2 ≤ sizeLine; decide, [.int i tk, .str ⟨#[c]⟩ tu], .cons ⟨_, rfl⟩ (.cons ⟨_, rfl⟩ .nil), ⟨_, T2, rfl, _, rfl⟩⟩
    have I1 : Inv X pins σ (upd H s.heap.objs.size (.tup [.int (i : Nat), .str ⟨#[c]⟩])) { s with heap := h2, toks := tk + 1 } :=
      I.turnedNew (ch := [e, it]) (fun b ob hb q => (sb.2 b (fun z => hb (by simp [z]))).trans (hk b ob (fun z => hb (by simp [z])) (fun z => hb (by simp [z])) q)) hf (Nat.le_refl _) new
    refine ⟨.ref s.heap.objs.size, _, I1, rfl, ⟨_, c, rfl, I.hok.fresh (Nat.le_refl _), rfl, hcx⟩, ⟨⟨.str ⟨#[c]⟩ tu, ?_⟩, ?_, hne⟩, fun b hb => ?_⟩
    · rw [show ((i + 1 : Nat) : Int) = (i : Int) + 1 by omega]
      exact he'
    · obtain ⟨o, ho2, r⟩ := hit'
      exact ⟨o, (sb.2 it (Ne.symm hne)).trans ho2, r⟩
    · have hb' : b < s.heap.objs.size := by
        rcases (show b = e ∨ b = it by simpa using hb) with z | z
        · rw [z]
          exact el
        · rw [z]
          exact il
      rw [upd_ne (Nat.ne_of_lt hb')]
      exact (hf b hb).1
  done := by
    intro X hP hw hK hc i pins s σ H E I hf st hg
    subst hP hw hK
    obtain ⟨⟨old, he⟩, hit, hne⟩ := st
    obtain ⟨f0, f1, f2, f3, f4, f5⟩ := hf it (by simp)
    have hg : i = x.cps.size := hg
    subst hg
    have D := draws_str (prog := X.prog) (w := X.w) (A := X.A.in1) (I.ok.hd hc) it x t
    exact wpAny_pyNext_enum_endD D he hit fun h' eb => ⟨rfl, I.turned (t' := s.toks) (fun b o hb q => eb b o hb q) f0 f1 f3 f4 f5⟩
  self := fun A i s Q E st h => by
    obtain ⟨⟨_, he⟩, _⟩ := st
    exact wpAny_pyIter_enum he h
def iEnumS (ta : TA) : TI := fun σ H R => ta σ H fun vs H1 => ∃ x : Str, vs = [.str x] ∧ R (IteS x) H1
theorem pi_enumS {X : Cx} {e : Expr} {ta : TA} {p pos tpos : Pos} {elts : List Expr} {kk : Nat} (hg : Gl X "enumerate") (hm : X.mg "enumerate" = none) (ha : PA X [e] ta) (hs : starEach [e] X.env = [(false, eval e X.env)] := by rfl) :
    PI X (.Tuple elts kk tpos) (.Call (.Name "enumerate" p) [e] [] pos) (iEnumS ta) := by
  refine ⟨fun pins s σ H R I h => ?_⟩
  refine Call_ (ld_blt I hg hm boot_enumerate (PyProof.Rows.callWith_type1 (thn (ha.run pos pins s σ H _ I h) fun us s1 hh => ?_) hs rfl))
  obtain ⟨vs, H1, I1, r1, x, rfl, q⟩ := hh
  obtain ⟨u, rfl, t, rfl⟩ := vals1 r1
  refine call_enumerate_str fun h' he hit hz hk => wpAny_pyIter_enum he ?_
  have I2 : Inv X pins σ H1 { s1 with heap := h' } := I1.kept (t' := s1.toks) hk
  refine ⟨s1.heap.objs.size + 1, [s1.heap.objs.size + 1, s1.heap.objs.size], _, _, H1, rfl, I2, turn_enumS x t (s1.heap.objs.size + 1) s1.heap.objs.size, ⟨⟨.none, he⟩, hit, Nat.succ_ne_self _⟩, fun b hb => ?_, q⟩
  have hle : s1.heap.objs.size ≤ b := by
    rcases (show b = s1.heap.objs.size + 1 ∨ b = s1.heap.objs.size by simpa using hb) with z | z
    · rw [z]
      exact Nat.le_add_right _ _
    · rw [z]
      exact Nat.le_refl _
  exact I1.fpOk hle (I1.hok.fresh hle)
theorem walk_enumS {x : Str} : Walk (IteS x) x.cps.size (fun _ => True) (fun i H v H' => ∃ T c, v = .ref T ∧ H T = none ∧ H' = upd H T (.tup [.int (i : Nat), .str ⟨#[c]⟩]) ∧ x.cps[i]? = some c) :=
  ⟨fun _ _ h _ => h, fun _ _ => rfl, fun _ _ _ _ _ _ y => y⟩
end Kx
namespace Kx
open PySem PySem.Spec PyProof.Rows L2 SX LamX
/-! ### values of all kinds -/
def KindIs (K : PySem.W.Frag) (H : Hp) (x : V) : Prop := (∃ i, x = .int i) ∨ (∃ b, x = .bl b) ∨ (isIntV x = false ∧ ∃ n, TyX K H x (.type n) ∧ kitB n "int" = some false)
section
variable {K : PySem.W.Frag} {H H' : Hp}
theorem KindIs.same {x : V} (e : Same H H') (h : KindIs K H x) : KindIs K H' x := by
  rcases h with h | h | ⟨h, n, h1, h2⟩
  · exact .inl h
  · exact .inr (.inl h)
  · exact .inr (.inr ⟨h, n, tyx_same e h1, h2⟩)
theorem kind_non : KindIs K H .non := .inr (.inr ⟨rfl, "NoneType", .base .non, by decide +kernel⟩)
theorem kind_str (x : Str) : KindIs K H (.str x) := .inr (.inr ⟨rfl, "str", .base (.str x), by decide +kernel⟩)
theorem kind_lst {a : Addr} {ws : List V} (h : SqL K H a ws) : KindIs K H (.ref a) := .inr (.inr ⟨rfl, "list", tyL h, by decide +kernel⟩)
theorem kind_tup {a : Addr} {ws : List V} (h : SqT K H a ws) : KindIs K H (.ref a) := .inr (.inr ⟨rfl, "tuple", tyT h, by decide +kernel⟩)
theorem kind_dk {a : Addr} {kvs : List (Key × V)} (h : H a = some (.dK kvs)) : KindIs K H (.ref a) := .inr (.inr ⟨rfl, "dict", .base (.dK h), by decide +kernel⟩)
theorem hasInt_dk {a : Addr} {kvs : List (Key × V)} (h : H a = some (.dK kvs)) : HasInt K H (.ref a) := ⟨"dict", false, false, .base (.dK h), by decide +kernel, by decide +kernel, rfl⟩
end
/-- an item: of what kind it is -/
def Itm (K : PySem.W.Frag) (H : Hp) (v : V) : Prop := HasInt K H v ∧ KindIs K H v
theorem Itm.same {K : PySem.W.Frag} {H H' : Hp} {x : V} (e : Same H H') (h : Itm K H x) : Itm K H' x := ⟨h.1.same e, h.2.same e⟩
/-- codes of signs -/
def cdC (l : List Nat) : Prop := l.all (fun c => decide (c < 1114112)) = true
theorem cdC.app {l m : List Nat} (h : cdC l) (k : cdC m) : cdC (l ++ m) := by
  unfold cdC at h k ⊢
  rw [List.all_append, h, k]
  rfl
theorem cdC.sub {l m : List Nat} (h : cdC l) (k : ∀ c ∈ m, c ∈ l) : cdC m := by
  unfold cdC at h ⊢
  exact List.all_eq_true.mpr fun c hc => List.all_eq_true.mp h c (k c hc)
theorem ok_ofString (s : String) : cdC (Str.ofString s).cps.toList := by
  rw [Str.ofString_eq_toList]
  unfold cdC
  refine List.all_eq_true.mpr fun n hn => ?_
  obtain ⟨c, _, rfl⟩ := List.mem_map.mp (by simpa using hn)
  refine decide_eq_true ?_
  have hv := c.valid
  show c.val.toNat < 1114112
  rcases hv with h | ⟨_, h⟩
  · have h' : c.val.toNat < 55296 := h
    omega
  · exact h
inductive AnyV (K : PySem.W.Frag) (H : Hp) : V → Prop where
  | non : AnyV K H .non
  | bl (b : Bool) : AnyV K H (.bl b)
  | int (i : Int) : AnyV K H (.int i)
  | str (l : List Nat) (h : l.length ≤ 5000) (v : cdC l) : AnyV K H (.str (S l))
  | lst {a : Addr} {ws : List V} (h : SqL K H a ws) (n : ws.length ≤ 1000) (t : ∀ v ∈ ws, Itm K H v) : AnyV K H (.ref a)
  | tup {a : Addr} {ws : List V} (h : SqT K H a ws) (n : ws.length ≤ 1000) (t : ∀ v ∈ ws, Itm K H v) : AnyV K H (.ref a)
  | dk {a : Addr} {kvs : List (Key × V)} (h : H a = some (.dK kvs)) : AnyV K H (.ref a)
section
variable {K : PySem.W.Frag} {H H' : Hp} {x : V}
theorem AnyV.same (e : Same H H') (h : AnyV K H x) : AnyV K H' x := by
  cases h with
  | non => exact .non
  | bl b => exact .bl b
  | int i => exact .int i
  | str l h v => exact .str l h v
  | lst h n t => exact .lst (e.seq h) n fun v m => (t v m).same e
  | tup h n t => exact .tup (Same.t e h) n fun v m => (t v m).same e
  | dk h => exact .dk (e _ _ h)
theorem AnyV.itm (h : AnyV K H x) : Itm K H x := by
  cases h with
  | non => exact ⟨hasInt_non, kind_non⟩
  | bl b => exact ⟨hasInt_bl b, .inr (.inl ⟨b, rfl⟩)⟩
  | int i => exact ⟨hasInt_int i, .inl ⟨i, rfl⟩⟩
  | str l h v => exact ⟨hasInt_str _, kind_str _⟩
  | lst h n t => exact ⟨hasInt_lst h, kind_lst h⟩
  | tup h n t => exact ⟨hasInt_tup h, kind_tup h⟩
  | dk h => exact ⟨hasInt_dk h, kind_dk h⟩
/-- is it a list or a tuple -/
theorem AnyV.seq (h : AnyV K H x) : (∃ n, TyX K H x (.type n) ∧ PySem.W.kitAny K (.type n) [.type "list", .type "tuple"] = some false) ∨
    ∃ (a : Addr) (ws : List V), x = .ref a ∧ SqQ K H a ws ∧ ws.length ≤ 1000 ∧ ∀ v ∈ ws, Itm K H v := by
  cases h with
  | non => exact .inl ⟨"NoneType", .base .non, no_list (by decide +kernel) (by decide +kernel)⟩
  | bl b => exact .inl ⟨"bool", .base (.bl b), no_list (by decide +kernel) (by decide +kernel)⟩
  | int i => exact .inl ⟨"int", .base (.int i), no_list (by decide +kernel) (by decide +kernel)⟩
  | str l h v => exact .inl ⟨"str", .base (.str _), no_list (by decide +kernel) (by decide +kernel)⟩
  | lst h n t => exact .inr ⟨_, _, rfl, .inl h, n, t⟩
  | tup h n t => exact .inr ⟨_, _, rfl, .inr h, n, t⟩
  | dk h => exact .inl ⟨"dict", .base (.dK h), no_list (by decide +kernel) (by decide +kernel)⟩
/-- is it a text -/
theorem AnyV.str? (h : AnyV K H x) : (∃ l : List Nat, x = .str (S l) ∧ l.length ≤ 5000 ∧ cdC l) ∨ ∃ n, TyX K H x (.type n) ∧ kitB n "str" = some false := by
  cases h with
  | non => exact .inr ⟨"NoneType", .base .non, by decide +kernel⟩
  | bl b => exact .inr ⟨"bool", .base (.bl b), by decide +kernel⟩
  | int i => exact .inr ⟨"int", .base (.int i), by decide +kernel⟩
  | str l h v => exact .inl ⟨l, rfl, h, v⟩
  | lst h n t => exact .inr ⟨"list", tyL h, by decide +kernel⟩
  | tup h n t => exact .inr ⟨"tuple", tyT h, by decide +kernel⟩
  | dk h => exact .inr ⟨"dict", .base (.dK h), by decide +kernel⟩
end
theorem S_of (x : Str) : S x.cps.toList = x := by
  cases x
  simp [S]
theorem any_text {K : PySem.W.Frag} {H : Hp} (x : Str) (h : x.length ≤ 5000) (v : cdC x.cps.toList) : AnyV K H (.str x) := by
  have e := AnyV.str (K := K) (H := H) x.cps.toList (by simpa [Str.length] using h) v
  rw [S_of] at e
  exact e
theorem itms_nil {K : PySem.W.Frag} {H : Hp} : ∀ v ∈ ([] : List V), Itm K H v := fun _ m => by cases m
theorem itms_cons {K : PySem.W.Frag} {H : Hp} {x : V} {xs : List V} (h : Itm K H x) (t : ∀ v ∈ xs, Itm K H v) : ∀ v ∈ x :: xs, Itm K H v := fun v m => by
  rcases List.mem_cons.mp m with rfl | m
  · exact h
  · exact t v m
theorem itm_int {K : PySem.W.Frag} {H : Hp} (i : Int) : Itm K H (.int i) := ⟨hasInt_int i, .inl ⟨i, rfl⟩⟩
theorem itm_bl {K : PySem.W.Frag} {H : Hp} (b : Bool) : Itm K H (.bl b) := ⟨hasInt_bl b, .inr (.inl ⟨b, rfl⟩)⟩
theorem joinL_nil : ∀ (l : List Nat), TL.joinL [] (l.map fun c => [c]) = l
  | [] => rfl
  | [c] => rfl
  | c :: d :: r => by
    have ih := joinL_nil (d :: r)
    show [c] ++ ([] ++ TL.joinL [] ((d :: r).map fun c => [c])) = c :: d :: r
    rw [ih]
    rfl
theorem join_signs (l : List Nat) : Txt.join "" (l.map fun c => S [c]) = S l := by
  have h := SX.join_S [] (l.map fun c => [c])
  rw [joinL_nil, List.map_map] at h
  exact h
theorem sum_signs : ∀ (l : List Nat), ((l.map fun c => S [c]).map (·.length)).sum = l.length
  | [] => rfl
  | c :: r => by
    show (S [c]).length + ((r.map fun c => S [c]).map (·.length)).sum = r.length + 1
    rw [sum_signs r, S_len]
    show 1 + r.length = _
    omega
theorem signs_map (l : List Nat) : signsV l = (l.map fun c => S [c]).map V.str := by
  unfold signsV
  rw [List.map_map]
  rfl
theorem in_signs {l : List Nat} {v : V} (h : v ∈ signsV l) : ∃ c, c ∈ l ∧ v = .str (S [c]) := by
  obtain ⟨c, hc, e⟩ := List.mem_map.mp h
  exact ⟨c, hc, e.symm⟩
end Kx
namespace Kx
open PySem PySem.Spec PyProof.Rows L2 SX LamX
section
variable {K : PySem.W.Frag} {J : It} {n : Nat} {G : Hp → Prop} {Y : Nat → Hp → V → Hp → Prop} {g : TG} {tt : TT} {te : TE} {vs : List Nat} {σ : L2.St} {H1 : Hp} {D : Addr} {Qd : Hp → Prop}
theorem keep_some {zs : List (Option V)} {i : Nat} {v : V} (h : zs[i]? = some (some v)) : (zs.take (i + 1)).filterMap id = (zs.take i).filterMap id ++ [v] := by
  rw [List.take_add_one, h, List.filterMap_append]
  rfl
theorem keep_none {zs : List (Option V)} {i : Nat} (h : zs[i]? = some none) : (zs.take (i + 1)).filterMap id = (zs.take i).filterMap id := by
  rw [List.take_add_one, h, List.filterMap_append]
  simp
/-- a comprehension with a test, its items told ahead: none where the test fails -/
theorem lc_keep (w : Walk J n G Y) (zs : List (Option V)) (hz : zs.length = n) (nD : H1 D = none) (len : n ≤ 1000000) (hG : ∀ Hc, Same H1 Hc → G Hc)
    (turn : ∀ (i : Nat) (x : V) (z : Option V) (Hc Hx : Hp) (Q' : VK) (R' : Hp → Prop), i < n → zs[i]? = some z → Same H1 Hc → Y i Hc x Hx → (∀ v H4, z = some v → Same Hc H4 → Q' v H4) → (∀ H4, z = none → Same Hc H4 → R' H4) → g x (wipe σ vs) Hx fun σ2 H2 => wipe σ2 vs = wipe σ vs ∧ tt σ2 H2 fun b H3 => if b = true then te σ2 H3 Q' else R' H3)
    (fin : ∀ Hc, Same H1 Hc → Hc D = some (.lst (zs.filterMap id)) → Qd Hc) :
    ∃ W : Nat → Nat → Hp → Prop, (∃ m, W 0 m (upd H1 D (.lst []))) ∧ ∀ i m H, W i m H →
      (J.stop i H ∧ Qd H) ∨ (J.go i H ∧ ∃ Nx : Hp → Prop, (∀ H', Nx H' → ∃ m', m' < m ∧ W (i + 1) m' H') ∧ ∀ x H', J.yld i H x H' → g x (wipe σ vs) H' fun σ2 H2 => wipe σ2 vs = wipe σ vs ∧ tt σ2 H2 fun b H3 =>
        if b = true then te σ2 H3 fun y H4 => ∃ acc, H4 D = some (.lst acc) ∧ acc.length < sizeLine ∧ Nx (upd H4 D (.lst (acc ++ [y]))) else Nx H3) := by
  refine lc_it w (fun i Hc => Same H1 Hc ∧ Hc D = some (.lst ((zs.take i).filterMap id))) ⟨same_new nD, upd_same⟩ (fun i H _ p => hG H p.1) (fun i x Hc Hx hi p y => ?_) (fun Hc p => ?_)
  · have hzi : zs[i]? = some (zs[i]'(by omega)) := List.getElem?_eq_getElem (by omega)
    refine turn i x _ Hc Hx _ _ hi hzi p.1 y (fun v H4 ev e4 => ⟨_, e4 _ _ p.2, ?_, ?_⟩) (fun H4 ev e4 => ⟨p.1.trans e4, ?_⟩)
    · have h1 : ((zs.take i).filterMap id).length ≤ (zs.take i).length := List.length_filterMap_le ..
      rw [List.length_take] at h1
      exact Nat.lt_of_le_of_lt (show _ ≤ 1000000 by omega) (by decide)
    · refine ⟨fun b o z => ?_, ?_⟩
      · rw [upd_ne (ne_of_none z nD)]
        exact e4 _ _ (p.1 b o z)
      · rw [upd_same, keep_some (by rw [hzi, ev])]
    · rw [keep_none (by rw [hzi, ev])]
      exact e4 _ _ p.2
  · rw [← hz, List.take_length] at p
    exact fin Hc p.1 p.2
end
section
variable {K : PySem.W.Frag} {a : Addr} {xs : List V} {g : TG} {tt : TT} {te : TE} {vs : List Nat} {σ : L2.St} {H : Hp} {k : Nat} {Q : VK} {l : List Nat}
/-- [e for c in NAME if t], NAME a text -/
theorem lc_txt (zs : List (Option V)) (hz : zs.length = l.length) (hi : σ[k]? = some (some (.str (S l)))) (len : l.length ≤ 1000000)
    (turn : ∀ (i : Nat) (c : Nat) (z : Option V) (Hc : Hp) (Q' : VK) (R' : Hp → Prop), l[i]? = some c → zs[i]? = some z → Same H Hc → (∀ v H4, z = some v → Same Hc H4 → Q' v H4) → (∀ H4, z = none → Same Hc H4 → R' H4) → g (.str (S [c])) (wipe σ vs) Hc fun σ2 H2 => wipe σ2 vs = wipe σ vs ∧ tt σ2 H2 fun b H3 => if b = true then te σ2 H3 Q' else R' H3)
    (fin : ∀ (D : Addr) (Hc : Hp), Same H Hc → Hc D = some (.lst (zs.filterMap id)) → Q (.ref D) Hc) :
    tLc (iStr (tVar k)) g tt te vs σ H Q := by
  have e : (S l).cps.size = l.length := by simp [S]
  refine ⟨_, hi, S l, rfl, fun D nD => lc_keep walk_str zs (by rw [hz, e]) nD (by rw [e]; exact len) (fun _ _ => trivial) (fun i x z Hc Hx Q' R' _ hzi e1 y q r => ?_) (fin D)⟩
  obtain ⟨rfl, c, hc, rfl⟩ := y
  have hc' : l[i]? = some c := by
    have : (S l).cps[i]? = l[i]? := by simp [S]
    rw [← this]
    exact hc
  exact turn i c z _ Q' R' hc' hzi e1 q r
/-- [e for x in NAME if t], NAME a list -/
theorem lc_lstk (zs : List (Option V)) (hz : zs.length = xs.length) (hi : σ[k]? = some (some (.ref a))) (hq : SqL K H a xs) (len : xs.length ≤ 1000000)
    (turn : ∀ (i : Nat) (x : V) (z : Option V) (Hc : Hp) (Q' : VK) (R' : Hp → Prop), xs[i]? = some x → zs[i]? = some z → Same H Hc → (∀ v H4, z = some v → Same Hc H4 → Q' v H4) → (∀ H4, z = none → Same Hc H4 → R' H4) → g x (wipe σ vs) Hc fun σ2 H2 => wipe σ2 vs = wipe σ vs ∧ tt σ2 H2 fun b H3 => if b = true then te σ2 H3 Q' else R' H3)
    (fin : ∀ (D : Addr) (Hc : Hp), Same H Hc → Hc D = some (.lst (zs.filterMap id)) → Q (.ref D) Hc) :
    tLc (iList K (tVar k)) g tt te vs σ H Q := ⟨_, hi, a, rfl, ⟨_, hq⟩, fun D nD => lc_keep walk_list zs hz nD len (fun Hc e => e.seq hq) (fun i x z Hc Hx Q' R' _ hzi e y q r => by
      obtain ⟨rfl, hx⟩ := y
      exact turn i x z _ Q' R' hx hzi e q r) (fin D)⟩
end
/-- texts of one sign each, laid -/
theorem pl_signs {l : List Nat} (h : cdC l) : ∀ d ∈ l.map (fun c => PyData.str (S [c])), Pl 0 d := fun d m => by
  obtain ⟨c, hc, rfl⟩ := List.mem_map.mp m
  refine ⟨?_, Nat.le_refl _⟩
  have h2 := List.all_eq_true.mp h c hc
  show (S [c]).cps.all (· < 0x110000) = true
  simpa [S] using of_decide_eq_true h2
theorem dp_signs {K : PySem.W.Frag} {H : Hp} (l : List Nat) : Paired (fun v d => Dp K H v d) (signsV l) (l.map fun c => PyData.str (S [c])) := paired_of_map _ _ fun c _ => .str (S [c])
/-- «xs == []», any laid items -/
theorem eq_nilD {K : PySem.W.Frag} {H : Hp} {a p : Addr} {vs : List V} {ds : List PyData} {k : Nat} {Q : VK} (h1 : SqL K H a vs) (hd : Paired (fun v d => Dp K H v d) vs ds) (hp : ∀ d ∈ ds, Pl k d) (hk : k ≤ 60) (h2 : H p = some (.lst [])) (q : Q (.bl (decide (ds = []))) H) : rEqD K (.ref a) (.ref p) H Q :=
  ⟨_, _, .lst h1 (dpAll_of hd), dp_ints (xs := []) (.inl (.inl h2)), (Pl.lst hp).shaped (by omega), (pl_ints []).shaped (by decide), by
    have e : PyData.eqv (.list ds) (.list (([] : List Int).map PyData.int)) = decide (ds = []) := by
      cases ds with
      | nil => rfl
      | cons d t => rfl
    rw [e]
    exact q⟩
theorem filt_map {α β : Type} (p : α → Bool) (f : α → β) : ∀ (l : List α), (l.map fun c => if p c = true then some (f c) else none).filterMap id = (l.filter p).map f
  | [] => rfl
  | c :: l => by
    rw [List.map_cons, List.filterMap_cons]
    cases h : p c with
    | true =>
      rw [List.filter_cons_of_pos h]
      show f c :: _ = f c :: _
      rw [filt_map p f l]
    | false =>
      rw [List.filter_cons_of_neg (by rw [h]; decide)]
      exact filt_map p f l
end Kx
namespace Kx
open PySem PySem.Spec PyProof.Rows L2 SX LamX
section
variable {D : Ends} {σ : L2.St} {H : Hp}
theorem go_and {ta tb : TE} {Q : VK} (h : ta σ H fun x H1 => ∃ c, x = .bl c ∧ if c = true then tb σ H1 Q else Q (.bl false) H1) : tAndV ta tb σ H Q := h
theorem go_chain {r r' : R2} {ta tb tc : TE} {Q : VK} (h : ta σ H fun x H1 => tb σ H1 fun y H2 => r x y H2 fun z H3 => ∃ k, z = .bl k ∧ if k = true then tc σ H3 fun w' H4 => r' y w' H4 Q else Q (.bl false) H3) : tChain r r' ta tb tc σ H Q := h
theorem go_or {ta tb : TE} {Q : VK} (h : ta σ H fun x H1 => ∃ c, x = .bl c ∧ if c = true then Q (.bl true) H1 else tb σ H1 Q) : tOrV ta tb σ H Q := h
theorem go_lst {t : TA} {Q : VK} (h : t σ H fun xs H1 => xs.length ≤ sizeLine ∧ ∀ p, H1 p = none → Q (.ref p) (upd H1 p (.lst xs))) : tLst t σ H Q := h
end
/-- both, told as one truth -/
theorem and_join {c : Bool} {tb : TE} {Q : VK} {σ : L2.St} {H : Hp} (d : Bool) (h : c = true → ∀ Q' : VK, Q' (.bl d) H → tb σ H Q') (q : Q (.bl (c && d)) H) : ∃ c', V.bl c = .bl c' ∧ if c' = true then tb σ H Q else Q (.bl false) H := by
  refine ⟨c, rfl, ?_⟩
  cases c with
  | true => exact h rfl _ q
  | false => exact q
theorem and_b {c : Bool} {A B : Prop} (h1 : c = true → A) (h2 : c = false → B) : if c = true then A else B := by
  cases c with
  | true => rw [if_pos rfl]; exact h1 rfl
  | false => rw [if_neg (by decide)]; exact h2 rfl
theorem map_nil_dec {α β : Type} (f : α → β) (l : List α) [Decidable (l.map f = [])] : decide (l.map f = []) = l.isEmpty := by
  cases l with
  | nil => exact decide_eq_true rfl
  | cons a t => exact decide_eq_false (fun e => nomatch e)
theorem filt_empty (p : Nat → Bool) (l : List Nat) : (l.filter fun c => !p c).isEmpty = l.all p := by
  induction l with
  | nil => rfl
  | cons c t ih =>
    cases h : p c with
    | true =>
      rw [List.filter_cons_of_neg (by rw [h]; decide), List.all_cons, h, ih]
      rfl
    | false =>
      rw [List.filter_cons_of_pos (by rw [h]; rfl), List.all_cons, h]
      rfl
/-- one sign is the blank -/
theorem is_blank (c : Nat) : decide (V.str (S [c]) = V.str (Str.ofString " ")) = decide (c = 32) := by
  by_cases hc : c = 32
  · subst hc
    rfl
  · rw [decide_eq_false hc, decide_eq_false]
    intro e
    injection e with e
    have := congrArg (fun z : Str => z.cps.toList) e
    simp [S] at this
    exact hc (by have h2 : (Str.ofString " ").cps.toList = [32] := rfl; rw [h2] at this; simpa using this)
theorem take_succ {α : Type} {l : List α} {i : Nat} {c : α} (h : l[i]? = some c) : l.take (i + 1) = l.take i ++ [c] := by
  rw [List.take_add_one, h]
  rfl
theorem ixN_last (n : Nat) : ixN (n + 1) (-1) = some n := by
  unfold ixN
  rw [if_neg (by decide), if_pos (by omega)]
  congr 1
  omega
end Kx
namespace Kx
open PySem PySem.Spec PyProof.Rows L2 SX LamX
section
variable {X : Cx} {k : Nat} {f : Addr} {fd : FuncData} {ps : List Str} {sp : Sp} {x : Str} {p pos : Pos} {e1 : Expr} {more : List Expr} {t : TA}
/-! ### a call of a def that is promised only where no repr runs around it; it raises nothing -/
theorem pe_callG (F : FnG X.prog X.w X.K X.mg X.base CX0 k f fd ps sp) (nog : X.A.guards = some []) (room : Room k X.A) (here : Gl X x) (at_f : X.mg x = some (.ref f)) (keeps : PySem.W.keepIn X.K (.ref f) = true) (bd : Binds X.K fd ps [])
    (args : PA X (e1 :: more) t) (nd : (x == ("__debug__" : Str)) = false := by decide) (h1 : starEach (e1 :: more) X.env = (false, eval e1 X.env) :: starEach more X.env := by rfl) (h2 : (backTo pos (starEach more X.env)).any (·.1) = false := by rfl) :
    PE X (.Call (.Name x p) (e1 :: more) [] pos) (tCall sp [] C8.E0 t) := by
  constructor
  intro pins s σ H Q I want
  apply wpAny_Call_Name_kw
  refine ld_glob I here at_f ?_ nd
  refine PySem.W.callWith_K (h₀ := X.base) I.ok.mod.kin keeps (thn (args.run pos pins s σ H _ I want) fun us st hh => ?_) h1 h2
  obtain ⟨vs, Hm, J, rv, promise⟩ := hh
  rw [List.append_nil] at promise
  have size : (us ++ []).length = ps.length := by
    rw [List.append_nil, ← rv.length]
    exact F.len _ _ _ _ promise
  have bound := bd st us J.kIn size
  rw [List.append_nil] at bound
  refine ⟨J.kIn, wpAny_call (codeAny_mono (F.go X.A X.stack st Hm ⟨us, []⟩ us vs Q C8.E0 nog room J.env0 bound rv promise) fun r st2 done => ?_)⟩
  match r, done with
  | .ok (.ret u), done => exact J.after done
  | .error e, done => exact (show False from done).elim
  | .ok .next, done => exact done.elim
  | .ok .brk, done => exact done.elim
  | .ok .cont, done => exact done.elim
end
/-! ### tables stay through draws -/
theorem Tabs.mv {T : List (Addr × Str)} {a c : Addr} {n : Nat} {H H' : Hp} (t : Tabs T H) (w : Wh H a c n) (m : Mv a H H') : Tabs T H' := fun p hp => by
  obtain ⟨ps, h1, h2, h3⟩ := t p hp
  obtain ⟨cs, x, l', g1, _⟩ := w
  refine ⟨ps, m _ _ (ne_of_two h1 g1 (fun z => by cases z)) h1, h2, fun pos cv hc => ?_⟩
  obtain ⟨c', e1, e2⟩ := h3 pos cv hc
  exact ⟨c', e1, m _ _ (ne_of_two e2 g1 (fun z => by cases z)) e2⟩
theorem Tabs.same {T : List (Addr × Str)} {H H' : Hp} (t : Tabs T H) (m : Same H H') : Tabs T H' := fun p hp => (t p hp).ext m
end Kx
namespace Kx
open PySem PySem.Spec PyProof.Rows L2 SX LamX
/-! ### data that repr shows -/
structure Sh (k m : Nat) (d : PyData) : Prop where
  sh : d.showable = true
  nd : d.hasDict = false
  dp : d.depth ≤ k
  lv : d.leavesShort 13 = true
  bk : d.bulk ≤ m
theorem Sh.len {k m : Nat} {d : PyData} (h : Sh k m d) (hm : m ≤ 1048576) : d.shown.length ≤ sizeLine :=
  PyData.shown_fits_bulk (B := 13) (by decide) (by decide) h.lv (Nat.le_trans h.bk hm)
theorem Sh.up {k l m n : Nat} {d : PyData} (h : Sh k m d) (hk : k ≤ l) (hm : m ≤ n) : Sh l n d := ⟨h.sh, h.nd, Nat.le_trans h.dp hk, h.lv, Nat.le_trans h.bk hm⟩
theorem sh_bool (b : Bool) : Sh 0 0 (.bool b) := ⟨rfl, rfl, Nat.le_refl _, rfl, Nat.le_refl _⟩
theorem sh_none : Sh 0 0 .none := ⟨rfl, rfl, Nat.le_refl _, rfl, Nat.le_refl _⟩
theorem sh_int {i : Int} (h : i.natAbs < 1000000000000) : Sh 0 0 (.int i) :=
  ⟨by
    simp only [PyData.showable, decide_eq_true_eq]
    by_cases z : i.natAbs = 0
    · rw [z]; decide
    · exact Nat.lt_of_lt_of_le ((Nat.log2_lt z).mpr (Nat.lt_of_lt_of_le h (by decide : 1000000000000 ≤ 2 ^ 40))) (by decide), rfl, Nat.le_refl _, by simp only [PyData.leavesShort, decide_eq_true_eq]; exact PyData.shown_int_le (by exact h), Nat.le_refl _⟩
theorem sh_str {x : Str} {l : List Nat} (e : x = S l) (h : cdC l) : Sh 0 l.length (.str x) :=
  ⟨rfl, rfl, Nat.le_refl _, by
    subst e
    simp only [PyData.leavesShort, List.all_eq_true, decide_eq_true_eq]
    intro c hc
    have h2 := List.all_eq_true.mp h c (by simpa [S] using hc)
    have h3 := of_decide_eq_true h2
    exact Nat.lt_of_lt_of_le h3 (by decide), by
    subst e
    simp [PyData.bulk, S]⟩
/-- items that are shown, m: their signs and one each -/
inductive ShA (k : Nat) : Nat → List PyData → Prop
  | nil : ShA k 0 []
  | cons {m n : Nat} {d : PyData} {ds : List PyData} : Sh k m d → ShA k n ds → ShA k (m + 1 + n) (d :: ds)
theorem ShA.all {k m : Nat} {ds : List PyData} (h : ShA k m ds) : PyData.showableAll ds = true ∧ PyData.hasDictAll ds = false ∧ PyData.depthAll ds ≤ k ∧ PyData.leavesShortAll 13 ds = true ∧ PyData.bulkAll ds ≤ m := by
  induction h with
  | nil => exact ⟨rfl, rfl, Nat.zero_le _, rfl, Nat.le_refl _⟩
  | cons h1 _ ih =>
    obtain ⟨a, b, c, d, e⟩ := ih
    refine ⟨?_, ?_, ?_, ?_, ?_⟩
    · simp only [PyData.showableAll, h1.sh, a, Bool.and_self]
    · simp only [PyData.hasDictAll, h1.nd, b, Bool.or_self]
    · simp only [PyData.depthAll]
      exact Nat.max_le.mpr ⟨h1.dp, c⟩
    · simp only [PyData.leavesShortAll, h1.lv, d, Bool.and_self]
    · simp only [PyData.bulkAll]
      have := h1.bk
      omega
theorem ShA.lst {k m : Nat} {ds : List PyData} (h : ShA k m ds) : Sh (k + 1) m (.list ds) := by
  obtain ⟨a, b, c, d, e⟩ := h.all
  exact ⟨by simp only [PyData.showable, a], by simp only [PyData.hasDict, b], by simp only [PyData.depth]; omega, by simp only [PyData.leavesShort, d], by simp only [PyData.bulk]; exact e⟩
theorem ShA.tup {k m : Nat} {ds : List PyData} (h : ShA k m ds) : Sh (k + 1) m (.tuple ds) := by
  obtain ⟨a, b, c, d, e⟩ := h.all
  exact ⟨by simp only [PyData.showable, a], by simp only [PyData.hasDict, b], by simp only [PyData.depth]; omega, by simp only [PyData.leavesShort, d], by simp only [PyData.bulk]; exact e⟩
theorem shA_ints {k : Nat} : ∀ (l : List Int), (∀ i ∈ l, i.natAbs < 1000000000000) → ShA k l.length (l.map PyData.int)
  | [], _ => .nil
  | i :: r, h => by
    have := ShA.cons ((sh_int (h i List.mem_cons_self)).up (Nat.zero_le k) (Nat.le_refl _)) (shA_ints r fun j m => h j (List.mem_cons_of_mem _ m))
    have e : 0 + 1 + r.length = (i :: r).length := by rw [List.length_cons]; omega
    rw [e] at this
    exact this
theorem shA_texts {k : Nat} : ∀ (xs : List (List Nat)), (∀ x ∈ xs, cdC x) → ShA k (reachA 0 xs) (xs.map fun x => PyData.str (S x))
  | [], _ => .nil
  | x :: r, h => by
    have := ShA.cons ((sh_str rfl (h x List.mem_cons_self)).up (Nat.zero_le k) (Nat.le_refl _)) (shA_texts r fun y m => h y (List.mem_cons_of_mem _ m))
    have e : ∀ (r : List (List Nat)) (p : Nat), reachA p r = p + reachA 0 r := fun r => by
      induction r with
      | nil => intro p; rfl
      | cons y r ih =>
        intro p
        show reachA (p + y.length + 1) r = p + reachA (0 + y.length + 1) r
        rw [ih, ih (0 + y.length + 1)]
        omega
    have e2 : x.length + 1 + reachA 0 r = reachA 0 (x :: r) := by
      show _ = reachA (0 + x.length + 1) r
      rw [e r (0 + x.length + 1)]
      omega
    rw [e2] at this
    exact this
theorem item_cd : ∀ (l acc it : List Nat), it ∈ itemsA acc l → ∀ c ∈ it, c ∈ acc ∨ c ∈ l
  | [], acc, it, h, c, hc => by
    rw [List.mem_singleton.mp h] at hc
    exact .inl hc
  | d :: r, acc, it, h, c, hc => by
    have h : it ∈ (if d = 32 then acc :: itemsA [] r else itemsA (acc ++ [d]) r) := h
    by_cases e : d = 32
    · rw [if_pos e] at h
      rcases List.mem_cons.mp h with rfl | h
      · exact .inl hc
      · rcases item_cd r [] it h c hc with z | z
        · cases z
        · exact .inr (List.mem_cons_of_mem _ z)
    · rw [if_neg e] at h
      rcases item_cd r _ it h c hc with z | z
      · rcases List.mem_append.mp z with z | z
        · exact .inl z
        · rw [List.mem_singleton.mp z]
          exact .inr List.mem_cons_self
      · exact .inr (List.mem_cons_of_mem _ z)
theorem begins_le : ∀ (xs : List (List Nat)) (p : Nat), ∀ b ∈ beginsA p xs, b ≤ reachA p xs
  | [], p, b, h => by cases h
  | x :: xs, p, b, h => by
    have r : ∀ (xs : List (List Nat)) (p : Nat), p ≤ reachA p xs := fun xs => by
      induction xs with
      | nil => exact fun p => Nat.le_refl _
      | cons y ys ih =>
        intro p
        show p ≤ reachA (p + y.length + 1) ys
        exact Nat.le_trans (by omega) (ih _)
    show b ≤ reachA (p + x.length + 1) xs
    rcases List.mem_cons.mp h with rfl | h
    · exact Nat.le_trans (by omega) (r xs _)
    · exact begins_le xs _ b h
/-- repr of data -/
theorem go_repr {K : PySem.W.Frag} {a : Addr} {d : PyData} {k m : Nat} {H : Hp} {Q : VK} (hd : Dp K H (.ref a) d) (h : Sh k m d) (hk : k ≤ 60) (hm : m ≤ 1048576) (q : Q (.str d.shown) H) : rRepr K [.ref a] H Q :=
  ⟨a, d, rfl, hd, h.sh, h.nd, Nat.le_trans h.dp hk, h.len hm, q⟩
/-- one and the same text is no other -/
theorem rne_self {x : Str} {H : Hp} {Q : Bool → Hp → Prop} (q : Q false H) : ∃ k, V.bl (!decide (V.str x = V.str x)) = .bl k ∧ Q k H := ⟨false, by simp, q⟩
theorem bools_dp {K : PySem.W.Frag} {H : Hp} {p : Addr} {bs : List Bool} (h : H p = some (.lst (bs.map V.bl))) : Dp K H (.ref p) (.list (bs.map PyData.bool)) := .lst (.inl (.inl h)) (by
  clear h
  induction bs with
  | nil => exact .nil
  | cons b t ih => exact .cons (.bl b) ih)
theorem shA_bools {k : Nat} : ∀ (l : List Bool), ShA k l.length (l.map PyData.bool)
  | [] => .nil
  | i :: r => by
    have := ShA.cons ((sh_bool i).up (Nat.zero_le k) (Nat.le_refl _)) (shA_bools r)
    have e : 0 + 1 + r.length = (i :: r).length := by rw [List.length_cons]; omega
    rw [e] at this
    exact this
theorem cnt_count : ∀ (l : List Nat), cnt 32 l = (l.count 32 : Nat)
  | [] => rfl
  | c :: r => by
    rw [cnt_cons, cnt_count r]
    by_cases h : c = 32
    · subst h
      rw [List.count_cons_self]
      simp
      omega
    · rw [List.count_cons_of_ne h]
      simp [h]
theorem count_blank (l : List Nat) : Txt.count (S l) " " = (l.count 32 : Nat) := by
  have h := count_cnt (S l) 32
  have e : (" " : Str) = ⟨#[32]⟩ := rfl
  rw [e, h]
  have e2 : (S l).cps.toList = l := by simp [S]
  rw [e2, cnt_count]
end Kx
namespace Kx
open PySem PySem.Spec PyProof.Rows L2 SX LamX
/-- no positional value, one by name -/
def oneG {α : Type} (us ws : List α) : List α := match us, ws with | [], [u] => [u] | _, _ => []
theorem kb_one {K : PySem.W.Frag} {x qual : Str} {st : Stmt} {f : Addr} {fd : FuncData} {a : Str} (F : Fun K x qual st f fd)
    (h : ∀ (kV doc pm : Value) (an : Option Addr) (cdv ct : Value) (u : Value), bindArgs (PySem.W.fnOf x qual (defArgs st) (defBody st) (defScope st) .none kV doc pm an cdv ct) ⟨[], [(a, u)]⟩ = pure [(a, u)]) :
    KBinds K fd [a] [a] oneG oneG := by
  obtain ⟨oc, od, kV, doc, pm, an, cdv, ct, osl, rfl, lk, hcd⟩ := F.ex
  refine ⟨fun s us ws X l => ?_, fun {vs us zs ws} r1 r2 => ?_⟩
  · match us, ws, l with
    | [], [u], _ => exact .of_eq (h kV doc pm an cdv ct u)
    | [], [], l => cases l
    | [], _ :: _ :: _, l => cases l
    | _ :: _, _, l => cases l
  · cases r1 with
    | cons _ _ => exact .nil
    | nil =>
      cases r2 with
      | nil => exact .nil
      | cons h1 r2 =>
        cases r2 with
        | nil => exact .cons h1 .nil
        | cons _ _ => exact .nil
/-- no positional value, three by name: c, a, b for a, b, c -/
def turnG {α : Type} (us ws : List α) : List α := match us, ws with | [], [c, a, b] => [a, b, c] | _, _ => []
theorem kb_turn {K : PySem.W.Frag} {x qual : Str} {st : Stmt} {f : Addr} {fd : FuncData} {a b c : Str} (F : Fun K x qual st f fd)
    (h : ∀ (kV doc pm : Value) (an : Option Addr) (cdv ct : Value) (u v w : Value), bindArgs (PySem.W.fnOf x qual (defArgs st) (defBody st) (defScope st) .none kV doc pm an cdv ct) ⟨[], [(c, w), (a, u), (b, v)]⟩ = pure [(a, u), (b, v), (c, w)]) :
    KBinds K fd [a, b, c] [c, a, b] turnG turnG := by
  obtain ⟨oc, od, kV, doc, pm, an, cdv, ct, osl, rfl, lk, hcd⟩ := F.ex
  refine ⟨fun s us ws X l => ?_, fun {vs us zs ws} r1 r2 => ?_⟩
  · match us, ws, l with
    | [], [w, u, v], _ => exact .of_eq (h kV doc pm an cdv ct u v w)
    | [], [], l => cases l
    | [], [_], l => cases l
    | [], [_, _], l => cases l
    | [], _ :: _ :: _ :: _ :: _, l => cases l
    | _ :: _, _, l => cases l
  · cases r1 with
    | cons _ _ => exact .nil
    | nil =>
      cases r2 with
      | nil => exact .nil
      | cons h1 r2 =>
        cases r2 with
        | nil => exact .nil
        | cons h2 r2 =>
          cases r2 with
          | nil => exact .nil
          | cons h3 r2 =>
            cases r2 with
            | nil => exact .cons h2 (.cons h3 (.cons h1 .nil))
            | cons _ _ => exact .nil
end Kx
namespace Kx
open PySem PySem.Spec PyProof.Rows L2 SX LamX
theorem go_nil {σ : L2.St} {H : Hp} {Q : List V → Hp → Prop} (h : Q [] H) : tNil σ H Q := h
theorem go_var {σ : L2.St} {H : Hp} {i : Nat} {v : V} {Q : VK} (e : σ[i]? = some (some v)) (h : Q v H) : tVar i σ H Q := ⟨v, e, h⟩
theorem go_or2 {ta tb : TT} {σ : L2.St} {H : Hp} {Q : Bool → Hp → Prop} (h : ta σ H fun b H1 => if b = true then Q true H1 else tb σ H1 Q) : tOr ta tb σ H Q := h
theorem go_not {ta : TT} {σ : L2.St} {H : Hp} {Q : Bool → Hp → Prop} (h : ta σ H fun b H1 => Q (!b) H1) : tNot ta σ H Q := h
theorem go_b {te : TE} {σ : L2.St} {H : Hp} {Q : Bool → Hp → Prop} (h : te σ H fun x H1 => ∃ c, x = .bl c ∧ Q c H1) : tB te σ H Q := h
end Kx
namespace Kx
open PySem PySem.Spec PyProof.Rows L2 SX LamX
theorem ext_at {H H' : Hp} {b : Addr} {o : HO} (e : ExtN H H') (h : H b = some o) (n : ∀ ps, o ≠ .tbl ps := by intro ps z; cases z) : H' b = some o := e b o h n
theorem tyx_ext {K : PySem.W.Frag} {H H' : Hp} {x : V} {n : String} (e : ExtN H H') (h : TyX K H x (.type n)) : TyX K H' x (.type n) := by
  cases h with
  | base b =>
    cases b with
    | non => exact .base .non
    | bl y => exact .base (.bl y)
    | int i => exact .base (.int i)
    | str z => exact .base (.str z)
    | flt z => exact .base (.flt z)
    | lst h => exact .base (.lst (ext_at e h))
    | frz h => exact .base (.frz (ext_at e h))
    | tup h => exact .base (.tup (ext_at e h))
    | dK h => exact .base (.dK (ext_at e h))
    | dT h => exact .base (.dT (ext_at e h))
  | byt b => exact .byt b
  | set h => exact .set (ext_at e h)
  | kList h c => exact .kList h c
  | kTuple h c => exact .kTuple h c
  | kDict h c => exact .kDict h c
  | fTuple h => exact .fTuple (ext_at e h)
  | fDict h => exact .fDict (ext_at e h)
theorem sqL_ext {K : PySem.W.Frag} {H H' : Hp} {a : Addr} {xs : List V} (e : ExtN H H') (h : SqL K H a xs) : SqL K H' a xs := by
  rcases h with (h | ⟨o, h⟩) | h
  · exact .inl (.inl (ext_at e h))
  · exact .inl (.inr ⟨o, ext_at e h⟩)
  · exact .inr h
theorem sqT_ext {K : PySem.W.Frag} {H H' : Hp} {a : Addr} {xs : List V} (e : ExtN H H') (h : SqT K H a xs) : SqT K H' a xs := by
  rcases h with (h | ⟨o, h⟩) | h
  · exact .inl (.inl (ext_at e h))
  · exact .inl (.inr ⟨o, ext_at e h⟩)
  · exact .inr h
/-- ["text", "text"] == ["text", "text"] -/
theorem eq_data {K : PySem.W.Frag} {H : Hp} {a b : Addr} {d e : PyData} {Q : VK} (h1 : Dp K H (.ref a) d) (h2 : Dp K H (.ref b) e) (s1 : SeqAt.shaped d = true) (s2 : SeqAt.shaped e = true) (q : Q (.bl (PyData.eqv d e)) H) : rEqD K (.ref a) (.ref b) H Q :=
  ⟨d, e, h1, h2, s1, s2, q⟩
end Kx
namespace Kx
open PySem PySem.Spec PyProof.Rows L2 SX LamX
theorem reachA_add : ∀ (r : List (List Nat)) (p : Nat), reachA p r = p + reachA 0 r
  | [], p => rfl
  | y :: r, p => by
    show reachA (p + y.length + 1) r = p + reachA (0 + y.length + 1) r
    rw [reachA_add r, reachA_add r (0 + y.length + 1)]
    omega
theorem sum_texts : ∀ xs : List (List Nat), ((xs.map S).map (·.length)).sum + xs.length = reachA 0 xs
  | [] => rfl
  | x :: r => by
    have e : reachA 0 (x :: r) = x.length + 1 + reachA 0 r := by
      show reachA (0 + x.length + 1) r = _
      rw [reachA_add]
      omega
    rw [e, ← sum_texts r]
    simp only [List.map_cons, List.sum_cons, List.length_cons, S_len]
    omega
end Kx
namespace Kx
open PySem PySem.Spec PyProof.Rows L2 SX LamX
theorem S_inj {a b : Str} (h : a.cps.toList = b.cps.toList) : a = b := by
  cases a with
  | mk a =>
    cases b with
    | mk b =>
      have : a = b := Array.toList_inj.mp h
      rw [this]
theorem fold_arr (a : Array Nat) : ∀ (n : Nat) (acc : Array Nat), ((List.replicate n a).foldl (· ++ ·) acc).toList = acc.toList ++ (List.replicate n a.toList).flatten
  | 0, acc => by simp
  | n + 1, acc => by
    rw [List.replicate_succ, List.foldl_cons, fold_arr a n, List.replicate_succ, List.flatten_cons, Array.toList_append, List.append_assoc]
theorem mul_S (l : List Nat) (n : Nat) : Txt.mul (S l) n = S ((List.replicate n l).flatten) := by
  refine S_inj ?_
  have e0 : ∀ m : List Nat, (S m).cps.toList = m := fun m => by simp [S]
  rw [e0]
  unfold Txt.mul
  by_cases h1 : (n : Int) < 1
  · rw [if_pos h1]
    have : n = 0 := by omega
    subst this
    rfl
  · rw [if_neg h1]
    by_cases h2 : ((n : Int) == 1 || (S l).length == 0) = true
    · rw [if_pos h2, e0]
      simp only [Bool.or_eq_true, beq_iff_eq] at h2
      rcases h2 with h2 | h2
      · have : n = 1 := by omega
        subst this
        simp
      · rw [S_len] at h2
        cases l with
        | nil => simp
        | cons _ _ => simp at h2
    · rw [if_neg h2]
      show ((List.replicate (n : Int).toNat (S l).cps).foldl (· ++ ·) #[]).toList = _
      rw [fold_arr, Int.toNat_natCast, e0]
      simp
section
variable {X : Cx}
/-- a text times an int -/
def rRepS : R2 := fun x y H Q => ∃ (l : List Nat) (n : Nat), x = .str (S l) ∧ y = .int n ∧ l.length ≤ 16 ∧ n ≤ 1048576 ∧ Q (.str (S ((List.replicate n l).flatten))) H
theorem op_repS : OpR X (binaryOp .Mult) rRepS := by
  intro pins s σ H x y v u Q I rx ry h
  obtain ⟨l, n, rfl, rfl, h1, h2, q⟩ := h
  obtain ⟨t, rfl⟩ := rx
  obtain ⟨t', rfl⟩ := ry
  refine PySem.W.KXi.mul (n := l.length) (S_len l) h1 (by omega) (by omega) (fun t2 tk _ _ => ⟨.str _, H, I.tok _, ⟨_, rfl⟩, ?_⟩)
  rw [mul_S]
  exact q
end
end Kx
namespace Kx
open PySem PySem.Spec PyProof.Rows L2 SX LamX
section
variable {X : Cx}
/-- a list of whatever values == [] -/
def rEqE : R2 := fun x y H Q => ∃ (a b : Addr) (xs : List V), x = .ref a ∧ y = .ref b ∧ H a = some (.lst xs) ∧ H b = some (.lst []) ∧ Q (.bl xs.isEmpty) H
theorem op_eqE (hu : X.A.units + 64 < cLine) : OpR X (compareOp .Eq) rEqE := by
  intro pins s σ H x y v u Q I rx ry h
  obtain ⟨a, b, xs, rfl, rfl, ha, hb, q⟩ := h
  cases rx
  cases ry
  obtain ⟨z, its, n, r, hl, e⟩ := I.lstM ha
  obtain ⟨z2, its2, n2, r2, hl2, e2⟩ := I.lstM hb
  have l2 : its2 = [] := by
    cases its2 with
    | nil => rfl
    | cons _ _ => simp at hl2
  subst l2
  cases xs with
  | nil =>
    have l1 : its = [] := by
      cases its with
      | nil => rfl
      | cons _ _ => simp at hl
    subst l1
    exact P.eq_list (e := fun _ => true) e e2 rfl (fun j h1 _ => absurd h1 (Nat.not_lt_zero j)) (by omega) ⟨.bl true, H, I, rfl, q⟩
  | cons x r' =>
    exact P.eq_list_lengths e e2 (by
      simp only [List.size_toArray, List.length_nil]
      rw [← hl]
      simp) (by omega) ⟨.bl false, H, I, rfl, q⟩
end
end Kx
namespace Kx
open PySem PySem.Spec PyProof.Rows L2 SX LamX
section
variable {K : PySem.W.Frag} {a : Addr} {xs : List V} {g : TG} {tt : TT} {te : TE} {vs : List Nat} {σ : L2.St} {H : Hp} {k : Nat} {Q : VK}
/-- [e for x in NAME if t], NAME a tuple -/
theorem lc_tupk (zs : List (Option V)) (hz : zs.length = xs.length) (hi : σ[k]? = some (some (.ref a))) (hq : SqT K H a xs) (len : xs.length ≤ 1000000)
    (turn : ∀ (i : Nat) (x : V) (z : Option V) (Hc : Hp) (Q' : VK) (R' : Hp → Prop), xs[i]? = some x → zs[i]? = some z → Same H Hc → (∀ v H4, z = some v → Same Hc H4 → Q' v H4) → (∀ H4, z = none → Same Hc H4 → R' H4) → g x (wipe σ vs) Hc fun σ2 H2 => wipe σ2 vs = wipe σ vs ∧ tt σ2 H2 fun b H3 => if b = true then te σ2 H3 Q' else R' H3)
    (fin : ∀ (D : Addr) (Hc : Hp), Same H Hc → Hc D = some (.lst (zs.filterMap id)) → Q (.ref D) Hc) :
    tLc (iTup K (tVar k)) g tt te vs σ H Q := ⟨_, hi, a, rfl, ⟨_, hq⟩, fun D nD => lc_keep walk_tup zs hz nD len (fun Hc e => Same.t e hq) (fun i x z Hc Hx Q' R' _ hzi e y q r => by
      obtain ⟨rfl, hx⟩ := y
      exact turn i x z _ Q' R' hx hzi e q r) (fin D)⟩
theorem lc_or {I J : TI} (h : tLc I g tt te vs σ H Q ∨ tLc J g tt te vs σ H Q) : tLc (fun σ H R => I σ H R ∨ J σ H R) g tt te vs σ H Q := h
/-- .. a list or a tuple -/
theorem lc_seqk (zs : List (Option V)) (hz : zs.length = xs.length) (hi : σ[k]? = some (some (.ref a))) (hq : SqQ K H a xs) (len : xs.length ≤ 1000000)
    (turn : ∀ (i : Nat) (x : V) (z : Option V) (Hc : Hp) (Q' : VK) (R' : Hp → Prop), xs[i]? = some x → zs[i]? = some z → Same H Hc → (∀ v H4, z = some v → Same Hc H4 → Q' v H4) → (∀ H4, z = none → Same Hc H4 → R' H4) → g x (wipe σ vs) Hc fun σ2 H2 => wipe σ2 vs = wipe σ vs ∧ tt σ2 H2 fun b H3 => if b = true then te σ2 H3 Q' else R' H3)
    (fin : ∀ (D : Addr) (Hc : Hp), Same H Hc → Hc D = some (.lst (zs.filterMap id)) → Q (.ref D) Hc) :
    tLc (fun σ H R => iList K (tVar k) σ H R ∨ iTup K (tVar k) σ H R) g tt te vs σ H Q :=
  lc_or (hq.imp (fun h => lc_lstk zs hz hi h len turn fin) (fun h => lc_tupk zs hz hi h len turn fin))
end
theorem filt_none {α : Type} (p : α → Bool) : ∀ (l : List α), ((l.map fun x => if p x = true then some x else none).filterMap id).isEmpty = l.all fun x => !p x
  | [] => rfl
  | x :: r => by
    cases h : p x with
    | true =>
      simp only [List.map_cons, h, if_true, List.filterMap_cons, id, List.all_cons, Bool.not_true, Bool.false_and]
      rfl
    | false =>
      have := filt_none p r
      simp only [List.map_cons, h, Bool.false_eq_true, if_false, List.filterMap_cons, id, List.all_cons, Bool.not_false, Bool.true_and]
      exact this
theorem core_same {a : Addr} {H H' : Hp} (e : Same (core a H) H') (h : ∀ b o, core a H b = some o → b ≠ a) : Same (core a H) (core a H') := fun b o k => core_at (e b o k) (h b o k) (of_core k).2.2
theorem core_core {a : Addr} {H0 H : Hp} (e : Same (core a H0) H) : Same (core a H0) (core a H) := fun b o k => core_at (e b o k) (of_core k).1 (of_core k).2.2
theorem go_par {i j : Nat} {t : TA} {D : Ends} {σ : L2.St} {H : Hp} (h : tPar i j t D σ H) : tPar i j t D σ H := h
end Kx
namespace Kx
open PySem PySem.Spec PyProof.Rows L2 SX LamX
section
variable {K : PySem.W.Frag} {σ : L2.St} {H : Hp} {ta tb : TE} {k m : Nat}
/-- repr(x) != repr(y), of one and the same data -/
theorem nerepr_t (d : PyData) (hd : Sh k m d) (hk : k ≤ 60) (hm : m ≤ 1048576) {Q : Bool → Hp → Prop}
    (ha : ∀ Q : VK, (∀ a H', Same H H' → Dp K H' (.ref a) d → Q (.ref a) H') → ta σ H Q)
    (hb : ∀ H0, Same H H0 → ∀ Q : VK, (∀ b H', Same H0 H' → Dp K H' (.ref b) d → Q (.ref b) H') → tb σ H0 Q)
    (h : ∀ H', Same H H' → Q false H') : tTest (tOp rNe (tCB (rRepr K) (tCons ta tNil)) (tCB (rRepr K) (tCons tb tNil))) σ H Q := by
  refine go_test (go_op (go_cb (go_cons (ha _ fun a H1 e1 h1 => go_nil (go_repr h1 hd hk hm (go_cb (go_cons (hb H1 e1 _ fun b H2 e2 h2 => go_nil (go_repr h2 hd hk hm ⟨rfl, false, ?_, h H2 (e1.trans e2)⟩)))))))))
  rw [ne_self]
theorem nerepr_if (d : PyData) (hd : Sh k m d) (hk : k ≤ 60) (hm : m ≤ 1048576) {D : Ends} {t u : TS}
    (ha : ∀ Q : VK, (∀ a H', Same H H' → Dp K H' (.ref a) d → Q (.ref a) H') → ta σ H Q)
    (hb : ∀ H0, Same H H0 → ∀ Q : VK, (∀ b H', Same H0 H' → Dp K H' (.ref b) d → Q (.ref b) H') → tb σ H0 Q)
    (h : ∀ H', Same H H' → u D σ H') : tIfS (tTest (tOp rNe (tCB (rRepr K) (tCons ta tNil)) (tCB (rRepr K) (tCons tb tNil)))) t u D σ H :=
  go_if (nerepr_t d hd hk hm ha hb fun H' e => iteF (A := _) (h H' e))
end
theorem sh_bb (b c : Bool) : Sh 1 2 (.list [.bool b, .bool c]) := (shA_bools (k := 0) [b, c]).lst
theorem dp_bc {K : PySem.W.Frag} {H : Hp} {p : Addr} {b c : Bool} (h : H p = some (.lst [.bl b, .bl c])) : Dp K H (.ref p) (.list [.bool b, .bool c]) := .lst (.inl (.inl h)) (.cons (.bl b) (.cons (.bl c) .nil))
end Kx
namespace Kx
open PySem PySem.Spec PyProof.Rows L2 SX LamX
theorem go_c {v : V} {σ : L2.St} {H : Hp} {Q : VK} (h : Q v H) : tC v σ H Q := h
theorem core_sub {a : Addr} {H : Hp} : Same (core a H) H := fun b o h => (of_core h).2.1
theorem core_mvO {a : Addr} {H0 H H' : Hp} (e : Same (core a H0) H) (m : Mv a H H') : Same (core a H0) H' := fun b o h => m b o (of_core h).1 (e b o h)
theorem sz5 : 5 ≤ sizeLine := by decide
theorem rep_flat (n x : Nat) : (List.replicate n [x]).flatten = List.replicate n x := by
  induction n with
  | zero => rfl
  | succ j ih => rw [List.replicate_succ, List.flatten_cons, ih, List.replicate_succ]; rfl
theorem rep_len (n : Nat) (l : List Nat) : ((List.replicate n l).flatten).length = n * l.length := by
  induction n with
  | zero => simp
  | succ j ih => rw [List.replicate_succ, List.flatten_cons, List.length_append, ih, Nat.succ_mul, Nat.add_comm]
theorem rep_mem {n : Nat} {l : List Nat} {i : Nat} (h : i ∈ (List.replicate n l).flatten) : i ∈ l := by
  obtain ⟨m, hm, hi⟩ := List.mem_flatten.mp h
  rw [List.eq_of_mem_replicate hm] at hi
  exact hi
end Kx
namespace Kx
open PySem PySem.Spec PyProof.Rows L2 SX LamX
section
variable {M : Model} {prog : Program} {w : World} {A : Around} {E : Value → Shared → Prop} {s : Shared} {K : PySem.W.Frag} {x C f : Addr} {ox : Obj} {od : Option Obj} {y : Value}
theorem objNe (X : K.In s.heap) (I : PySem.W.InstAt s.heap x ox C od) (hu : A.units < cLine) (hs : PySem.W.findIn K (.ref C) "__eq__" = some (some (.ref f))) (hf : PySem.W.isFn K (.ref f) = true) {Q : Fin → Shared → Prop}
    (hcall : wpAny (model prog w) A (call (.ref f) [.ref x, y]) (fun v s' => ∃ b, v = .bool b ∧ Q (.done (.ret (.bool (!b)))) s') E s) : wpAny (model prog w) A (Builtin.«object.__ne__» ⟨[.ref x, y], []⟩) Q E s := by
  unfold Builtin.«object.__ne__»
  repeat (first
    | with_reducible refine wpAny_cRoomFor hu ?_
    | (refine wpAny_bind (m := callSpecialIfBound? (.ref x) (Str.ofString "__eq__") [y])
        (PySem.W.ifBound_K X I hs hf (wpAny_mono hcall (fun r s' hr => by
          obtain ⟨b, rfl, hq⟩ := hr
          repeat (first | exact hq | exact wpAny_pure hq | exact wpAny_truthy_bool hq | (refine wpAny_bind (m := truthy (.bool _)) (wpAny_truthy_bool ?_)) | wp_step)) fun _ _ e => e)))
    | wp_step)
theorem call_ne {Q : Value → Shared → Prop} (X : K.In s.heap) (I : PySem.W.InstAt s.heap x ox C od) (hu : A.in1.units < cLine) (hm : PySem.W.mroIn K C (.type "object") = some true) (hs : PySem.W.findIn K (.ref C) "__eq__" = some (some (.ref f))) (hf : PySem.W.isFn K (.ref f) = true)
    (hcall : wpAny (model prog w) A.in1 (call (.ref f) [.ref x, y]) (fun v s' => ∃ b, v = .bool b ∧ Q (.bool (!b)) s') E s) : wpAny (model prog w) A (call (.builtin "object.__ne__") [.ref x, y]) Q E s :=
  wpAny_call (codeAny_call_builtin F.cmp_object.ne.plain F.cmpEntry_ne (PySem.W.check_slot F.cmpKind_ne F.cmpSplit_ne (I.type.andThen (PySem.W.looks_mroIn X hm)) (F.cmpArgs_ne _ _) (objNe X I hu hs hf hcall)))
theorem ifBound_objNe {args : List Value} {Q : Option Value → Shared → Prop} (X : K.In s.heap) (I : PySem.W.InstAt s.heap x ox C od) (hs : PySem.W.findIn K (.ref C) "__ne__" = some (some (.builtin "object.__ne__")))
    (h : wpAny M A (call (.builtin "object.__ne__") (.ref x :: args)) (fun v => Q (some v)) E s) : wpAny M A (callSpecialIfBound? (.ref x) "__ne__" args) Q E s := by
  simp only [callSpecialIfBound?, bindSpecialIfBound?]
  refine wpAny_holding (wpAny_bind (wpAny_bind (wpAny_bind (I.type.here ((PySem.W.looks_findIn X hs).here ?_)))))
  refine wpAny_bind (wpAny_askSetting (wpAny_ite ?_))
  have fin : wpAny M A (call (.builtin "object.__ne__") ([.ref x] ++ args) >>= fun v => pure (some v)) Q E s := wpAny_bind (wpAny_mono h (fun v s' h' => wpAny_pure h') fun _ _ h' => h')
  split
  · exact wpAny_bind (wpAny_of_eq (F.cmp_object.ne.bind _) (wpAny_pure (by exact fin)))
  · exact wpAny_tryCatch (wpAny_bind (wpAny_of_eq (F.cmp_object.ne.bind _) (wpAny_pure (by exact fin))))
/-- x != y, x an instance with an == of its own, no != -/
theorem rich_ne {Q : Value → Shared → Prop} {tb : Value} (hu : A.in1.units < cLine) (X : K.In s.heap) (I : PySem.W.InstAt s.heap x ox C od) (hb : PySem.W.Looks (model prog w) s.heap (typeOf y) tb) (hn : PySem.W.notFirst K C tb = true) (hm : PySem.W.mroIn K C (.type "object") = some true)
    (hs : PySem.W.findIn K (.ref C) "__eq__" = some (some (.ref f))) (hf : PySem.W.isFn K (.ref f) = true) (hne : PySem.W.findIn K (.ref C) "__ne__" = some (some (.builtin "object.__ne__")))
    (h : wpAny (model prog w) A.in1 (call (.ref f) [.ref x, y]) (fun v s' => ∃ b, v = .bool b ∧ Q (.bool (!b)) s') E s) : wpAny (model prog w) A (richCompare .NotEq (.ref x) y) Q E s := by
  have one : wpAny (model prog w) A (tryCompare (.ref x) "__ne__" y) (fun r s' => ∃ v, r = some v ∧ Q v s') E s := by
    unfold tryCompare
    refine wpAny_bind (ifBound_objNe X I hne (call_ne X I hu hm hs hf (wpAny_mono h (fun v s' hv => ?_) fun _ _ e => e)))
    obtain ⟨b, rfl, hq⟩ := hv
    exact ⟨b, rfl, wpAny_pure ⟨_, rfl, hq⟩⟩
  have hu0 : A.units < cLine := Nat.lt_of_succ_lt (show A.units + 1 < cLine from hu)
  unfold richCompare
  simp only [oneThing_ref]
  refine wpAny_holding (wpAny_bind (wpAny_cRoomFor hu0 ?_))
  rw [cmpInfo_NotEq]
  dsimp only
  refine wpAny_bind (I.type.here (wpAny_bind (hb.here ?_)))
  split
  · rename_i q
    have e : PySem.W.subIn K tb (.ref C) = some false := by
      rcases Bool.or_eq_true_iff.mp hn with e | e
      · rw [beq_iff_eq.mp e] at q; simp at q
      · exact beq_iff_eq.mp e
    refine wpAny_bind ((PySem.W.looks_subIn X e).here ?_)
    simp only [Bool.false_eq_true, if_false]
    refine wpAny_bind (wpAny_mono one (fun r s' z => ?_) fun _ _ e => e)
    obtain ⟨v, rfl, hq⟩ := z
    exact wpAny_pure hq
  · refine wpAny_bind (wpAny_pure ?_)
    simp only [Bool.false_eq_true, if_false]
    refine wpAny_bind (wpAny_mono one (fun r s' z => ?_) fun _ _ e => e)
    obtain ⟨v, rfl, hq⟩ := z
    exact wpAny_pure hq
theorem sub_list : PySem.W.subIn K (.type "list") (.ref C) = some false := by
  have e : fastBuiltinMro "list" = some [.type "list", .type "object"] := by decide +kernel
  show (fastBuiltinMro "list").map (·.contains (.ref C)) = some false
  rw [e]
  first
    | rfl
    | simp
theorem sub_tuple : PySem.W.subIn K (.type "tuple") (.ref C) = some false := by
  have e : fastBuiltinMro "tuple" = some [.type "tuple", .type "object"] := by decide +kernel
  show (fastBuiltinMro "tuple").map (·.contains (.ref C)) = some false
  rw [e]
  first
    | rfl
    | simp
end
end Kx
namespace Kx
open PySem PySem.Spec PyProof.Rows L2 SX LamX
section
variable {X : Cx} {pins : List (Addr × Obj)} {σ : L2.St} {H : Hp} {s : Shared}
/-- what stands at the other side of an own ==: an instance of the class, a list, a tuple -/
def OthV (K : PySem.W.Frag) (C : Addr) (H : Hp) (y : V) : Prop := ∃ b, y = .ref b ∧ ((∃ dx fs, H b = some (.ins C dx fs)) ∨ ∃ xs, SqQ K H b xs)
theorem oth_looks {C : Addr} {y : V} {u : Value} (I : Inv X pins σ H s) (ry : RelV y u) (h : OthV X.K C H y) : ∃ b tb, y = .ref b ∧ u = .ref b ∧ (∀ M, PySem.W.Looks M s.heap (typeOf u) tb) ∧ PySem.W.notFirst X.K C tb = true := by
  obtain ⟨b, rfl, h⟩ := h
  obtain rfl : u = Value.ref b := ry
  rcases h with ⟨dx, fs, h⟩ | ⟨xs, h | h⟩
  · obtain ⟨mA, J, _⟩ := ins_get I.hok h
    obtain ⟨od, J, _⟩ := J.look
    exact ⟨b, _, rfl, rfl, fun M => J.type, by simp [PySem.W.notFirst]⟩
  · obtain ⟨us, r1, p1, _⟩ := I.list h
    obtain ⟨o, n, e, c1, c2, d⟩ := p1
    have c : o.cls = .type "list" := by first | exact c1 | exact c2
    refine ⟨b, .type "list", rfl, rfl, fun M => c ▸ (PySem.W.Looks.ld e).andThen .now, ?_⟩
    unfold PySem.W.notFirst
    rw [sub_list]
    rfl
  · obtain ⟨us, r1, ⟨o, e, c, _⟩, _⟩ := I.tuple h
    refine ⟨b, .type "tuple", rfl, rfl, fun M => c ▸ (PySem.W.Looks.ld e).andThen .now, ?_⟩
    unfold PySem.W.notFirst
    rw [sub_tuple]
    rfl
end
end Kx
namespace Kx
open PySem PySem.Spec PyProof.Rows L2 SX LamX
section
variable {X : Cx}
/-- x == y by the class's own ==: what it promises, a truth -/
def rEqI (K : PySem.W.Frag) (C : Addr) (sp : Sp) : R2 := fun x y H Q => ∃ a dx fs, x = .ref a ∧ H a = some (.ins C dx fs) ∧ OthV K C H y ∧ sp [x, y] H (fun v H' => ∃ b, v = .bl b ∧ Q (.bl b) H') C8.E0
def rNeI (K : PySem.W.Frag) (C : Addr) (sp : Sp) : R2 := fun x y H Q => ∃ a dx fs, x = .ref a ∧ H a = some (.ins C dx fs) ∧ OthV K C H y ∧ sp [x, y] H (fun v H' => ∃ b, v = .bl b ∧ Q (.bl (!b)) H') C8.E0
theorem own_run {f : Addr} {fd : FuncData} {ps : List Str} {n : Nat} {sp : Sp} {A : Around} {pins : List (Addr × Obj)} {σ : L2.St} {H : Hp} {s : Shared} {a b : Addr} {Q : VK} {R : Value → Shared → Prop} {xe : Value → Shared → Prop}
    (F : FnOk X.prog X.w X.K X.mg X.base C8.CX0 n f fd ps sp) (hb : Binds X.K fd ps []) (hr : Room n A) (hf : A.frames = X.A.frames) (I : Inv X pins σ H s) (h : sp [.ref a, .ref b] H Q C8.E0)
    (back : ∀ u s', EP X pins σ Q u s' → R u s') : wpAny (model X.prog X.w) A (call (.ref f) [.ref a, .ref b]) R xe s := by
  have e0 : Env0 X.prog X.w X.K X.mg X.base A X.stack s H := by
    have e := I.env0
    exact ⟨by rw [hf]; exact e.frames, e.mod, e.bs, e.bsz, e.funs, e.frf, e.hok, e.bare⟩
  have hl := F.len _ _ _ _ h
  have r2 : Vals [V.ref a, V.ref b] [Value.ref a, Value.ref b] := .cons rfl (.cons rfl .nil)
  refine wpAny_call (codeAny_mono (F.run A X.stack s H ⟨[.ref a, .ref b], []⟩ [.ref a, .ref b] [.ref a, .ref b] _ C8.E0 hr e0 (by
    have := hb s [.ref a, .ref b] I.kIn (by simpa using hl)
    simpa using this) r2 h) fun r s' hq => ?_)
  match r, hq with
  | .error e, hq => exact (show False from hq).elim
  | .ok (.ret w), hq => exact back w s' (I.after hq)
  | .ok .next, hq => exact False.elim hq
  | .ok .brk, hq => exact False.elim hq
  | .ok .cont, hq => exact False.elim hq
theorem op_eqI {C f : Addr} {fd : FuncData} {ps : List Str} {n : Nat} {sp : Sp} (F : FnOk X.prog X.w X.K X.mg X.base C8.CX0 n f fd ps sp) (hb : Binds X.K fd ps []) (hr : Room n X.A)
    (hs : PySem.W.findIn X.K (.ref C) "__eq__" = some (some (.ref f))) (hf : PySem.W.isFn X.K (.ref f) = true) : OpR X (compareOp .Eq) (rEqI X.K C sp) := by
  intro pins s σ H x y v u Q I rx ry hq
  obtain ⟨a, dx, fs, rfl, ha, oth, h⟩ := hq
  cases rx
  obtain ⟨mA, J, _⟩ := ins_get I.hok ha
  obtain ⟨od, J, _⟩ := J.look
  obtain ⟨b, tb, rfl, rfl, lk, nf⟩ := oth_looks I ry oth
  obtain ⟨m, hF⟩ := I.fr
  show wpAny (model X.prog X.w) X.A (richCompare .Eq (.ref a) (.ref b)) _ _ s
  refine PySem.W.cmp_K (op := .Eq) (tb := tb) hr.units0 hF I.ok.mod.kin J (lk _) nf hs hf (own_run F hb hr rfl I h fun u s' ep => ?_)
  obtain ⟨z, H', I', rz, c, rfl, q⟩ := ep
  cases rz
  exact ⟨.bl c, H', I', rfl, q⟩
theorem op_neI {C f : Addr} {fd : FuncData} {ps : List Str} {n : Nat} {sp : Sp} (F : FnOk X.prog X.w X.K X.mg X.base C8.CX0 n f fd ps sp) (hb : Binds X.K fd ps []) (hr : Room (n + 1) X.A)
    (hs : PySem.W.findIn X.K (.ref C) "__eq__" = some (some (.ref f))) (hf : PySem.W.isFn X.K (.ref f) = true) (hm : PySem.W.mroIn X.K C (.type "object") = some true) (hne : PySem.W.findIn X.K (.ref C) "__ne__" = some (some (.builtin "object.__ne__"))) :
    OpR X (compareOp .NotEq) (rNeI X.K C sp) := by
  intro pins s σ H x y v u Q I rx ry hq
  obtain ⟨a, dx, fs, rfl, ha, oth, h⟩ := hq
  cases rx
  obtain ⟨mA, J, _⟩ := ins_get I.hok ha
  obtain ⟨od, J, _⟩ := J.look
  obtain ⟨b, tb, rfl, rfl, lk, nf⟩ := oth_looks I ry oth
  show wpAny (model X.prog X.w) X.A (richCompare .NotEq (.ref a) (.ref b)) _ _ s
  refine rich_ne hr.in1.units0 I.kIn J (lk _) nf hm hs hf hne (own_run F hb hr.in1 rfl I h fun u s' ep => ?_)
  obtain ⟨z, H', I', rz, c, rfl, q⟩ := ep
  cases rz
  exact ⟨c, rfl, .bl (!c), H', I', rfl, q⟩
end
end Kx
namespace Kx
open PySem PySem.Spec PyProof.Rows L2 SX LamX
/-! ### texts, each once -/
def onceStep (σ : List Str) (x : Str) : List Str := if σ.any (· == x) = true then σ else σ ++ [x]
def onceS (xs : List Str) : List Str := xs.foldl onceStep []
theorem once_any (σ : List Str) (v k : Str) : (onceStep σ v).any (· == k) = (σ.any (· == k) || decide (k = v)) := by
  unfold onceStep
  by_cases h : σ.any (· == v) = true
  · rw [if_pos h]
    by_cases e : k = v
    · rw [e, h]; simp
    · simp [e]
  · rw [if_neg h, List.any_append]
    by_cases e : k = v
    · rw [e]; simp
    · have hb : (v == k) = false := by simpa [beq_iff_eq] using (fun h' : v = k => e h'.symm)
      simp [hb, e]
theorem once_len (σ : List Str) (v : Str) : (onceStep σ v).length = if σ.any (· == v) = true then σ.length else σ.length + 1 := by
  unfold onceStep
  split <;> simp
theorem once_fold : ∀ (xs σ : List Str), (xs.foldl onceStep σ).length ≤ σ.length + xs.length
  | [], σ => Nat.le_refl _
  | x :: r, σ => by
    have h := once_fold r (onceStep σ x)
    have h2 := once_len σ x
    rw [List.foldl_cons, List.length_cons]
    split at h2 <;> omega
theorem onceS_le (xs : List Str) : (onceS xs).length ≤ xs.length := by
  have h := once_fold xs []
  simpa [onceS] using h
theorem onceS_take {xs : List Str} {i : Nat} {x : Str} (h : xs[i]? = some x) : onceS (xs.take (i + 1)) = onceStep (onceS (xs.take i)) x := by
  unfold onceS
  rw [List.take_add_one, h, List.foldl_append]
  rfl
section
variable {prog : Program} {w : World} {A : Around} {R : Result → Shared → Prop} {I : Addr} {fp wr : List Addr} {G : Array GenState → Array GenState → Prop} {n : Nat} {P : Nat → Value → Prop} {St : Nat → Shared → Prop}
def txSet (prog : Program) (w : World) (h : Heap) (S : Addr) (l : List Str) : Prop := h.SetOf (PySem.strKind prog w) S (fun k => l.any (· == k)) l.length
theorem txSet_at {h h' : Heap} {S : Addr} {l : List Str} (t : txSet prog w h S l) (k : ∀ o, h.get? S = some o → h'.get? S = some o) : txSet prog w h' S l := by
  obtain ⟨o, es, ep, tb, ho, rest⟩ := t
  exact ⟨o, es, ep, tb, k o ho, rest⟩
/-- set.update over texts, whatever walks over them -/
theorem upd_texts (W : WalksS prog w A.in1 I fp wr G n P St) (S : Addr) (hSf : S ∉ fp) (xs : List Str) (hn : n = xs.length) (hval : ∀ i v, P i v → ∃ x t, xs[i]? = some x ∧ v = .str x t) (hb : n + 1 < scanBound) :
    ∀ (k i : Nat) (s : Shared), n - i = k → i ≤ n → St i s → txSet prog w s.heap S (onceS (xs.take i)) →
      (∀ s', Moved (S :: wr) G s s' → txSet prog w s'.heap S (onceS xs) → R (.ok (.ret .none)) s') → codeAny (model prog w) A (.builtin "set.update.loop" ⟨[.ref S, .ref I], []⟩) R s := by
  have out : S ∉ wr := fun h => hSf (W.sub _ h)
  have more : ∀ b ∈ wr, b ∈ S :: wr := fun b hb => List.mem_cons_of_mem _ hb
  intro k
  induction k with
  | zero =>
    intro i s hk hi hst hS hR
    obtain rfl : i = n := by omega
    refine codeAny_builtin PyProof.Rows.F.entry_set_update_loop ?_
    rw [Around.under_plainId PyProof.Rows.F.plain_set_update_loop _]
    show wpAny _ A.in1 (pyNext (.ref I) >>= _) _ _ s
    refine wpAny_bind (W.done s _ _ hst fun s' hm => ?_)
    show wpAny _ A.in1 (ret Value.none) _ _ s'
    rw [hn, List.take_length] at hS
    exact wpAny_pure (hR s' (hm.mono more) (txSet_at hS fun o e => hm.heap S o out e))
  | succ k ih =>
    intro i s hk hi hst hS hR
    have hlt : i < n := by omega
    refine codeAny_builtin PyProof.Rows.F.entry_set_update_loop ?_
    rw [Around.under_plainId PyProof.Rows.F.plain_set_update_loop _]
    show wpAny _ A.in1 (pyNext (.ref I) >>= _) _ _ s
    refine wpAny_bind (W.item i s _ _ hlt hst fun v s' hP hst' hm => ?_)
    obtain ⟨x, t, hx, rfl⟩ := hval i v hP
    have hS' := txSet_at hS fun o e => hm.heap S o out e
    show wpAny _ A.in1 (holding [Value.str x t] (setAdd S (.str x t)) >>= _) _ _ s'
    refine wpAny_bind (wpAny_holding ?_)
    unfold setAdd
    refine wpAny_holding (wpAny_bind ((PySem.strKind prog w).pyHash (k := x) (strKind_is _ _ _ _) ?_))
    have room : (onceS (xs.take i)).length + 1 < scanBound := by
      have h1 := onceS_le (xs.take i)
      rw [List.length_take] at h1
      omega
    refine wpAny_setAddHashed_of (knd := PySem.strKind prog w) (s := { s' with toks := s'.toks + 1 }) (strKind_is _ _ _ _) rfl hS' room fun h' same hS2 => ?_
    have hS3 : txSet prog w h' S (onceS (xs.take (i + 1))) := PyProof.Rows.SetOf_congr hS2 (fun k' => by rw [onceS_take hx, once_any]) (by rw [onceS_take hx, once_len])
    refine wpAny_pure ⟨plainId_quiet PyProof.Rows.F.plain_set_update_loop _, ih (i + 1) _ (by omega) hlt (W.frame _ s' _ _ hst' (Nat.le_succ _) fun b hb o e => ?_) hS3 fun s2 hm2 hS4 => ?_⟩
    · rw [same.2 b (fun h : b = S => hSf (by rw [← h]; exact hb))]
      exact e
    · refine hR s2 (Moved.trans W.gtrans ((hm.mono more).then_heap (Nat.le_succ _) fun b o hb e => ?_) hm2) hS4
      rw [same.2 b (fun h : b = S => hb (by rw [h]; exact List.mem_cons_self))]
      exact e
end
section
variable {prog : Program} {w : World} {A : Around} {E : Value → Shared → Prop} {s : Shared}
abbrev freshSet (led : Bool) : Obj := { cls := .type "set", dict := none, data := .set #[] 0 (.fresh 0 0 led) }
/-- what a set of these texts leaves -/
def MadeTx (prog : Program) (w : World) (s : Shared) (xs : List Str) (h' : Heap) : Prop := txSet prog w h' s.heap.objs.size (onceS xs) ∧ ∀ b o, s.heap.get? b = some o → h'.get? b = some o
/-- set(x): what its __init__ has to do -/
theorem set_made {x : Value} {xs : List Str} {Q : Value → Shared → Prop}
    (hin : ∀ (led : Bool) (A' : Around) (E' : Value → Shared → Prop) (Q' : Fin → Shared → Prop), A'.handled = A.handled → (∀ h' tk, MadeTx prog w s xs h' → Q' (.done (.ret .none)) { s with heap := h', toks := tk }) →
      wpAny (model prog w) A' (Builtin.«set.__init__» ⟨[.ref s.heap.objs.size, x], []⟩) Q' E' { s with heap := s.heap.push (freshSet led) })
    (h : ∀ (h' : Heap) (tk : Nat), MadeTx prog w s xs h' → Q (.ref s.heap.objs.size) { s with heap := h', toks := tk }) : wpAny (model prog w) A (call (.type "set") [x]) Q E s := by
  obtain ⟨c, tl, hmro⟩ := PySem.F.called_set.mro
  have hmade := PySem.F.called_set.made
  have hsub := PySem.F.called_set.sub
  refine wpAny_call (codeAny_of_tree ?_)
  show wpAny _ _ (callAny (.type "set") _) _ _ _
  refine wpAny_pure ⟨Code.quiet_builtin _ (by decide +kernel), codeAny_builtin PySem.F.entry_type_call ?_⟩
  rw [Around.under_plain (weight_type_call_type "set" [x] []) rfl]
  have h1 := PySem.F.called_set.notType
  have h2 := PySem.F.called_set.canCreate
  have hct := PySem.F.typeCall_set_1 x
  repeat (any_goals (first | assumption | wp_step))
  refine codeAny_mono (code_set_new_1 x (E := E) (Q₁ := fun obj s₁ => ∃ led : Bool, obj = .ref s.heap.objs.size ∧ s₁ = { s with heap := s.heap.push (freshSet led) }) fun led => ⟨led, rfl, rfl⟩) fun r s₁ hr => ?_
  match r, hr with
  | .error e, hr => exact hr
  | .ok .next, hr => exact hr.elim
  | .ok .brk, hr => exact hr.elim
  | .ok .cont, hr => exact hr.elim
  | .ok (.ret obj), hr =>
    obtain ⟨led, rfl, rfl⟩ := hr
    have hS : (s.heap.push (freshSet led)).get? s.heap.objs.size = some (freshSet led) := Heap.get?_push_size _ rfl
    have hT : Shared.TypeIs { s with heap := s.heap.push (freshSet led) } (.ref s.heap.objs.size) "set" := ⟨_, hS, rfl⟩
    have hli := PySem.F.called_set.init.lookup
    have hbi := PySem.F.called_set.init.bind (.ref s.heap.objs.size)
    repeat (any_goals (first | assumption | wp_step))
    refine codeAny_mono (codeAny_call_builtin (R := wants (fun r s₂ => r = .none ∧ ∃ h' tk, s₂ = { s with heap := h', toks := tk } ∧ MadeTx prog w s xs h') E) PySem.F.called_set.init.plain PySem.F.entry_set_init (check_set_init_1 hT ?_)) fun r₂ s₂ hr₂ => ?_
    · exact hin led _ _ _ rfl fun h' tk m => ⟨rfl, h', tk, rfl, m⟩
    · match r₂, hr₂ with
      | .error e, hr₂ => exact hr₂
      | .ok .next, hr₂ => exact hr₂.elim
      | .ok .brk, hr₂ => exact hr₂.elim
      | .ok .cont, hr₂ => exact hr₂.elim
      | .ok (.ret r), hr₂ =>
        obtain ⟨rfl, h', tk, rfl, m⟩ := hr₂
        repeat (any_goals (first | assumption | wp_step))
        exact h _ _ m
end
end Kx
namespace Kx
open PySem PySem.Spec PyProof.Rows L2 SX LamX
section
variable {prog : Program} {w : World} {A : Around} {E : Value → Shared → Prop} {s : Shared}
theorem strs_get : ∀ {us : List Value} {xs : List Str}, StrsAre us xs → ∀ (i : Nat) (v : Value), us[i]? = some v → ∃ x t, xs[i]? = some x ∧ v = .str x t
  | _, _, .nil, i, v, h => by simp at h
  | _, _, .cons y t hr, 0, v, h => by
    simp at h
    exact ⟨y, t, rfl, h.symm⟩
  | _, _, .cons y t hr, i + 1, v, h => by
    simp only [List.getElem?_cons_succ] at h
    exact strs_get hr i v h
theorem strs_len : ∀ {us : List Value} {xs : List Str}, StrsAre us xs → us.length = xs.length
  | _, _, .nil => rfl
  | _, _, .cons _ _ r => by rw [List.length_cons, List.length_cons, strs_len r]
/-- set(x), a list or a tuple of texts -/
theorem call_set_texts {l : Addr} {items : Array Value} {xs : List Str} {Q : Value → Shared → Prop} (hh : A.handled = none) (hl : s.heap.IsList l items ∨ s.heap.IsTuple l items) (hi : StrsAre items.toList xs) (hb : xs.length + 1 < scanBound)
    (h : ∀ (h' : Heap) (tk : Nat), MadeTx prog w s xs h' → Q (.ref s.heap.objs.size) { s with heap := h', toks := tk }) : wpAny (model prog w) A (call (.type "set") [.ref l]) Q E s := by
  refine set_made (xs := xs) (fun led A' E' Q' hA q => ?_) h
  have isz : items.size = xs.length := by rw [← strs_len hi, Array.length_toList]
  have hS : (s.heap.push (freshSet led)).get? s.heap.objs.size = some (freshSet led) := Heap.get?_push_size _ rfl
  have hlS : l < s.heap.objs.size := by
    rcases hl with ⟨o, ho, _⟩ | ⟨o, ho, _⟩ <;> exact Heap.lt_size ho
  have hneI : l ≠ (s.heap.push (freshSet led)).objs.size := by
    rw [Heap.size_push]
    exact Nat.ne_of_lt (Nat.lt_succ_of_lt hlS)
  have hSf : s.heap.objs.size ∉ [(s.heap.push (freshSet led)).objs.size, l] := by
    rw [Heap.size_push]
    simp only [List.mem_cons, List.not_mem_nil, or_false, not_or]
    exact ⟨Nat.ne_of_lt (Nat.lt_succ_self _), Nat.ne_of_gt hlS⟩
  have hval : ∀ (i : Nat) (v : Value), items[i]? = some v → ∃ x t, xs[i]? = some x ∧ v = .str x t := fun i v hv => strs_get hi i v (by rw [Array.getElem?_toList]; exact hv)
  have hh3 : A'.in1.handled = none := by simp [hA, hh]
  have done : ∀ (it : Obj) (s' : Shared), Moved (s.heap.objs.size :: [(s.heap.push (freshSet led)).objs.size]) (fun a b => b = a) { s with heap := (s.heap.push (freshSet led)).push it } s' → txSet prog w s'.heap s.heap.objs.size (onceS xs) →
      wpAny (model prog w) A' (ret Value.none) Q' E' s' := fun it s' hm hS' => by
    obtain ⟨h', g', d', tk', os'⟩ := s'
    have eg : g' = s.gens := hm.gens
    have ed : d' = s.drawn := hm.drawn
    have eo : os' = s.os := hm.os
    subst eg
    subst ed
    subst eo
    refine wpAny_pure (q h' tk' ⟨hS', fun b o e => ?_⟩)
    have hb0 : b < s.heap.objs.size := Heap.lt_size e
    have hb1 : b ≠ s.heap.objs.size := Nat.ne_of_lt hb0
    have hb2 : b ≠ (s.heap.push (freshSet led)).objs.size := by
      rw [Heap.size_push]
      exact Nat.ne_of_lt (Nat.lt_succ_of_lt hb0)
    exact hm.heap b o (by simp only [List.mem_cons, List.not_mem_nil, or_false, not_or]; exact ⟨hb1, hb2⟩) (Heap.get?_push_of_some _ (Heap.get?_push_of_some _ e))
  unfold Builtin.«set.__init__» noKeywords Builtin.Frozenset.updateFrom
  rcases hl with hl | hl
  · obtain ⟨ol, hol, hcl, nl, hdl⟩ := hl
    obtain ⟨ocls, odict, odata, oslots⟩ := ol
    simp only at hcl hdl
    subst hcl
    subst hdl
    have hol' : (s.heap.push (freshSet led)).get? l = some { cls := .type "list", dict := odict, data := .seq items nl, slots := oslots } := Heap.get?_push_of_some _ hol
    have hsls := PySem.F.sub_list_set
    have hslf := PySem.F.sub_list_frozenset
    have hne : (Value.type "list" == Value.type "dict") = false := by decide
    have hl1 : (s.heap.push (freshSet led)).IsList l items := ⟨_, hol', rfl, nl, rfl⟩
    generalize hPI : pyIter = PI
    wp_walk
    subst hPI
    refine wpAny_pyIter_list hl1 ?_
    refine wpAny_bind (wpAny_runValue ?_)
    refine upd_texts ((Walks.list hh3 _ l hneI items).toS) s.heap.objs.size hSf xs isz hval (by omega) (items.size - 0) 0 _ (by omega) (Nat.zero_le _) ⟨⟨_, Heap.get?_push_size _ rfl, rfl, rfl⟩, (hl1.push _)⟩ ?_ (fun s' hm hS' => ?_)
    · have hget : ((s.heap.push (freshSet led)).push { cls := .type "list_iterator", data := .fields #[.ref l, .int 0 0] }).get? s.heap.objs.size = some (freshSet led) := Heap.get?_push_of_some _ hS
      exact PyProof.Rows.SetOf_congr ((PyProof.Rows.setObjOf_fresh (knd := PySem.strKind prog w) led).setOf hget (by unfold scanBound; omega)) (fun _ => rfl) rfl
    · exact wpAny_pure (done _ s' hm hS')
  · obtain ⟨ol, hol, hcl, nl, hdl⟩ := hl
    obtain ⟨ocls, odict, odata, oslots⟩ := ol
    simp only at hcl hdl
    subst hcl
    subst hdl
    have hol' : (s.heap.push (freshSet led)).get? l = some { cls := .type "tuple", dict := odict, data := .seq items nl, slots := oslots } := Heap.get?_push_of_some _ hol
    have hsls := PySem.F.sub_tuple_set
    have hslf := PySem.F.sub_tuple_frozenset
    have hne : (Value.type "tuple" == Value.type "dict") = false := by decide
    have hl1 : (s.heap.push (freshSet led)).IsTuple l items := ⟨_, hol', rfl, nl, rfl⟩
    generalize hPI : pyIter = PI
    wp_walk
    subst hPI
    refine wpAny_pyIter_tuple hl1 ?_
    refine wpAny_bind (wpAny_runValue ?_)
    refine upd_texts ((Walks.tuple hh3 _ l hneI items).toS) s.heap.objs.size hSf xs isz hval (by omega) (items.size - 0) 0 _ (by omega) (Nat.zero_le _) ⟨⟨_, Heap.get?_push_size _ rfl, rfl, rfl⟩, (hl1.push _)⟩ ?_ (fun s' hm hS' => ?_)
    · have hget : ((s.heap.push (freshSet led)).push { cls := .type "tuple_iterator", data := .fields #[.ref l, .int 0 0] }).get? s.heap.objs.size = some (freshSet led) := Heap.get?_push_of_some _ hS
      exact PyProof.Rows.SetOf_congr ((PyProof.Rows.setObjOf_fresh (knd := PySem.strKind prog w) led).setOf hget (by unfold scanBound; omega)) (fun _ => rfl) rfl
    · exact wpAny_pure (done _ s' hm hS')
end
end Kx
namespace Kx
open PySem PySem.Spec PyProof.Rows L2 SX LamX
section
variable {X : Cx}
/-- len(set(e)), e a list or a tuple of texts -/
def tLenSetN (K : PySem.W.Frag) (ta : TE) : TE := fun σ H Q => ta σ H fun x H1 => ∃ (l : Addr) (xs : List Str), x = .ref l ∧ SqQ K H1 l (xs.map V.str) ∧ xs.length ≤ 4000 ∧ Q (.int ((onceS xs).length : Nat)) H1
theorem pe_lenSetN {a : Expr} {ta : TE} {p p2 q pos : Pos} (hg : Gl X "len") (hm : X.mg "len" = none) (hg2 : Gl X "set") (hm2 : X.mg "set" = none) (ha : PE X a ta) (hc : X.calm = true := by rfl)
    (na : starEach [a] X.env = (false, eval a X.env) :: starEach [] X.env := by rfl) : PE X (.Call (.Name "len" p) [.Call (.Name "set" p2) [a] [] q] [] pos) (tLenSetN X.K ta) := by
  refine ⟨fun pins s σ H Q I h => ?_⟩
  refine Call_ (ld_blt I hg hm boot_len ?_)
  refine PyProof.Rows.callWith_builtin1 (PyProof.Rows.args_cons ?_ rfl) rfl rfl
  refine Call_ (ld_blt I hg2 hm2 boot_set ?_)
  refine PyProof.Rows.callWith_type1 (PyProof.Rows.args_cons (thn (ha.run pins s σ H _ I h) fun v s1 ⟨x, H1, I1, r1, q1⟩ => PyProof.Rows.args_nil ?_) na) na rfl
  obtain ⟨l, xs, rfl, hq, h1, q1⟩ := q1
  cases r1
  have fin : ∀ (h' : Heap) (tk : Nat), MadeTx X.prog X.w s1 xs h' →
      wpAny (model X.prog X.w) X.A (spliced (backTo pos (starEach [] X.env))) (fun vs s₂ => wpAny (model X.prog X.w) X.A (call (.builtin "len") (Value.ref s1.heap.objs.size :: vs)) (EP X pins σ Q) X.xe s₂) X.xe { s1 with heap := h', toks := tk } := fun h' tk m => by
    refine PyProof.Rows.args_nil ?_
    obtain ⟨⟨o, es, ep, t, ho, hex, hd, _, _, _, hf, hn⟩, hk⟩ := m
    have I2 : Inv X pins σ H1 { s1 with heap := h', toks := tk } := I1.kept fun b o e => hk b o e
    have h2 := onceS_le xs
    exact call_len_set ho hex hd hf (by rw [hn] <;> omega) ⟨.int ((onceS xs).length : Nat), H1, I2.tok _, ⟨_, by rw [hn]⟩, q1⟩
  rcases hq with hq | hq
  · obtain ⟨its, r, pl, hz⟩ := I1.list hq
    exact call_set_texts (I1.ok.hd hc) (.inl pl.isList) (by simpa using strsAre_of r) (by unfold scanBound; omega) fin
  · obtain ⟨its, r, pl, hz⟩ := I1.tuple hq
    exact call_set_texts (I1.ok.hd hc) (.inr pl) (by simpa using strsAre_of r) (by unfold scanBound; omega) fin
end
theorem onceS_nodup : ∀ (xs : List Str), (onceS xs).length = xs.length ↔ xs.Nodup := by
  have key : ∀ (xs σ : List Str), σ.Nodup → ((xs.foldl onceStep σ).length = σ.length + xs.length ↔ (xs.Nodup ∧ ∀ x ∈ xs, x ∉ σ)) := by
    intro xs
    induction xs with
    | nil => intro σ _; simp
    | cons x r ih =>
      intro σ hσ
      rw [List.foldl_cons, List.length_cons]
      by_cases hx : σ.any (· == x) = true
      · have e : onceStep σ x = σ := by unfold onceStep; rw [if_pos hx]
        have hm : x ∈ σ := by
          obtain ⟨y, hy, e⟩ := List.any_eq_true.mp hx
          rw [← beq_iff_eq.mp e]
          exact hy
        rw [e]
        have := once_fold r σ
        constructor
        · intro h; omega
        · intro ⟨_, h⟩
          exact absurd hm (h x List.mem_cons_self)
      · have e : onceStep σ x = σ ++ [x] := by unfold onceStep; rw [if_neg hx]
        have hm : x ∉ σ := fun hm => hx (List.any_eq_true.mpr ⟨x, hm, by simp⟩)
        rw [e]
        have hn : (σ ++ [x]).Nodup := List.nodup_append.mpr ⟨hσ, by simp, fun a ha b hb => by
          rw [List.mem_singleton.mp hb]
          exact fun e => hm (e ▸ ha)⟩
        have h := ih (σ ++ [x]) hn
        rw [List.length_append, List.length_singleton] at h
        have e2 : σ.length + 1 + r.length = σ.length + (r.length + 1) := by omega
        rw [e2] at h
        rw [h, List.nodup_cons]
        constructor
        · rintro ⟨h1, h2⟩
          refine ⟨⟨fun hr => h2 x hr (List.mem_append_right _ (List.mem_singleton.mpr rfl)), h1⟩, fun y hy => ?_⟩
          rcases List.mem_cons.mp hy with rfl | hy
          · exact hm
          · exact fun z => h2 y hy (List.mem_append_left _ z)
        · rintro ⟨⟨h1, h2⟩, h3⟩
          refine ⟨h2, fun y hy z => ?_⟩
          rcases List.mem_append.mp z with z | z
          · exact h3 y (List.mem_cons_of_mem _ hy) z
          · rw [List.mem_singleton.mp z] at hy
            exact h1 hy
  intro xs
  have h := key xs [] List.nodup_nil
  simpa [onceS] using h
end Kx
namespace Kx
open PySem PySem.Spec PyProof.Rows L2 SX LamX
section
variable {X : Cx}
/-- tuple(list): the tuple is known to the object -/
theorem call_tuple_frz : CallR X (.type "tuple") (fun xs H Q => ∃ p ys, xs = [.ref p] ∧ ((SqL X.K H p ys ∧ ∀ l o, H l = none → o.dict = none → Q (.ref l) (upd H l (.frz o (.tup ys)))) ∨ (SqT X.K H p ys ∧ Q (.ref p) H))) := by
  intro pins s σ H xs us Q I r h
  obtain ⟨p, ys, rfl, h⟩ := h
  obtain ⟨u, rfl, rx⟩ := vals1 r
  cases rx
  rcases h with ⟨hq, q⟩ | ⟨hq, q⟩
  · obtain ⟨its, r', pl, hz⟩ := I.list hq
    have hlen := r'.length
    refine call_tuple_list pl.isList (fun h' kp => ?_) (by simp only [List.size_toArray] <;> omega)
    have I1 : Inv X pins σ H { s with heap := h' } := I.kept (t' := s.toks) kp
    have I2 : Inv X pins σ (upd H h'.objs.size (.frz { cls := .type "tuple", data := .seq its.toArray } (.tup ys))) { s with heap := h'.push { cls := .type "tuple", data := .seq its.toArray } } :=
      I1.laid (t' := s.toks) (fun b o e => Heap.get?_push_of_some _ e) (Nat.le_refl _) (show ObjOk X.prog X.w _ _ _ (.frz _ (.tup ys)) from ⟨Heap.get?_push_size _ rfl, hz, its, r', IsTup.new _ _⟩)
    exact ⟨.ref h'.objs.size, _, I2, rfl, q _ _ (I1.hok.fresh (Nat.le_refl _)) rfl⟩
  · obtain ⟨its, r', pl, hz⟩ := I.tuple hq
    exact call_tuple_same pl ⟨.ref p, H, I, rfl, q⟩
/-- a tuple that has no dict -/
def TupN (K : PySem.W.Frag) (H : Hp) (p : Addr) : Prop := (∃ o xs, H p = some (.frz o (.tup xs)) ∧ o.dict = none) ∨ ∃ o, K.lookup p = some o ∧ o.cls = .type "tuple" ∧ o.dict = none
theorem TupN.same {K : PySem.W.Frag} {H H' : Hp} {p : Addr} (e : Same H H') (h : TupN K H p) : TupN K H' p := by
  rcases h with ⟨o, xs, h1, h2⟩ | h
  · exact .inl ⟨o, xs, e _ _ h1, h2⟩
  · exact .inr h
theorem TupN.ext {K : PySem.W.Frag} {H H' : Hp} {p : Addr} (e : ExtN H H') (h : TupN K H p) : TupN K H' p := by
  rcases h with ⟨o, xs, h1, h2⟩ | h
  · exact .inl ⟨o, xs, ext_at e h1, h2⟩
  · exact .inr h
theorem tupN_ty {pins : List (Addr × Obj)} {σ : L2.St} {H : Hp} {s : Shared} {y : V} {v : Value} (I : Inv X pins σ H s) (r : RelV y v) (ty : ∃ p, y = .ref p ∧ TupN X.K H p) :
    s.TypeIs v "tuple" ∧ ∀ a, v = .ref a → ∃ ob, s.heap.get? a = some ob ∧ ob.dict = none := by
  obtain ⟨p, rfl, h⟩ := ty
  cases r
  have key : ∃ ob, s.heap.get? p = some ob ∧ ob.cls = .type "tuple" ∧ ob.dict = none := by
    rcases h with ⟨o, xs, e, d⟩ | ⟨o, e, c, d⟩
    · have h1 : ObjOk X.prog X.w H s.heap p (.frz o (.tup xs)) := I.hok p _ e
      obtain ⟨g, _, its, _, ⟨o2, g2, c2, _⟩⟩ := h1
      rw [g] at g2
      cases g2
      exact ⟨o, g, c2, d⟩
    · exact ⟨o, I.kIn _ _ e, c, d⟩
  obtain ⟨ob, g, c, d⟩ := key
  refine ⟨⟨ob, g, c⟩, fun b hb => ?_⟩
  cases hb
  exact ⟨ob, g, d⟩
def tTM (K : PySem.W.Frag) (r : V → List V → Hp → VK → Prop) (to : TE) (t : TA) : TE := fun σ H Q => to σ H fun x H1 => (∃ p, x = .ref p ∧ TupN K H1 p) ∧ t σ H1 fun xs H2 => r x xs H2 Q
variable {o e : Expr} {es : List Expr} {to : TE} {t : TA} {name : Str} {apos cpos : Pos} {id : String} {r : V → List V → Hp → VK → Prop}
/-- o.m(e, ..), o a tuple -/
theorem pe_tm (slot : Slot "tuple" name id) (hty : typeOf (.builtin id) = pure (.type "method_descriptor")) (hm : MtR X id r) (ho : PE X o to) (ha : PA X (e :: es) t)
    (hbase : attributeBase o name X.env (eval o X.env) = eval o X.env := by rfl)
    (hfew : ((backTo cpos (starEach (e :: es) X.env)).all (fun x => !x.1) && (backToKw cpos (keywordEach [] X.env)).all (fun x => x.1.isSome)
      && decide ((e :: es).length + ([] : List Keyword).length + (if ([] : List Keyword).isEmpty then 0 else 1) < 30)) = true := by rfl)
    (hline : (apos.endLine == cpos.line) = true := by rfl) (hs : starEach (e :: es) X.env = (false, eval e X.env) :: starEach es X.env := by rfl) (hplain : (backTo cpos (starEach es X.env)).any (·.1) = false := by rfl) :
    PE X (.Call (.Attribute o name apos) (e :: es) [] cpos) (tTM X.K r to t) := by
  refine ⟨fun pins s σ H Q I h => ?_⟩
  refine wpAny_Call_method_late hbase hfew hline rfl (thn (ho.run pins s σ H _ I h) fun v s1 ⟨x, H1, I1, r1, ty, q1⟩ => ?_)
  obtain ⟨h1, h2⟩ := tupN_ty I1 r1 ty
  refine ⟨"tuple", id, PySem.F.plainAttrs_tuple, slot, hty, h1, h2, ?_⟩
  have hA := ha.run cpos pins s1 σ H1 _ I1 q1
  rw [hs] at hA ⊢
  refine Calls.callWith_builtin (by show (false || (backTo cpos (starEach es X.env)).any (·.1)) = false; rw [hplain] <;> rfl) (Calls.evalArgs_plain ?_)
  exact thn hA fun us s2 ⟨vs, H2, I2, r2, q2⟩ => hm pins s2 σ H2 x vs v us Q I2 r1 r2 q2
end
section
variable {X : Cx} {CX : CXT} {k : Nat} {f C : Addr} {fd : FuncData} {ps ks : List Str} {sp : Sp} {E : XK} {o : Expr} {m : Str} {apos pos : Pos} {kws : List Keyword} {ta : TE} {tk : TA} {g : List Value → List Value → List Value} {gV : List V → List V → List V}
def tMethK (C : Addr) (m : Str) (sp : Sp) (gV : List V → List V → List V) (E : XK) (ta : TE) (tk : TA) : TE := fun σ H Q => ta σ H fun x H1 => ∃ a dx fs, x = .ref a ∧ H1 a = some (.ins C dx fs) ∧ fs.lookup m = none ∧ tk σ H1 fun zs H2 => sp (gV [x] zs) H2 Q E
/-- o.m(k = v) -/
theorem pe_methK0 {pl : Sem Bool} (he : PE X o ta) (c : Cls X.K C) (hm : Meth X.K C m f) (F : FnOk X.prog X.w X.K X.mg X.base CX k f fd ps sp) (hr : Room k X.A) (hb : KBinds X.K fd ps ks g gV) (hx : Passes CX X E) (hkw : PK X kws tk)
    (hall : (backToKw pos (keywordEach kws X.env)).all (·.1.isSome) = true := by rfl) (hks : (backToKw pos (keywordEach kws X.env)).filterMap (·.1) = ks := by rfl)
    (hpl : ((backTo pos (starEach [] X.env)).any (·.1) || (backToKw pos (keywordEach kws X.env)).any (·.1.isNone)) = false := by rfl)
    (ht : eval (.Call (.Attribute o m apos) [] kws pos) X.env = (do
      let ov ← eval o X.env
      standAt apos.atName
      let (f, first) ← holding [ov] (getMethod ov m pl)
      callWith pos f first (backTo pos (starEach [] X.env)) (backToKw pos (keywordEach kws X.env))) := by rfl) :
    PE X (.Call (.Attribute o m apos) [] kws pos) (tMethK C m sp gV E ta tk) := by
  refine ⟨fun pins s σ H Q I h => ?_⟩
  refine PySem.W.methodCall_KW (pl := pl) (thn (he.run pins s σ H _ I h) fun u s1 ⟨x, H1, I1, rx, a, dx, fs, ex, ea, l, q⟩ => ?_) ht
  subst ex
  obtain rfl : u = Value.ref a := rx
  refine getmeth_ok I1 ea c hm l ?_
  show wpAny _ _ (callWith pos (.ref f) [.ref a] (backTo pos (starEach [] X.env)) (backToKw pos (keywordEach kws X.env))) _ _ _
  refine PySem.W.callWith_KW0 (first := [.ref a]) (h₀ := X.base) I.ok.mod.kin hm.kp hall (thn (hkw.run pos pins s1 σ H1 _ I1 q) fun ws s2 ⟨zs, H2, I2, rz, q2⟩ => ⟨I2.kIn, ?_⟩) hpl
  rw [hks]
  exact run_fnk (us := [.ref a]) (vs := [.ref a]) F hr hb hx I2 (.cons rfl .nil) rz q2
end
/-- self, and one by name -/
def selfG {α : Type} (us ws : List α) : List α := match us, ws with | [s], [u] => [s, u] | _, _ => []
theorem kb_self {K : PySem.W.Frag} {x qual : Str} {st : Stmt} {f : Addr} {fd : FuncData} {a b : Str} (F : Fun K x qual st f fd)
    (h : ∀ (kV doc pm : Value) (an : Option Addr) (cdv ct : Value) (s u : Value), bindArgs (PySem.W.fnOf x qual (defArgs st) (defBody st) (defScope st) .none kV doc pm an cdv ct) ⟨[s], [(b, u)]⟩ = pure [(a, s), (b, u)]) :
    KBinds K fd [a, b] [b] selfG selfG := by
  obtain ⟨oc, od, kV, doc, pm, an, cdv, ct, osl, rfl, lk, hcd⟩ := F.ex
  refine ⟨fun s us ws X l => ?_, fun {vs us zs ws} r1 r2 => ?_⟩
  · match us, ws, l with
    | [s], [u], _ => exact .of_eq (h kV doc pm an cdv ct s u)
    | [], _, l => cases l
    | [_], [], l => cases l
    | [_], _ :: _ :: _, l => cases l
    | _ :: _ :: _, _, l => cases l
  · cases r1 with
    | nil => exact .nil
    | cons h1 r1 =>
      cases r1 with
      | cons _ _ => exact .nil
      | nil =>
        cases r2 with
        | nil => exact .nil
        | cons h2 r2 =>
          cases r2 with
          | nil => exact .cons h1 (.cons h2 .nil)
          | cons _ _ => exact .nil
/-- .. the same for the making of an instance -/
theorem kbn_self {K : PySem.W.Frag} {x qual : Str} {st : Stmt} {f : Addr} {fd : FuncData} {a b : Str} (F : Fun K x qual st f fd)
    (h : ∀ (kV doc pm : Value) (an : Option Addr) (cdv ct : Value) (s u : Value), bindArgs (PySem.W.fnOf x qual (defArgs st) (defBody st) (defScope st) .none kV doc pm an cdv ct) ⟨[s], [(b, u)]⟩ = pure [(a, s), (b, u)]) :
    KBn K fd [a, b] 1 [b] selfG selfG := by
  have kb := kb_self F h
  refine ⟨fun s us ws X l1 l2 => kb.to s us ws X ?_, kb.rel⟩
  match us, ws, l1, l2 with
  | [_], [_], _, _ => rfl
end Kx
namespace Kx
open PySem PySem.Spec PyProof.Rows L2 SX LamX
theorem sqT_put {K : PySem.W.Frag} {H : Hp} {p a C dx : Addr} {fs : List (Str × V)} {o : HO} {xs : List V} (hp : H p = some (.ins C dx fs)) (h : SqT K H a xs) : SqT K (upd H p o) a xs := by
  rcases h with (h | ⟨ob, h⟩) | h
  · exact .inl (.inl (by rw [upd_ne (ne_of_two h hp (fun z => by cases z))]; exact h))
  · exact .inl (.inr ⟨ob, by rw [upd_ne (ne_of_two h hp (fun z => by cases z))]; exact h⟩)
  · exact .inr h
theorem tupN_put {K : PySem.W.Frag} {H : Hp} {p a C dx : Addr} {fs : List (Str × V)} {o : HO} (hp : H p = some (.ins C dx fs)) (h : TupN K H a) : TupN K (upd H p o) a := by
  rcases h with ⟨ob, xs, h, d⟩ | h
  · exact .inl ⟨ob, xs, by rw [upd_ne (ne_of_two h hp (fun z => by cases z))]; exact h, d⟩
  · exact .inr h
theorem kitOne_no {K : PySem.W.Frag} {C : Addr} {n : String} (h1 : PySem.W.isClsIn K C = true) (h2 : PySem.W.typeIn K (.ref C) = some (.type "type")) (h3 : PySem.W.subIn K (.type n) (.ref C) = some false) : PySem.W.kitOne K (.type n) (.ref C) = some false := by
  unfold PySem.W.kitOne
  rw [if_neg (by simp)]
  unfold PySem.W.kitCls
  have h1' : (PySem.W.clsIn K C).isSome = true := h1
  dsimp only
  rw [h1', h2]
  exact h3
theorem kitOne_self {K : PySem.W.Frag} {C : Addr} : PySem.W.kitOne K (.ref C) (.ref C) = some true := by
  unfold PySem.W.kitOne
  simp
theorem kitOne_other {K : PySem.W.Frag} {C D : Addr} (h1 : PySem.W.isClsIn K C = true) (h2 : PySem.W.typeIn K (.ref C) = some (.type "type")) (h3 : PySem.W.subIn K (.ref D) (.ref C) = some false) (h4 : PySem.W.subIn K (.ref D) (.ref D) = some true) : PySem.W.kitOne K (.ref D) (.ref C) = some false := by
  have ne : D ≠ C := fun e => by
    rw [e] at h3 h4
    rw [h3] at h4
    cases h4
  unfold PySem.W.kitOne
  rw [if_neg (by simpa using ne)]
  unfold PySem.W.kitCls
  have h1' : (PySem.W.clsIn K C).isSome = true := h1
  dsimp only
  rw [h1', h2]
  exact h3
theorem sub_non {K : PySem.W.Frag} {C : Addr} : PySem.W.subIn K (.type "NoneType") (.ref C) = some false := HN.sub_none
theorem eqv_text (a b : List Nat) : PyData.eqv (.str (S a)) (.str (S b)) = decide (a = b) := by
  show (S a == S b) = _
  by_cases h : a = b
  · rw [h, decide_eq_true rfl]
    simp
  · rw [decide_eq_false h, beq_eq_false_iff_ne]
    intro e
    have := congrArg (fun z : Str => z.cps.toList) e
    exact h (by simpa [S] using this)
theorem eqv_texts (xs ys : List (List Nat)) : PyData.eqv (.tuple (xs.map fun l => PyData.str (S l))) (.tuple (ys.map fun l => PyData.str (S l))) = decide (xs = ys) := eqvAll_map eqv_text xs ys
theorem pl_text {l : List Nat} (h : cdC l) : Pl 0 (.str (S l)) := ⟨by
  show (S l).cps.all (· < 0x110000) = true
  have e : (S l).cps.all (· < 0x110000) = l.all (fun c => decide (c < 1114112)) := by simp [S]
  rw [e]
  exact h, Nat.le_refl _⟩
theorem low_cd {l : List Nat} (h : l.all low = true) : cdC l := by
  unfold cdC
  rw [List.all_eq_true] at h ⊢
  intro c hc
  have := low_lt (h c hc)
  exact decide_eq_true (by omega)
theorem inV_texts {v : V} (ws : List (List Nat)) : inV v (ws.map fun l => V.str (S l)) = true ↔ ∃ w ∈ ws, v = .str (S w) := by
  unfold inV
  rw [List.any_map, List.any_eq_true]
  constructor
  · rintro ⟨w, hw, h⟩
    refine ⟨w, hw, ?_⟩
    cases v with
    | str x =>
      have h' : (S w == x) = true := h
      rw [beq_iff_eq.mp h']
    | _ => cases h
  · rintro ⟨w, hw, rfl⟩
    exact ⟨w, hw, by show (S w == S w) = true; simp⟩
end Kx
namespace Kx
open PySem PySem.Spec PyProof.Rows L2 SX LamX
section
variable {X : Cx}
theorem rev_pick (z : Str) : ((Builtin.Str.strSliceIndices none none (-1) z.length).filterMap (z.cps[·]?)).toArray = z.cps.toList.reverse.toArray := by
  have e : Builtin.Str.strSliceIndices none none (-1) z.length = sliceRange ((z.cps.size : Int) - 1) (-1) (-1) := rfl
  rw [e, PySem.W.krv_sliceRange, PySem.W.krv_range, List.filterMap_reverse, PySem.W.krv_all]
/-- x[::-1], a text -/
def tRevS (te : TE) : TE := fun σ H Q => te σ H fun x H1 => ∃ l : List Nat, x = .str (S l) ∧ l.length ≤ 1000000 ∧ Q (.str (S l.reverse)) H1
theorem pe_revS {e : Expr} {te : TE} {k : Nat} {p1 p2 p3 pos : Pos} (he : PE X e te) : PE X (.Subscript e (.Slice none none (some (.UnaryOp .USub (.Constant (.int 1) k p1) p2)) p3) pos) (tRevS te) := by
  refine ⟨fun pins s σ H Q I h => ?_⟩
  refine Subscript_ (thn (he.run pins s σ H _ I h) fun v s1 ⟨x, H1, I1, r1, q1⟩ => ?_)
  obtain ⟨z, ex, hz, q⟩ := q1
  subst ex
  obtain ⟨t, rfl⟩ := r1
  have hst : PO X (some (.UnaryOp .USub (.Constant (.int 1) k p1) p2)) (tPart (tUn (rU fun i => .int (-i)) (tC (.int 1)))) := po_some (pe_un un_neg pe_int)
  refine wpAny_Slice (thn (po_none.run pins s1 σ H1 (fun o H2 => o = none ∧ H2 = H1) I1 ⟨rfl, rfl⟩) fun vl s2 ⟨l, H2, I2, pl, el, e2⟩ => ?_)
  subst el e2
  refine thn (po_none.run pins s2 σ H2 (fun o H3 => o = none ∧ H3 = H2) I2 ⟨rfl, rfl⟩) fun vu s3 ⟨u, H3, I3, pu, eu, e3⟩ => ?_
  subst eu e3
  refine thn (hst.run pins s3 σ H3 (fun o H4 => o = some (-1) ∧ H4 = H3) I3 ⟨1, rfl, -1, rfl, rfl, rfl⟩) fun vs s4 ⟨o, H4, I4, ps, eo, e4⟩ => ?_
  subst eo e4
  have I5 : Inv X pins σ H4 { s4 with heap := s4.heap.push { cls := .type "slice", data := .fields #[vl, vu, vs] } } := I4.kept (t' := s4.toks) fun b ob q => Heap.get?_push_of_some _ q
  obtain ⟨l', rfl, e1⟩ := IsPart.raw pl
  obtain ⟨u', rfl, e2⟩ := IsPart.raw pu
  obtain ⟨w', rfl, e3⟩ := IsPart.raw ps
  show wpAny (model X.prog X.w) X.A (subscriptTail e (.Slice none none (some (.UnaryOp .USub (.Constant (.int 1) k p1) p2)) p3) (.str (S z) t) (.ref s4.heap.objs.size)) (EP X pins σ Q) X.xe _
  refine tail_any (ops := [.str (S z) t, .ref s4.heap.objs.size]) (typeIs_str _ _ _) (PySem.F.slot_str_getitem.lookup) ?_ (by with_unfolding_all rfl)
  refine wpAny_getItem_str_slice (l := l') (u := u') (st := w') ⟨_, Heap.get?_push_size _ rfl, rfl, rfl⟩ (by rw [e3]; decide) ?_
  have hm : l'.map (·.1) = none := e1
  have hu : u'.map (·.1) = none := e2
  have made : sliceMade (S z) t l' u' w' = Made.str (S z.reverse) := by
    unfold sliceMade slicePicked
    rw [hm, hu, e3]
    show (if ((-1 : Int) == 1 && _) = true then _ else _) = _
    rw [if_neg (by simp)]
    have e0 : (S z).cps.toList = z := by simp [S]
    have e5 := rev_pick (S z)
    rw [e0] at e5
    exact congrArg (fun a => Made.str ⟨a⟩) e5
  rw [made]
  exact ⟨by rw [S_len, List.length_reverse]; exact Nat.le_trans hz (by decide), .str _, _, I5.tok _, ⟨_, rfl⟩, q⟩
end
end Kx
namespace Kx
open PySem PySem.Spec PyProof.Rows L2 SX LamX
theorem go_set {te : TE} {u : TS} {D : Ends} {σ : L2.St} {H : Hp} {i : Nat} (h : te σ H fun x H1 => u D (σ.set i (some x)) H1) : tSeq (tAsg te (gName i)) u D σ H := h
theorem go_next {D : Ends} {σ : L2.St} {H : Hp} (h : D.nx σ H) : tNext D σ H := h
theorem go_and2 {ta tb : TT} {σ : L2.St} {H : Hp} {Q : Bool → Hp → Prop} (h : ta σ H fun b H1 => if b = true then tb σ H1 Q else Q false H1) : tAnd ta tb σ H Q := h
end Kx
namespace Kx
open PySem PySem.Spec PyProof.Rows L2 SX LamX
/-- a test that fails -/
theorem if_same {c : TT} {t u : TS} {D : Ends} {σ : L2.St} {H : Hp} (hc : ∀ Q : Bool → Hp → Prop, (∀ H', Same H H' → Q false H') → c σ H Q) (h : ∀ H', Same H H' → u D σ H') : tIfS c t u D σ H := go_if (hc _ fun H' e => iteF (A := _) (h H' e))
theorem nodup_rev {α : Type} {l : List α} (h : l.Nodup) : l.reverse.Nodup := by
  unfold List.Nodup at h ⊢
  rw [List.pairwise_reverse]
  exact h.imp fun h e => h e.symm
end Kx
namespace Kx
open PySem PySem.Spec PyProof.Rows L2 SX LamX
open PySem.W in
/-- the goal that the head leaves, of a law in which two defs make lambdas -/
theorem walkL2 {l : OpenLaw} {n k : Nat} {q : Program} {loose : List Str} {XP : (Str → Option Value) → Heap → Prop} {YP : World → Heap → Prop} {d : DefRec} {K : Params → Frag} {x y z : Str} (sp : Frag → Addr → Addr → Sp)
    (hn : l.most = some n) (hz : n ≤ sizeLine) (h0 : d.params.defaults = []) (hr : Room k callerA) (hY : ∀ (w : World) (h : Heap), YP w h → (K w.params).In h)
    (hc : ∀ p, ((∃ r, (recsOf q).find? (fun r => r.name == y) = some r) ∧ ∃ r, (recsOf q).find? (fun r => r.name == z) = some r) ∧ ∃ c Pt c2 Pu, (tabIn (K p) y = some (c, Pt) ∧ (K p).lookup Pt = none) ∧ (tabIn (K p) z = some (c2, Pu) ∧ (K p).lookup Pu = none) ∧ Pt ≠ Pu)
    (F : ∀ (w : World) (mg : Str → Option Value) (fa : Addr) (h : Heap), (K w.params).In h → h.Ns mainGlobals mg → mg d.name = some (.ref fa) → ∃ fd : FuncData,
      (∀ (t : Shared) (u : Value), BindsTo t fd ⟨[u], []⟩ [(x, u)]) ∧ ∀ (c Pt c2 Pu : Addr), tabIn (K w.params) y = some (c, Pt) → tabIn (K w.params) z = some (c2, Pu) → Pt ≠ Pu → ∀ base : Heap, (K w.params).In base → base.Ns mainGlobals mg → TabB base mg c Pt → TabB base mg c2 Pu → FnG l.prog w (K w.params) mg base CX0 k fa fd [x] (sp (K w.params) Pt Pu))
    (pr : ∀ (K : Frag) (Pt Pu : Addr) (H : Hp) (a : Addr) (ns : List Int), ns.length ≤ n → H Pt = some (.tbl #[]) → H Pu = some (.tbl #[]) → SqL K H a (ns.map V.int) → sp K Pt Pu [.ref a] H (fun v _ => v = .bl true) fun _ _ _ => False) :
    WalkO q loose XP YP l.row.toRowW d [] (fun f us => PySem.call f us) := by
  refine walkT (x := x) (K := K) (cs := fun p => [(y, ((tabIn (K p) y).getD (0, 0))), (z, ((tabIn (K p) z).getD (0, 0)))]) (sp := fun K => sp K ((tabIn K y).getD (0, 0)).2 ((tabIn K z).getD (0, 0)).2) hn hz h0 hr hY (fun p e he => ?_) (fun w mg fa h KX G hmg => ?_) (fun p H a ns hl ht hS _ => pr _ _ _ H a ns hl (ht _ List.mem_cons_self) (ht _ (List.mem_cons_of_mem _ List.mem_cons_self)) hS)
  · obtain ⟨⟨r1, r2⟩, c, Pt, c2, Pu, ⟨h2, h3⟩, ⟨h4, h5⟩, _⟩ := hc p
    rcases List.mem_cons.mp he with rfl | he
    · refine ⟨r1, ?_, ?_⟩
      · rw [h2]
        rfl
      · rw [h2]
        exact h3
    · cases List.mem_singleton.mp he
      refine ⟨r2, ?_, ?_⟩
      · rw [h4]
        rfl
      · rw [h4]
        exact h5
  · obtain ⟨fd, hb, hF⟩ := F w mg fa h KX G hmg
    obtain ⟨_, c, Pt, c2, Pu, ⟨h2, _⟩, ⟨h4, _⟩, hne⟩ := hc w.params
    refine ⟨fd, hb, fun base hk hg ht => ?_⟩
    have hT := ht _ List.mem_cons_self
    have hU := ht _ (List.mem_cons_of_mem _ List.mem_cons_self)
    simp only [h2, h4, Option.getD_some] at hT hU ⊢
    exact hF c Pt c2 Pu h2 h4 hne base hk hg hT hU
theorem tab_at {K : PySem.W.Frag} {x : Str} {f c Pt : Addr} {oc oc2 : Value} {od od2 : Option Addr} {osl osl2 : Array (Option Value)} {fd : FuncData} {vs : Array Value} (a : PySem.W.nsIn K mainGlobals x = some (some (.ref f)))
    (l : K.lookup f = some ⟨oc, od, .func fd, osl⟩) (e : fd.code = .ref c) (l2 : K.lookup c = some ⟨oc2, od2, .fields vs, osl2⟩) (v : (vs[11]? : Option Value) = some (.ref Pt)) (n : K.lookup Pt = none) :
    PySem.W.tabIn K x = some (c, Pt) ∧ K.lookup Pt = none := by
  refine ⟨?_, n⟩
  unfold PySem.W.tabIn
  rw [a]
  simp only [l, e, l2, v]
end Kx
namespace Kx
open PySem PySem.Spec PyProof.Rows L2 SX LamX
section
variable {X : Cx} {K : PySem.W.Frag}
theorem inK_op_in_seq (e : X.K = K) : OpR X (compareOp .In) (rIn K false) := e ▸ op_in_seq
theorem inK_op_notIn_seq (e : X.K = K) : OpR X (compareOp .NotIn) (rIn K true) := e ▸ op_notIn_seq
theorem inK_call_tuple_frz (e : X.K = K) : CallR X (.type "tuple") (fun xs H Q => ∃ p ys, xs = [.ref p] ∧ ((SqL K H p ys ∧ ∀ l o, H l = none → o.dict = none → Q (.ref l) (upd H l (.frz o (.tup ys)))) ∨ (SqT K H p ys ∧ Q (.ref p) H))) := e ▸ call_tuple_frz
end
theorem sub_int {K : PySem.W.Frag} {C : Addr} : PySem.W.subIn K (.type "int") (.ref C) = some false := by
  have e : fastBuiltinMro "int" = some [.type "int", .type "object"] := by decide +kernel
  show (fastBuiltinMro "int").map (·.contains (.ref C)) = some false
  rw [e]
  first
    | rfl
    | simp
end Kx
namespace PySem
open Sem (wp)
open AutoSeq1 (wpAny_loadPart')
theorem meets_enumerate_newT (l : Addr) (items : Array Value) (n : Nat) (dct : Option Addr) (sl : Array (Option Value)) :
    Meets (Builtin.«enumerate.__new__» ⟨[.type "enumerate", .ref l], []⟩) (fun _ R s => s.heap.get? l = some { cls := .type "tuple", dict := dct, data := .seq items n, slots := sl } ∧
      R (.ok (.ret (.ref (s.heap.push { cls := .type "tuple_iterator", data := .fields #[.ref l, .int 0 0] }).objs.size)))
        { s with heap := (s.heap.push { cls := .type "tuple_iterator", data := .fields #[.ref l, .int 0 0] }).push { cls := .type "enumerate", data := .fields #[.none, .bool false, .ref s.heap.objs.size, rawInt 0, .none, .none] } }) :=
  .of_wp fun prog w A R s h => by
    obtain ⟨hp, g, d, tk, os⟩ := s
    obtain ⟨hl, h⟩ := h
    have hsub := sub_enumerate
    have hL : Heap.IsTuple (Shared.heap ⟨hp, g, d, tk, os⟩) l items := ⟨_, hl, rfl, n, rfl⟩
    wp_walk using wpAny_loadPart' hl
    refine wpAny_stack_any fun st => wpAny_pure ?_
    split
    · rename_i c _ _ _ _ _
      cases (c == Value.type "enumerate")
      · wp_walk using wpAny_loadPart' hl, wpAny_pyIter_tuple hL
        exact ⟨_, rfl, h⟩
      · wp_walk using wpAny_loadPart' hl, wpAny_pyIter_tuple hL
        exact ⟨_, rfl, h⟩
    · wp_walk using wpAny_loadPart' hl, wpAny_pyIter_tuple hL
      exact ⟨_, rfl, h⟩
section
variable {prog : Program} {w : World} {A : Around} {E : Value → Shared → Prop} {s : Shared}
theorem call_enumerate_tuple {l : Addr} {items : Array Value} {Q : Value → Shared → Prop} (hL : s.heap.IsTuple l items)
    (h : ∀ h', IsEnum h' (s.heap.objs.size + 1) s.heap.objs.size 0 .none → h'.IsTupleIter s.heap.objs.size l 0 → h'.objs.size = s.heap.objs.size + 2 →
      (∀ b o, s.heap.get? b = some o → h'.get? b = some o) → Q (.ref (s.heap.objs.size + 1)) { s with heap := h' }) :
    wpAny (model prog w) A (call (.type "enumerate") [.ref l]) Q E s := by
  obtain ⟨⟨c, dct, dt, sl⟩, hl, hc, n, hd⟩ := hL
  replace hc : c = .type "tuple" := hc
  replace hd : dt = .seq items n := hd
  subst hc hd
  refine callType_new F.called_enumerate (by decide) (F.typeCall_enumerate_1 _) (F.newCall_enumerate_1 _) (fun obj => F.args_object_init_2 obj _) F.entry_enumerate_new
    (meets_enumerate_newT l items n dct sl) ⟨hl, ?_⟩
  have hz : (s.heap.push { cls := .type "tuple_iterator", data := .fields #[.ref l, .int 0 0] }).objs.size = s.heap.objs.size + 1 := Heap.size_push ..
  show _ ∧ _
  rw [hz]
  have he : IsEnum ((s.heap.push { cls := .type "tuple_iterator", data := .fields #[.ref l, .int 0 0] }).push
      { cls := .type "enumerate", data := .fields #[.none, .bool false, .ref s.heap.objs.size, rawInt 0, .none, .none] }) (s.heap.objs.size + 1) s.heap.objs.size 0 .none := by
    have := Heap.get?_push_size (s.heap.push { cls := .type "tuple_iterator", data := .fields #[.ref l, .int 0 0] })
      (o := { cls := .type "enumerate", data := .fields #[.none, .bool false, .ref s.heap.objs.size, rawInt 0, .none, .none] }) rfl
    rw [hz] at this; exact this
  refine ⟨⟨_, he, rfl⟩, h _ he ⟨_, Heap.get?_push_of_some _ (Heap.get?_push_size _ rfl), rfl, rfl⟩ (by rw [Heap.size_push, hz]) fun b o x => Heap.get?_push_of_some _ (Heap.get?_push_of_some _ x)⟩
end
end PySem
namespace Kx
open PySem PySem.Spec PyProof.Rows L2 SX LamX
/-! ### enumerate(tuple) -/
def IteT (K : PySem.W.Frag) (a : Addr) : It :=
  ⟨fun i H => ∃ (xs : List V) (x : V), SqT K H a xs ∧ xs[i]? = some x, fun i H v H' => ∃ T x, v = .ref T ∧ H T = none ∧ H' = upd H T (.tup [.int (i : Nat), x]) ∧ ∀ xs, SqT K H a xs → xs[i]? = some x, fun i H => ∃ xs : List V, SqT K H a xs ∧ i = xs.length⟩
theorem turn_enumT {P : Program} {w : World} {K : PySem.W.Frag} {elts : List Expr} {kk : Nat} {tpos : Pos} (a e it : Addr) :
    Turn P w K (.Tuple elts kk tpos) (IteT K a) [e, it] e (fun i h => (∃ old, IsEnum h e it ((i : Nat) : Int) old) ∧ h.IsTupleIter it a i ∧ e ≠ it ∧ a ≠ it ∧ a ≠ e) where
  mem := by simp
  obj := fun i h st b hb => by
    obtain ⟨⟨old, he⟩, ⟨o, ho, hc, hd⟩, _⟩ := st
    rcases (show b = e ∨ b = it by simpa using hb) with z | z
    · rw [z]
      exact ⟨_, he, fun v q => nomatch q⟩
    · rw [z]
      exact ⟨o, ho, fun v q => by rw [hd] at q; cases q⟩
  keep := fun i h h' st k => by
    obtain ⟨⟨old, he⟩, ⟨o, ho, r⟩, hne⟩ := st
    exact ⟨⟨old, k e (by simp) _ he⟩, ⟨o, k it (by simp) _ ho, r⟩, hne⟩
  item := by
    intro X hP hw hK hc i pins s σ H E I hf st hg
    subst hP hw hK
    obtain ⟨⟨old, he⟩, hit, hne, n1, n2⟩ := st
    obtain ⟨xs, x, hq, hx⟩ := hg
    obtain ⟨its, rv, p, hz⟩ := I.tuple hq
    obtain ⟨u, hu, ru⟩ := rv.get hx
    have el : e < s.heap.objs.size := Heap.lt_size he
    have il : it < s.heap.objs.size := by
      obtain ⟨_, q, _⟩ := hit
      exact Heap.lt_size q
    have D := Draws.tuple (prog := X.prog) (w := X.w) (A := X.A.in1) (I.ok.hd hc) it a n1 its.toArray
    have hlt : i < its.toArray.size := by
      have := (List.getElem?_eq_some_iff.mp hu).1
      simpa using this
    refine wpAny_pyNext_enum_itemD D he ⟨hit, p⟩ hlt hne (by simp [hne, Ne.symm n2]) fun u' h' tk hu' ho hit' hT hz' hk => ?_
    obtain rfl : u = u' := by
      have h1 : its.toArray[i]? = some u := by simpa using hu
      rw [h1] at hu'
      exact Option.some.inj hu'
    refine ⟨_, rfl, wpAny_letOwnedTupleGo_enum (s := { s with heap := h', toks := tk + 1 }) ho fun h2 he' sb => ?_⟩
    have T2 := (sb.2 _ (Nat.ne_of_gt el)).trans hT
    have new : ObjOk X.prog X.w (upd H s.heap.objs.size (.tup [.int (i : Nat), x])) h2 s.heap.objs.size (.tup [.int (i : Nat), x]) :=
      ⟨by show 2 ≤ sizeLine; decide, [.int i tk, u], .cons ⟨_, rfl⟩ (.cons ru .nil), ⟨_, T2, rfl, _, rfl⟩⟩
    have I1 : Inv X pins σ (upd H s.heap.objs.size (.tup [.int (i : Nat), x])) { s with heap := h2, toks := tk + 1 } :=
      I.turnedNew (ch := [e, it]) (fun b ob hb q => (sb.2 b (fun z => hb (by simp [z]))).trans (hk b ob (fun z => hb (by simp [z])) (fun z => hb (by simp [z])) q)) hf (Nat.le_refl _) new
    refine ⟨.ref s.heap.objs.size, _, I1, rfl, ⟨_, x, rfl, I.hok.fresh (Nat.le_refl _), rfl, fun ys hy => by rw [I.tuple_inj hy hq]; exact hx⟩, ⟨⟨u, ?_⟩, ?_, hne, n1, n2⟩, fun b hb => ?_⟩
    · rw [show ((i + 1 : Nat) : Int) = (i : Int) + 1 by omega]
      exact he'
    · obtain ⟨⟨o, ho2, r⟩, _⟩ := hit'
      exact ⟨o, (sb.2 it (Ne.symm hne)).trans ho2, r⟩
    · have hb' : b < s.heap.objs.size := by
        rcases (show b = e ∨ b = it by simpa using hb) with z | z
        · rw [z]
          exact el
        · rw [z]
          exact il
      rw [upd_ne (Nat.ne_of_lt hb')]
      exact (hf b hb).1
  done := by
    intro X hP hw hK hc i pins s σ H E I hf st hg
    subst hP hw hK
    obtain ⟨⟨old, he⟩, hit, hne, n1, n2⟩ := st
    obtain ⟨xs, hq, hx⟩ := hg
    obtain ⟨its, rv, p, hz⟩ := I.tuple hq
    obtain ⟨f0, f1, f2, f3, f4, f5⟩ := hf it (by simp)
    have hl : i = its.toArray.size := by
      rw [hx, rv.length]
      simp
    have D := Draws.tuple (prog := X.prog) (w := X.w) (A := X.A.in1) (I.ok.hd hc) it a n1 its.toArray
    rw [hl] at hit he
    exact wpAny_pyNext_enum_endD D he ⟨hit, p⟩ fun h' eb => ⟨rfl, I.turned (t' := s.toks) (fun b o hb q => eb b o hb q) f0 f1 f3 f4 f5⟩
  self := fun A i s Q E st h => by
    obtain ⟨⟨_, he⟩, _⟩ := st
    exact wpAny_pyIter_enum he h
def iEnumT (K : PySem.W.Frag) (ta : TA) : TI := fun σ H R => ta σ H fun vs H1 => ∃ a xs, vs = [.ref a] ∧ SqT K H1 a xs ∧ R (IteT K a) H1
theorem pi_enumT {X : Cx} {e : Expr} {ta : TA} {p pos tpos : Pos} {elts : List Expr} {kk : Nat} (hg : Gl X "enumerate") (hm : X.mg "enumerate" = none) (ha : PA X [e] ta) (hs : starEach [e] X.env = [(false, eval e X.env)] := by rfl) :
    PI X (.Tuple elts kk tpos) (.Call (.Name "enumerate" p) [e] [] pos) (iEnumT X.K ta) := by
  refine ⟨fun pins s σ H R I h => ?_⟩
  refine Call_ (ld_blt I hg hm boot_enumerate (PyProof.Rows.callWith_type1 (thn (ha.run pos pins s σ H _ I h) fun us s1 hh => ?_) hs rfl))
  obtain ⟨vs, H1, I1, r1, a, xs, rfl, hq, q⟩ := hh
  obtain ⟨u, rfl, rx⟩ := vals1 r1
  cases rx
  obtain ⟨its, rv, pp, hz⟩ := I1.tuple hq
  have hla : a < s1.heap.objs.size := by
    obtain ⟨_, q, _⟩ := pp
    exact Heap.lt_size q
  refine call_enumerate_tuple pp fun h' he hit hsz hk => wpAny_pyIter_enum he ?_
  have I2 : Inv X pins σ H1 { s1 with heap := h' } := I1.kept (t' := s1.toks) hk
  refine ⟨s1.heap.objs.size + 1, [s1.heap.objs.size + 1, s1.heap.objs.size], _, _, H1, rfl, I2, turn_enumT a (s1.heap.objs.size + 1) s1.heap.objs.size, ⟨⟨.none, he⟩, hit, Nat.succ_ne_self _, Nat.ne_of_lt hla, Nat.ne_of_lt (Nat.lt_succ_of_lt hla)⟩, fun b hb => ?_, q⟩
  have hle : s1.heap.objs.size ≤ b := by
    rcases (show b = s1.heap.objs.size + 1 ∨ b = s1.heap.objs.size by simpa using hb) with z | z
    · rw [z]
      exact Nat.le_add_right _ _
    · rw [z]
      exact Nat.le_refl _
  exact I1.fpOk hle (I1.hok.fresh hle)
theorem walk_enumT {K : PySem.W.Frag} {a : Addr} {xs : List V} : Walk (IteT K a) xs.length (fun H => SqT K H a xs) (fun i H v H' => ∃ T x, v = .ref T ∧ H T = none ∧ H' = upd H T (.tup [.int (i : Nat), x]) ∧ xs[i]? = some x) :=
  ⟨fun i _ hi q => ⟨xs, xs[i], q, by simp [hi]⟩, fun _ q => ⟨xs, q, rfl⟩, fun _ _ _ _ _ q y => by
    obtain ⟨T, x, h1, h2, h3, h4⟩ := y
    exact ⟨T, x, h1, h2, h3, h4 xs q⟩⟩
section
variable {J : It} {n : Nat} {G : Hp → Prop} {Y : Nat → Hp → V → Hp → Prop}
/-- a dict comprehension over whatever walks: Pv by the turn and the heap (the new dict at D within) -/
theorem dc_it (w : Walk J n G Y) {g : TG} {tt : TT} {tk tv : TE} {vs : List Nat} {σ : L2.St} {H1 : Hp} {D : Addr} {Qd : Hp → Prop} (Pv : Nat → Hp → Prop) (h0 : Pv 0 (upd H1 D (.dK []))) (hG : ∀ i H, i ≤ n → Pv i H → G H)
    (hs : ∀ i x H H', i < n → Pv i H → Y i H x H' → g x (wipe σ vs) H' fun σ2 H2 => wipe σ2 vs = wipe σ vs ∧ tt σ2 H2 fun b H3 =>
      if b = true then tk σ2 H3 fun y H4 => tv σ2 H4 fun z H5 => ∃ kvs k, y = kV k ∧ H5 D = some (.dK kvs) ∧ kvs.length < sizeLine ∧ Pv (i + 1) (upd H5 D (.dK (putK kvs k z))) else Pv (i + 1) H3) (hd : ∀ H, Pv n H → Qd H) :
    ∃ W : Nat → Nat → Hp → Prop, (∃ m, W 0 m (upd H1 D (.dK []))) ∧ ∀ i m H, W i m H →
      (J.stop i H ∧ Qd H) ∨ (J.go i H ∧ ∃ Nx : Hp → Prop, (∀ H', Nx H' → ∃ m', m' < m ∧ W (i + 1) m' H') ∧ ∀ x H', J.yld i H x H' → g x (wipe σ vs) H' fun σ2 H2 => wipe σ2 vs = wipe σ vs ∧ tt σ2 H2 fun b H3 =>
        if b = true then tk σ2 H3 fun y H4 => tv σ2 H4 fun z H5 => ∃ kvs k, y = kV k ∧ H5 D = some (.dK kvs) ∧ kvs.length < sizeLine ∧ Nx (upd H5 D (.dK (putK kvs k z))) else Nx H3) := by
  refine ⟨fun i m H => m = n - i ∧ i ≤ n ∧ Pv i H, ⟨n, by simp, Nat.zero_le _, h0⟩, ?_⟩
  rintro i m H ⟨rfl, hi, p⟩
  have q := hG i H hi p
  by_cases hlt : i < n
  · refine .inr ⟨w.goes i H hlt q, Pv (i + 1), fun H' p' => ⟨n - (i + 1), by omega, rfl, hlt, p'⟩, fun x H' y => hs i x H H' hlt p (w.yields i H x H' hlt q y)⟩
  · have e : i = n := by omega
    subst e
    exact .inl ⟨w.stops H q, hd H p⟩
end
theorem inK_pe_fld {X : Cx} {K : PySem.W.Frag} {e : Expr} {ta : TE} {f : Str} {pos : Pos} (q : X.K = K) (he : PE X e ta) (hb : attributeBase e f X.env (eval e X.env) = eval e X.env) : PE X (.Attribute e f pos) (tFld K ta f) := q ▸ pe_fld he hb
end Kx
namespace Kx
open PySem PySem.Spec PyProof.Rows L2 SX LamX
/-- a method called by two names, the other way round -/
def selfSwapG {α : Type} (us ws : List α) : List α := match us, ws with | [s], [v, u] => [s, u, v] | _, _ => []
theorem kb_selfSwap {K : PySem.W.Frag} {x qual : Str} {st : Stmt} {f : Addr} {fd : FuncData} {a b c : Str} (F : Fun K x qual st f fd)
    (h : ∀ (kV doc pm : Value) (an : Option Addr) (cdv ct : Value) (s u v : Value), bindArgs (PySem.W.fnOf x qual (defArgs st) (defBody st) (defScope st) .none kV doc pm an cdv ct) ⟨[s], [(c, v), (b, u)]⟩ = pure [(a, s), (b, u), (c, v)]) :
    KBinds K fd [a, b, c] [c, b] selfSwapG selfSwapG := by
  obtain ⟨oc, od, kV, doc, pm, an, cdv, ct, osl, rfl, lk, hcd⟩ := F.ex
  refine ⟨fun s us ws X l => ?_, fun {vs us zs ws} r1 r2 => ?_⟩
  · match us, ws, l with
    | [s], [v, u], _ => exact .of_eq (h kV doc pm an cdv ct s u v)
    | [], _, l => cases l
    | [_], [], l => cases l
    | [_], [_], l => cases l
    | [_], _ :: _ :: _ :: _, l => cases l
    | _ :: _ :: _, _, l => cases l
  · cases r1 with
    | nil => exact .nil
    | cons h1 r1 =>
      cases r1 with
      | cons _ _ => exact .nil
      | nil =>
        cases r2 with
        | nil => exact .nil
        | cons h2 r2 =>
          cases r2 with
          | nil => exact .nil
          | cons h3 r2 =>
            cases r2 with
            | nil => exact .cons h1 (.cons h3 (.cons h2 .nil))
            | cons _ _ => exact .nil
theorem kbn_selfSwap {K : PySem.W.Frag} {x qual : Str} {st : Stmt} {f : Addr} {fd : FuncData} {a b c : Str} (F : Fun K x qual st f fd)
    (h : ∀ (kV doc pm : Value) (an : Option Addr) (cdv ct : Value) (s u v : Value), bindArgs (PySem.W.fnOf x qual (defArgs st) (defBody st) (defScope st) .none kV doc pm an cdv ct) ⟨[s], [(c, v), (b, u)]⟩ = pure [(a, s), (b, u), (c, v)]) :
    KBn K fd [a, b, c] 1 [c, b] selfSwapG selfSwapG := by
  have kb := kb_selfSwap F h
  refine ⟨fun s us ws X l1 l2 => kb.to s us ws X ?_, kb.rel⟩
  match us, ws, l1, l2 with
  | [_], [_, _], _, _ => rfl
end Kx
namespace Kx
open PySem PySem.Spec PyProof.Rows L2 SX LamX
/-! ### texts joined by blanks -/
theorem itemsA_app : ∀ (x acc r : List Nat), 32 ∉ x → itemsA acc (x ++ r) = itemsA (acc ++ x) r
  | [], acc, r, _ => by rw [List.append_nil, List.nil_append]
  | c :: x, acc, r, h => by
    have hc : c ≠ 32 := fun e => h (by rw [e]; exact List.mem_cons_self)
    show (if c = 32 then acc :: itemsA [] (x ++ r) else itemsA (acc ++ [c]) (x ++ r)) = _
    rw [if_neg hc, itemsA_app x (acc ++ [c]) r (fun m => h (List.mem_cons_of_mem _ m)), List.append_assoc]
    rfl
theorem itemsA_one {x acc : List Nat} (h : 32 ∉ x) : itemsA acc x = [acc ++ x] := by
  have := itemsA_app x acc [] h
  rw [List.append_nil] at this
  rw [this]
  rfl
theorem items_join : ∀ (its : List (List Nat)), its ≠ [] → (∀ it ∈ its, 32 ∉ it) → itemsA [] (TL.joinL [32] its) = its
  | [], h, _ => absurd rfl h
  | [x], _, h => by
    show itemsA [] x = [x]
    rw [itemsA_one (h x (List.mem_singleton.mpr rfl))]
    rfl
  | x :: y :: r, _, h => by
    show itemsA [] (x ++ (32 :: TL.joinL [32] (y :: r))) = _
    rw [itemsA_app x [] _ (h x List.mem_cons_self)]
    show (if (32 : Nat) = 32 then ([] ++ x) :: itemsA [] (TL.joinL [32] (y :: r)) else _) = _
    rw [if_pos rfl, items_join (y :: r) (List.cons_ne_nil _ _) (fun it m => h it (List.mem_cons_of_mem _ m))]
    rfl
theorem joinL_all {p : Nat → Bool} (h32 : p 32 = true) : ∀ (its : List (List Nat)), (∀ it ∈ its, it.all p = true) → (TL.joinL [32] its).all p = true
  | [], _ => rfl
  | [x], h => by
    show x.all p = true
    exact h x (List.mem_singleton.mpr rfl)
  | x :: y :: r, h => by
    show (x ++ (32 :: TL.joinL [32] (y :: r))).all p = true
    rw [List.all_append, List.all_cons, h32, joinL_all h32 (y :: r) (fun it m => h it (List.mem_cons_of_mem _ m)), h x List.mem_cons_self]
    rfl
theorem joinL_len {k : Nat} : ∀ (its : List (List Nat)), (∀ it ∈ its, it.length ≤ k) → (TL.joinL [32] its).length ≤ its.length * (k + 1)
  | [], _ => Nat.zero_le _
  | [x], h => by
    show x.length ≤ _
    have := h x (List.mem_singleton.mpr rfl)
    simp only [List.length_cons, List.length_nil]
    omega
  | x :: y :: r, h => by
    have h1 := joinL_len (y :: r) (fun it m => h it (List.mem_cons_of_mem _ m))
    have h2 := h x List.mem_cons_self
    show (x ++ (32 :: TL.joinL [32] (y :: r))).length ≤ _
    rw [List.length_append, List.length_cons]
    rw [List.length_cons (a := x), Nat.succ_mul]
    omega
/-- the length of a joined text -/
theorem joinL_sum : ∀ (its : List (List Nat)), its ≠ [] → (TL.joinL [32] its).length + 1 = (its.map fun it => it.length + 1).sum
  | [], h => absurd rfl h
  | [x], _ => by simp [TL.joinL]
  | x :: y :: r, _ => by
    have h1 := joinL_sum (y :: r) (List.cons_ne_nil _ _)
    show (x ++ (32 :: TL.joinL [32] (y :: r))).length + 1 = (x.length + 1) + ((y :: r).map fun it => it.length + 1).sum
    rw [List.length_append, List.length_cons, ← h1]
    omega
/-! ### slices of texts -/
theorem slice_S (l : List Nat) (lo hi : Option Int) : Txt.slice (S l) lo hi = S ((l.drop (HT.sIx l.length 0 lo)).take (HT.sIx l.length l.length hi - HT.sIx l.length 0 lo)) := by
  rw [← C8.cutS_slice]
  unfold cutS
  rw [S_len]
theorem slice_part {l : List Nat} {lo hi : Option Int} : ∃ m : List Nat, Txt.slice (S l) lo hi = S m ∧ m.length ≤ l.length ∧ ∀ c ∈ m, c ∈ l :=
  ⟨_, slice_S l lo hi, by rw [List.length_take, List.length_drop]; omega, fun c h => List.mem_of_mem_drop (List.mem_of_mem_take h)⟩
theorem slice_fromS (l : List Nat) (k : Nat) : Txt.slice (S l) (some (k : Int)) none = S (l.drop k) := by
  rw [slice_S, HT.sIx_none, HT.sIx_nat]
  by_cases h : k ≤ l.length
  · rw [Nat.min_eq_left h, List.take_of_length_le (by rw [List.length_drop]; omega)]
  · rw [Nat.min_eq_right (by omega), List.drop_of_length_le (Nat.le_refl _), List.drop_of_length_le (by omega), List.take_nil]
theorem slice_toS (l : List Nat) (k : Nat) : Txt.slice (S l) none (some (k : Int)) = S (l.take k) := by
  rw [slice_S, HT.sIx_none, HT.sIx_nat, List.drop_zero, Nat.sub_zero]
  by_cases h : k ≤ l.length
  · rw [Nat.min_eq_left h]
  · rw [Nat.min_eq_right (by omega), List.take_of_length_le (Nat.le_refl _), List.take_of_length_le (by omega)]
theorem sum_S_le {k : Nat} : ∀ its : List (List Nat), (∀ it ∈ its, it.length ≤ k) → ((its.map S).map (·.length)).sum ≤ its.length * k
  | [], _ => Nat.zero_le _
  | x :: r, h => by
    have h1 := sum_S_le r (fun it m => h it (List.mem_cons_of_mem _ m))
    have h2 := h x List.mem_cons_self
    have h3 : (S x).length = x.length := S_len x
    show (S x).length + ((r.map S).map (·.length)).sum ≤ (r.length + 1) * k
    rw [h3, Nat.succ_mul]
    omega
theorem inK_call_list_of {X : Cx} {K : PySem.W.Frag} (e : X.K = K) : CallR X (.type "list") (fun xs H Q => ∃ p ys, xs = [.ref p] ∧ (SqL K H p ys ∨ SqT K H p ys) ∧ ∀ l, H l = none → Q (.ref l) (upd H l (.lst ys))) := e ▸ call_list_of
end Kx
/-! ### replace of one written text, once -/
namespace Kx
open PySem PySem.Spec PyProof.Rows L2 SX LamX PySem.Builtin PySem.Builtin.Str
theorem gives_str_replace_n (x y z : Str) (t u v w : Tok) (n : Nat) (hn : n < 1000)
    (hf : ((occurrences x y 0 x.length n).isEmpty || (y.length == 0 && z.length == 0)) = false →
      (u == 0 || v == 0) = false ∧ (u == v) = false ∧ (y == z) = false ∧ tooLong (x.length + (occurrences x y 0 x.length n).length * z.length) = false) :
    Gives («str.replace» ⟨[.str x t, .str y u, .str z v, .int n w], []⟩) (if ((occurrences x y 0 x.length n).isEmpty || (y.length == 0 && z.length == 0)) = true then .val (.str x t) else .str (glued z (partsBetween x (occurrences x y 0 x.length n) y.length))) := by
  have key : «str.replace» ⟨[.str x t, .str y u, .str z v, .int n w], []⟩ = (do
      let limit ← countLimit "str.replace" (some (.int n w)) (x.length + 1)
      if ((occurrences x y 0 x.length limit).isEmpty || (y.length == 0 && z.length == 0)) = true then (do rule "str.replace.nothing"; ret (.str x t)) else
          (do let same ← isSame (.str y u) (.str z v)
              if same = true then (do rule "str.replace.old-is-new"; ret (.str x t)) else
              if tooLong (x.length + (occurrences x y 0 x.length limit).length * z.length) = true then unsupported "str.replace:memory" else
              retStr (glued z (partsBetween x (occurrences x y 0 x.length limit) y.length)))) := rfl
  have cl : countLimit "str.replace" (some (.int n w)) (x.length + 1) = pure n := by
    rw [countLimit_int _ _ _ _ (by rw [decide_eq_false (show ¬ ((n : Int) < -(2 ^ 63 : Int)) by omega), decide_eq_false (show ¬ ((n : Int) ≥ 2 ^ 63) by omega)]; rfl), if_neg (by omega)]
    rfl
  rw [key, cl]
  show Gives (if ((occurrences x y 0 x.length n).isEmpty || (y.length == 0 && z.length == 0)) = true then (do rule "str.replace.nothing"; ret (.str x t)) else
          (do let same ← isSame (.str y u) (.str z v)
              if same = true then (do rule "str.replace.old-is-new"; ret (.str x t)) else
              if tooLong (x.length + (occurrences x y 0 x.length n).length * z.length) = true then unsupported "str.replace:memory" else
              retStr (glued z (partsBetween x (occurrences x y 0 x.length n) y.length)))) _
  cases hc : ((occurrences x y 0 x.length n).isEmpty || (y.length == 0 && z.length == 0))
  · obtain ⟨h0, huv, hyz, hl⟩ := hf hc
    rw [isSame_str_other y z u v h0 huv hyz, hl]
    exact .of_eq rfl
  · exact .rule (.of_eq rfl)
/-- what is left of x when the first y is gone, of one sign -/
def repOne (x y : Str) : Str := if (occurrences x y 0 x.length 1).isEmpty = true then x else glued ⟨#[]⟩ (partsBetween x (occurrences x y 0 x.length 1) y.length)
theorem repOne_eq (x y : Str) : repOne x y = x ∨ ∃ i, repOne x y = ⟨x.cps.extract 0 i ++ #[] ++ x.cps.extract (i + y.length) x.length⟩ := by
  unfold repOne
  cases hc : (occurrences x y 0 x.length 1) with
  | nil => exact .inl rfl
  | cons i r =>
    have h1 := StrLaws.occ_length_le x y 0 x.length 1
    rw [hc] at h1
    cases r with
    | nil => exact .inr ⟨i, rfl⟩
    | cons j t => simp at h1
theorem repOne_S (l : List Nat) (y : Str) : ∃ m : List Nat, repOne (S l) y = S m ∧ m.length ≤ l.length + l.length ∧ ∀ c ∈ m, c ∈ l := by
  rcases repOne_eq (S l) y with h | ⟨i, h⟩
  · exact ⟨l, h, by omega, fun c m => m⟩
  · refine ⟨((S l).cps.extract 0 i ++ #[] ++ (S l).cps.extract (i + y.length) (S l).length).toList, ?_, ?_, fun c m => ?_⟩
    · rw [h]
    · simp [S]
      omega
    · simp [S] at m
      rcases m with m | m
      · exact List.mem_of_mem_take m
      · exact List.mem_of_mem_drop (List.mem_of_mem_take m)
theorem SC_replace1 {prog : Program} {w : World} {A : Around} {E : Value → Shared → Prop} {s : Shared} {x y : Str} {t u v w1 : Tok} {Q : Value → Shared → Prop} (hu : u ≠ 0) (hv : v ≠ 0) (huv : u ≠ v) (hyz : (y == (⟨#[]⟩ : Str)) = false) (hy : (y.length == 0) = false) (hb : x.length ≤ 1000000)
    (hq : ∀ t' k, Q (.str (repOne x y) t') { s with toks := k }) : wpAny (model prog w) A (call (.builtin "str.replace") [.str x t, .str y u, .str ⟨#[]⟩ v, .int 1 w1]) Q E s := by
  have hl : tooLong (x.length + (occurrences x y 0 x.length 1).length * Str.length ⟨#[]⟩) = false := by
    show decide (x.length + (occurrences x y 0 x.length 1).length * 0 > sizeLine) = false
    rw [Nat.mul_zero]
    exact decide_eq_false (by show ¬ (sizeLine < x.length + 0); have : (1000000 : Nat) ≤ sizeLine := by decide
                              omega)
  refine call_gives F.slot_str_replace (typeIs_str _ _ _) F.entry_str_replace (F.args_str_replace_4 _ _ _ _)
    (gives_str_replace_n x y ⟨#[]⟩ t u v w1 1 (by decide) fun _ => ⟨by simp [hu, hv], by simp [huv], hyz, hl⟩) ?_
  have hq' := hq
  unfold repOne at hq'
  cases hc : (occurrences x y 0 x.length 1).isEmpty
  · rw [hc] at hq'
    rw [hy]
    simp only [Bool.false_eq_true, if_false, Bool.false_and, Bool.or_false] at hq' ⊢
    have hr : (glued ⟨#[]⟩ (partsBetween x (occurrences x y 0 x.length 1) y.length)).length ≤ x.length + x.length := by
      have h1 := repOne_eq x y
      unfold repOne at h1
      rw [hc] at h1
      simp only [Bool.false_eq_true, if_false] at h1
      rcases h1 with h1 | ⟨i, h1⟩
      · rw [h1]
        omega
      · rw [h1]
        show (x.cps.extract 0 i ++ #[] ++ x.cps.extract (i + y.length) x.length).size ≤ _
        have hx : x.length = x.cps.size := rfl
        simp [hx]
        omega
    exact ⟨Nat.le_trans hr (by have : (2000000 : Nat) ≤ sizeLine := by decide
                               omega), hq' _ _⟩
  · rw [hc] at hq'
    simp only [if_true, Bool.true_or] at hq' ⊢
    exact hq' t s.toks
end Kx
namespace Kx
open PySem PySem.Spec PyProof.Rows L2 CwR
def tRep1 (to : TE) (y : Str) : TE := fun σ H Q => to σ H fun v H1 => ∃ x, v = .str x ∧ x.length ≤ 1000000 ∧ Q (.str (repOne x y)) H1
section
variable {X : Cx} {o : Expr} {to : TE} {y z : Str} {j k l : Nat} {c0 c1 c2 apos pos : Pos}
theorem pet_repl1 (ho : PE X o to) (hz : z = ⟨#[]⟩) (hyz : (y == (⟨#[]⟩ : Str)) = false) (hy : (y.length == 0) = false)
    (hst : starEach [.Constant (.str y) j c0, .Constant (.str z) k c1, .Constant (.int 1) l c2] X.env = [(false, eval (.Constant (.str y) j c0) X.env), (false, eval (.Constant (.str z) k c1) X.env), (false, eval (.Constant (.int 1) l c2) X.env)])
    (hbase : attributeBase o "replace" X.env (eval o X.env) = eval o X.env) (hline : (apos.endLine == pos.line) = true) :
    PET X (.Call (.Attribute o "replace" apos) [.Constant (.str y) j c0, .Constant (.str z) k c1, .Constant (.int 1) l c2] [] pos) (tRep1 to y) := by
  intro pins s σ H Q h0 I h
  refine PySem.wpAny_Call_method_lateS hbase (by rw [hst]; rfl) hline ?_
  rw [hst]
  refine (wpAny_mono (PySem.wpAny_toks (ho.run pins s σ H _ I h)) (fun v s1 q => ?_) fun _ _ z => z.2)
  obtain ⟨hk, v', H1, I1, r1, x, e1, hb, q⟩ := q
  subst e1
  obtain ⟨tx, e2⟩ := r1
  subst e2
  refine ⟨"str", _, PySem.F.plainAttrs_str, PySem.F.slot_str_replace, PySem.F.type_str_replace, typeIs_str _ _ _, (fun _ e => nomatch e), Calls.callWith_builtin rfl (Calls.evalArgs_plain (Calls.spliced_cons ?_))⟩
  refine Calls.Constant_str (k := j) (pos := c0) (Calls.spliced_cons (Calls.Constant_str (k := k) (pos := c1) (Calls.spliced_cons (PySem.wpAny_Constant_int (i := 1) (k := l) (pos := c2) (Calls.spliced_nil ?_)))))
  subst hz
  exact SC_replace1 (by show s1.toks ≠ 0; omega) (by show s1.toks + 1 ≠ 0; omega) (by show s1.toks ≠ s1.toks + 1; omega) hyz hy hb fun t' k => ⟨.str (repOne x y), H1, I1.tok k, ⟨t', rfl⟩, q⟩
end
theorem inK_ix_seq {X : Cx} {K : PySem.W.Frag} (e : X.K = K) : IxR X (rIx K) := e ▸ ix_seq
end Kx
namespace Kx
open PySem PySem.Spec PyProof.Rows L2 SX LamX
section
variable {X : Cx}
/-- repr of a text -/
def rReprS : List V → Hp → VK → Prop := fun xs H Q => ∃ (x : Str), xs = [.str x] ∧ (PyData.str x).shown.length ≤ sizeLine ∧ Q (.str (PyData.str x).shown) H
theorem call_reprS : CallR X (.builtin "repr") rReprS := by
  intro pins s σ H xs us Q I r h
  obtain ⟨x, rfl, hl, q⟩ := h
  obtain ⟨u, rfl, t, rfl⟩ := vals1 r
  exact PySem.P.repr_of_str (x := x) ⟨.str (PyData.str x).shown, H, I.tok _, ⟨_, rfl⟩, q⟩ hl
end
/-- repr(x) != repr(y), of one and the same text -/
theorem nerepr_s {σ : L2.St} {H : Hp} {ta tb : TE} (l : List Nat) (hl : cdC l) (hm : l.length ≤ 1048576) {Q : Bool → Hp → Prop}
    (ha : ∀ Q : VK, (∀ H', Same H H' → Q (.str (S l)) H') → ta σ H Q)
    (hb : ∀ H0, Same H H0 → ∀ Q : VK, (∀ H', Same H0 H' → Q (.str (S l)) H') → tb σ H0 Q)
    (h : ∀ H', Same H H' → Q false H') : tTest (tOp rNe (tCB rReprS (tCons ta tNil)) (tCB rReprS (tCons tb tNil))) σ H Q := by
  have sz := (sh_str (x := S l) rfl hl).len hm
  refine go_test (go_op (go_cb (go_cons (ha _ fun H1 e1 => go_nil ⟨S l, rfl, sz, go_cb (go_cons (hb H1 e1 _ fun H2 e2 => go_nil ⟨S l, rfl, sz, rfl, false, ?_, h H2 (e1.trans e2)⟩))⟩))))
  rw [ne_self]
def rev3G {α : Type} (us ws : List α) : List α := match us, ws with | [], [c, b, a] => [a, b, c] | _, _ => []
theorem kb_rev3 {K : PySem.W.Frag} {x qual : Str} {st : Stmt} {f : Addr} {fd : FuncData} {a b c : Str} (F : Fun K x qual st f fd)
    (h : ∀ (kV doc pm : Value) (an : Option Addr) (cdv ct : Value) (u v w : Value), bindArgs (PySem.W.fnOf x qual (defArgs st) (defBody st) (defScope st) .none kV doc pm an cdv ct) ⟨[], [(c, w), (b, v), (a, u)]⟩ = pure [(a, u), (b, v), (c, w)]) :
    KBinds K fd [a, b, c] [c, b, a] rev3G rev3G := by
  obtain ⟨oc, od, kV, doc, pm, an, cdv, ct, osl, rfl, lk, hcd⟩ := F.ex
  refine ⟨fun s us ws X l => ?_, fun {vs us zs ws} r1 r2 => ?_⟩
  · match us, ws, l with
    | [], [w, v, u], _ => exact .of_eq (h kV doc pm an cdv ct u v w)
    | [], [], l => cases l
    | [], [_], l => cases l
    | [], [_, _], l => cases l
    | [], _ :: _ :: _ :: _ :: _, l => cases l
    | _ :: _, _, l => cases l
  · cases r1 with
    | cons _ _ => exact .nil
    | nil =>
      cases r2 with
      | nil => exact .nil
      | cons h1 r2 =>
        cases r2 with
        | nil => exact .nil
        | cons h2 r2 =>
          cases r2 with
          | nil => exact .nil
          | cons h3 r2 =>
            cases r2 with
            | nil => exact .cons h3 (.cons h2 (.cons h1 .nil))
            | cons _ _ => exact .nil
end Kx
namespace Kx
open PySem PySem.Spec PyProof.Rows L2 SX LamX
/-! zip of a list with a tuple -/
def ItzM (K : PySem.W.Frag) (a b : Addr) : It where
  go i H := ∃ (xs ys : List V) (x y : V), SqL K H a xs ∧ SqT K H b ys ∧ xs[i]? = some x ∧ ys[i]? = some y
  yld i H v H' := ∃ T x y, v = .ref T ∧ H T = none ∧ H' = upd H T (.tup [x, y]) ∧ (∀ xs, SqL K H a xs → xs[i]? = some x) ∧ ∀ ys, SqT K H b ys → ys[i]? = some y
  stop i H := ∃ xs ys : List V, SqL K H a xs ∧ SqT K H b ys ∧ i = min xs.length ys.length
structure Aps (z TI TO i1 i2 a b : Addr) : Prop where
  s : ZipSep2 z TI TO i1 i2 [i1, a] [i2, b]
  a1 : a ≠ i1
  b2 : b ≠ i2
theorem aps_new {n a b : Nat} (ha : a < n) (hb : b < n) : Aps (n + 4) (n + 2) (n + 3) n (n + 1) a b := by
  have ne : ∀ {x y : Nat}, (x < y ∨ y < x) → (show Addr from x) ≠ y := fun {x y} h e => by
    have e : x = y := e
    omega
  have no : ∀ {x p q : Nat}, (x < p ∨ p < x) → (x < q ∨ q < x) → (show Addr from x) ∉ ([p, q] : List Addr) := fun h1 h2 m => by
    simp only [List.mem_cons, List.not_mem_nil, or_false] at m
    rcases m with e | e
    · exact ne h1 e
    · exact ne h2 e
  exact ⟨⟨ne (by omega), ne (by omega), ne (by omega), ne (by omega), List.mem_cons_self, no (by omega) (by omega), no (by omega) (by omega), ne (by omega), List.mem_cons_self, no (by omega) (by omega), no (by omega) (by omega), no (by omega) (by omega), no (by omega) (by omega)⟩, ne (by omega), ne (by omega)⟩
theorem turn_zipM {P : Program} {w : World} {K : PySem.W.Frag} {elts : List Expr} {kk : Nat} {tpos : Pos} {a b z TI TO i1 i2 : Addr} (D : Aps z TI TO i1 i2 a b) :
    Turn P w K (.Tuple elts kk tpos) (ItzM K a b) [z, TI, TO, i1, i2] z (fun i h => IsZip h z TI TO .none ∧ IsTupOf2 h TI (.ref i1) (.ref i2) ∧ (∃ x y, IsTupOf2 h TO x y) ∧ h.IsListIter i1 a i ∧ h.IsTupleIter i2 b i) where
  mem := List.mem_cons_self
  obj := fun i h ⟨hz, hI, ⟨x, y, hO⟩, ⟨o1, e1, _, d1⟩, ⟨o2, e2, _, d2⟩⟩ c hc => by
    simp only [List.mem_cons, List.not_mem_nil, or_false] at hc
    rcases hc with rfl | rfl | rfl | rfl | rfl
    · exact ⟨_, hz, fun v q => by cases q⟩
    · exact ⟨_, hI, fun v q => by cases q⟩
    · exact ⟨_, hO, fun v q => by cases q⟩
    · exact ⟨o1, e1, fun v q => by rw [d1] at q; cases q⟩
    · exact ⟨o2, e2, fun v q => by rw [d2] at q; cases q⟩
  keep := fun i h h' ⟨hz, hI, ⟨x, y, hO⟩, h1, h2⟩ k =>
    ⟨k z (by simp) _ hz, k TI (by simp) _ hI, ⟨x, y, k TO (by simp) _ hO⟩, h1.at fun o => k i1 (by simp) o, h2.at fun o => k i2 (by simp) o⟩
  item := by
    intro X hP hw hK hc i pins s σ H E I hf st hg
    subst hP hw hK
    obtain ⟨hz, hI, ⟨x0, y0, hO⟩, h1, h2⟩ := st
    obtain ⟨xs, ys, x, y, hqx, hqy, hx, hy⟩ := hg
    obtain ⟨us, rv, pl, _⟩ := I.list hqx
    obtain ⟨vs, rw_, pt, _⟩ := I.tuple hqy
    obtain ⟨u, hu, ru⟩ := rv.get hx
    obtain ⟨v, hv, rv'⟩ := rw_.get hy
    have lz : z < s.heap.objs.size := Heap.lt_size hz
    have hd : X.A.in1.handled = none := I.ok.hd hc
    have iu := (List.getElem?_eq_some_iff.mp hu).1
    have iv := (List.getElem?_eq_some_iff.mp hv).1
    refine wpAny_pyNext_zipD2_item D.s (Draws.list hd i1 a D.a1 us.toArray) (Draws.tuple hd i2 b D.b2 vs.toArray) hz hI hO ⟨h1, pl.isList⟩ ⟨h2, pt⟩ (by simpa using iu) (by simpa using iv) fun x1 x2 g tk e1 e2 g1 g2 g3 g4 g5 g6 gk => ?_
    have hu' : us.toArray[i]? = some u := by simpa using hu
    have hv' : vs.toArray[i]? = some v := by simpa using hv
    rw [hu'] at e1
    rw [hv'] at e2
    cases e1
    cases e2
    refine ⟨_, rfl, wpAny_letOwnedTupleGo_zip (s := { s with heap := g, toks := tk }) g1 fun k k1 sb => ?_⟩
    have kT : k.get? s.heap.objs.size = some { cls := .type "tuple", data := .seq #[u, v] } := (sb.2 _ (Nat.ne_of_gt lz)).trans g5
    have lt : ∀ c ∈ [z, TI, TO, i1, i2], c < s.heap.objs.size := fun c hc => by
      simp only [List.mem_cons, List.not_mem_nil, or_false] at hc
      rcases hc with rfl | rfl | rfl | rfl | rfl
      · exact lz
      · exact Heap.lt_size hI
      · exact Heap.lt_size hO
      · obtain ⟨_, e, _⟩ := h1
        exact Heap.lt_size e
      · obtain ⟨_, e, _⟩ := h2
        exact Heap.lt_size e
    have J : Inv X pins σ (upd H s.heap.objs.size (.tup [x, y])) { s with heap := k, toks := tk } :=
      I.turnedNew (t' := tk) (ch := [z, TI, TO, i1, i2]) (fun c o hb q => by
        simp only [List.mem_cons, List.not_mem_nil, or_false, not_or] at hb
        exact (sb.2 c hb.1).trans (gk c o hb.1 hb.2.2.1 hb.2.2.2.1 hb.2.2.2.2 q)) hf (Nat.le_refl _) ⟨by show 2 ≤ sizeLine; decide, [u, v], .cons ru (.cons rv' .nil), ⟨_, kT, rfl, _, rfl⟩⟩
    refine ⟨.ref s.heap.objs.size, _, J, rfl, ⟨_, x, y, rfl, I.hok.fresh (Nat.le_refl _), rfl, fun l hl => by rw [I.list_inj hl hqx]; exact hx, fun l hl => by rw [I.tuple_inj hl hqy]; exact hy⟩,
      ⟨k1, (sb.2 _ D.s.TIz).trans (gk _ _ D.s.TIz D.s.TITO D.s.TIi1 D.s.TIi2 hI), ⟨u, v, (sb.2 _ D.s.TOz).trans g2⟩, g3.1.at fun o q => (sb.2 _ D.s.zi1.symm).trans q, g4.1.at fun o q => (sb.2 _ D.s.zi2.symm).trans q⟩, fun c hc => ?_⟩
    rw [upd_ne (Nat.ne_of_lt (lt c hc))]
    exact (hf c hc).1
  done := by
    intro X hP hw hK hc i pins s σ H E I hf st hg
    subst hP hw hK
    obtain ⟨hz, hI, ⟨x0, y0, hO⟩, h1, h2⟩ := st
    obtain ⟨xs, ys, hqx, hqy, hend⟩ := hg
    obtain ⟨us, rv, pl, _⟩ := I.list hqx
    obtain ⟨vs, rw_, pt, _⟩ := I.tuple hqy
    have l1 := rv.length
    have l2 := rw_.length
    have hd : X.A.in1.handled = none := I.ok.hd hc
    exact wpAny_pyNext_zipD2_end D.s (Draws.list hd i1 a D.a1 us.toArray) (Draws.tuple hd i2 b D.b2 vs.toArray) hz hI hO ⟨h1, pl.isList⟩ ⟨h2, pt⟩ (by simp; omega) (by simp; omega) (by simp; omega) fun g tk gk =>
      ⟨rfl, I.turnedL (t' := tk) (ch := [z, TI, TO, i1, i2]) (fun c o hb q => by
        simp only [List.mem_cons, List.not_mem_nil, or_false, not_or] at hb
        exact gk c o hb.1 hb.2.2.1 hb.2.2.2.1 hb.2.2.2.2 q) hf⟩
  self := fun A i s Q E st h => wpAny_pyIter_zip st.1 h
/-- zip(LIST, LIST OR TUPLE) -/
def iZipM (K : PySem.W.Frag) (ta : TA) : TI := fun σ H R => ta σ H fun vs H1 => ∃ a b xs ys, vs = [.ref a, .ref b] ∧ SqL K H1 a xs ∧ ((SqL K H1 b ys ∧ R (Itz K a b) H1) ∨ (SqT K H1 b ys ∧ R (ItzM K a b) H1))
theorem pi_zipM {X : Cx} {e e2 : Expr} {ta : TA} {p pos tpos : Pos} {elts : List Expr} {kk : Nat} (hg : Gl X "zip") (hm : X.mg "zip" = none) (ha : PA X [e, e2] ta)
    (st : starEach [e, e2] X.env = (false, eval e X.env) :: starEach [e2] X.env := by rfl) (pl : (backTo pos (starEach [e2] X.env)).any (·.1) = false := by rfl) :
    PI X (.Tuple elts kk tpos) (.Call (.Name "zip" p) [e, e2] [] pos) (iZipM X.K ta) := by
  constructor
  intro pins s σ H R I h
  refine Call_ (ld_blt I hg hm PyProof.Rows.boot_zip (PyProof.Rows.callWith_type1 (thn (ha.run pos pins s σ H _ I h) fun us s1 hq => ?_) st pl))
  obtain ⟨vs, H1, I1, r1, a, b, xs, ys, rfl, hx, q⟩ := hq
  obtain ⟨ua, ub, rfl, ra, rb⟩ : ∃ x y, us = [x, y] ∧ RelV (.ref a) x ∧ RelV (.ref b) y := by
    match us, r1 with
    | [x, y], .cons h1 (.cons h2 .nil) => exact ⟨x, y, rfl, h1, h2⟩
  cases ra
  cases rb
  have up : ∀ c, s1.heap.objs.size ≤ c → FpOk X pins H1 c := fun c l => I1.fpOk l (I1.hok.fresh l)
  have ups : ∀ c ∈ [s1.heap.objs.size + 4, s1.heap.objs.size + 2, s1.heap.objs.size + 3, s1.heap.objs.size, s1.heap.objs.size + 1], FpOk X pins H1 c := fun c m => up c (by
    simp only [List.mem_cons, List.not_mem_nil, or_false] at m
    rcases m with e | e | e | e | e <;> rw [e] <;> first | exact Nat.le_refl _ | exact Nat.le_add_right _ _)
  obtain ⟨us, rv, pa, _⟩ := I1.list hx
  rcases q with ⟨hy, q⟩ | ⟨hy, q⟩
  · obtain ⟨vs, rw_, pb, _⟩ := I1.list hy
    refine call_zip_2 pa.isList pb.isList fun g g1 g2 g3 g4 g5 _ gk => wpAny_pyIter_zip g1 ?_
    exact ⟨_, [s1.heap.objs.size + 4, s1.heap.objs.size + 2, s1.heap.objs.size + 3, s1.heap.objs.size, s1.heap.objs.size + 1], _, _, H1, rfl, I1.kept (t' := s1.toks) gk, turn_zip (PySem.W.ktu_apart _ a b pa.lt pb.lt), ⟨g1, g2, ⟨_, _, g3⟩, g4, g5⟩, ups, q⟩
  · obtain ⟨vs, rw_, pb, _⟩ := I1.tuple hy
    have lb : b < s1.heap.objs.size := by
      obtain ⟨_, e, _⟩ := id pb
      exact Heap.lt_size e
    refine zip_begins2 (begins_list a us.toArray) (begins_tuple b vs.toArray) pa.isList pb fun g g1 g2 g3 g4 g5 _ gk => wpAny_pyIter_zip g1 ?_
    exact ⟨_, [s1.heap.objs.size + 4, s1.heap.objs.size + 2, s1.heap.objs.size + 3, s1.heap.objs.size, s1.heap.objs.size + 1], _, _, H1, rfl, I1.kept (t' := s1.toks) gk, turn_zipM (aps_new pa.lt lb), ⟨g1, g2, ⟨_, _, g3⟩, ⟨_, g4, rfl, rfl⟩, ⟨_, g5, rfl, rfl⟩⟩, ups, q⟩
theorem walk_zipM {K : PySem.W.Frag} {a b : Addr} {xs ys : List V} {n : Nat} (hn : n = min xs.length ys.length) : Walk (ItzM K a b) n (fun H => SqL K H a xs ∧ SqT K H b ys) (YPair (fun i => xs[i]?) (fun i => ys[i]?)) where
  goes i H hi q := ⟨xs, ys, xs[i]'(by omega), ys[i]'(by omega), q.1, q.2, List.getElem?_eq_getElem (by omega), List.getElem?_eq_getElem (by omega)⟩
  stops H q := ⟨xs, ys, q.1, q.2, hn⟩
  yields i H v H' _ q y := by
    obtain ⟨T, x, z, h1, h2, h3, h4, h5⟩ := y
    exact ⟨T, x, z, h1, h2, h3, h4 xs q.1, h5 ys q.2⟩
section
variable {K : PySem.W.Frag} {a b : Addr} {xs ys : List V} {g : TG} {tt : TT} {te : TE} {vs : List Nat} {σ : L2.St} {H : Hp} {k l : Nat} {Q : VK}
/-- [e for x, y in zip(LIST NAME, SEQUENCE NAME)]: by the turn and the heap -/
theorem lc_zipM (hi : σ[k]? = some (some (.ref a))) (hj : σ[l]? = some (some (.ref b))) (hq : SqL K H a xs) (hp : SqQ K H b ys)
    (Pv : Addr → Nat → Hp → Prop) (h0 : ∀ D, H D = none → Pv D 0 (upd H D (.lst []))) (hG : ∀ D i H', Pv D i H' → Same H H')
    (hs : ∀ D i x y t H', H D = none → xs[i]? = some x → ys[i]? = some y → Pv D i H' → H' t = none → g (.ref t) (wipe σ vs) (upd H' t (.tup [x, y])) fun σ2 H2 => wipe σ2 vs = wipe σ vs ∧ tt σ2 H2 fun b H3 => if b = true then te σ2 H3 fun y H4 => ∃ acc, H4 D = some (.lst acc) ∧ acc.length < sizeLine ∧ Pv D (i + 1) (upd H4 D (.lst (acc ++ [y]))) else Pv D (i + 1) H3)
    (hd : ∀ D H', H D = none → Pv D (min xs.length ys.length) H' → Q (.ref D) H') : tLc (iZipM K (tCons (tVar k) (tCons (tVar l) tNil))) g tt te vs σ H Q := by
  rcases hp with hp | hp
  · exact ⟨_, hi, _, hj, a, b, xs, ys, rfl, hq, .inl ⟨hp, fun D nD => lc_it (walk_zip rfl) (Pv D) (h0 D nD) (fun i H' _ p => ⟨(hG D i H' p).seq hq, (hG D i H' p).seq hp⟩) (fun i x Hc Hx hi p y => by
      obtain ⟨t, x', y', rfl, nt, rfl, e1, e2⟩ := y
      exact hs D i x' y' t _ nD e1 e2 p nt) (fun H' p => hd D H' nD p)⟩⟩
  · exact ⟨_, hi, _, hj, a, b, xs, ys, rfl, hq, .inr ⟨hp, fun D nD => lc_it (walk_zipM rfl) (Pv D) (h0 D nD) (fun i H' _ p => ⟨(hG D i H' p).seq hq, Same.t (hG D i H' p) hp⟩) (fun i x Hc Hx hi p y => by
      obtain ⟨t, x', y', rfl, nt, rfl, e1, e2⟩ := y
      exact hs D i x' y' t _ nD e1 e2 p nt) (fun H' p => hd D H' nD p)⟩⟩
end
end Kx
namespace Kx
open PySem PySem.Spec PyProof.Rows L2 SX LamX
/-! ### a call of a name that holds one of some functions -/
/-- f, called with what sp wishes, gives what is promised -/
def RunF (X : Cx) (f : Addr) (sp : Sp) (E : XK) : Prop := PySem.W.keepIn X.K (.ref f) = true ∧ ∀ (pins : List (Addr × Obj)) (σ : L2.St) (H : Hp) (s : Shared) (Q : VK) (us : List Value) (vs : List V),
  Inv X pins σ H s → Vals vs us → sp vs H Q E → wpAny (model X.prog X.w) X.A (call (.ref f) us) (EP X pins σ Q) X.xe s
section
variable {X : Cx} {CX : CXT} {k i : Nat} {f : Addr} {fd : FuncData} {ps : List Str} {sp sp2 : Sp} {E : XK} {x : Str} {p pos : Pos} {e : Expr} {es : List Expr} {t : TA}
theorem RunF.of (F : FnOk X.prog X.w X.K X.mg X.base CX k f fd ps sp) (hr : Room k X.A) (hk : PySem.W.keepIn X.K (.ref f) = true) (hb : Binds X.K fd ps []) (hx : Passes CX X E) : RunF X f sp E :=
  ⟨hk, fun pins σ H s Q us vs I r h => run_fn F hr hb .nil hx I r (by rw [List.append_nil]; exact h)⟩
theorem RunF.mono (R : RunF X f sp E) (h : ∀ vs H Q, sp2 vs H Q E → sp vs H Q E) : RunF X f sp2 E := ⟨R.1, fun pins σ H s Q us vs I r q => R.2 pins σ H s Q us vs I r (h vs H Q q)⟩
theorem pe_callV {fs : List Addr} (hN : X.N[i]? = some x) (hv : Vis X.env.scope x) (hF : ∀ f ∈ fs, RunF X f sp E) (ha : PA X (e :: es) t) (hd : (x == ("__debug__" : Str)) = false := by decide) (hcd : (x == ("__classdict__" : Str)) = false := by decide)
    (he : starEach (e :: es) X.env = (false, eval e X.env) :: starEach es X.env := by rfl) (hpl : (backTo pos (starEach es X.env)).any (·.1) = false := by rfl) :
    PE X (.Call (.Name x p) (e :: es) [] pos) (fun σ H Q => ∃ f, f ∈ fs ∧ σ[i]? = some (some (.ref f)) ∧ t σ H fun vs H1 => sp vs H1 Q E) := by
  refine ⟨fun pins s σ H Q I h => ?_⟩
  obtain ⟨f, hf, hs, hq⟩ := h
  refine wpAny_Call_Name_kw (thn ((pe_var (pos := p) (i := i) hN hv hd hcd).run pins s σ H (fun v H1 => v = .ref f ∧ H1 = H) I ⟨.ref f, hs, rfl, rfl⟩) fun u s1 hh => ?_)
  obtain ⟨v, H1, I1, r1, rfl, rfl⟩ := hh
  obtain rfl : u = Value.ref f := r1
  refine PySem.W.callWith_K (h₀ := X.base) I1.ok.mod.kin (hF f hf).1 (thn (ha.run pos pins s1 σ H1 _ I1 hq) fun us s2 ⟨vs, H2, I2, r, q⟩ => ⟨I2.kIn, ?_⟩) he hpl
  exact (hF f hf).2 pins σ H2 s2 Q us vs I2 r q
end
end Kx
namespace Kx
open PySem PySem.Spec PyProof.Rows L2 SX LamX
/-! ### x[::2], a tuple -/
def evens {α : Type} : List α → List α
  | [] => []
  | [a] => [a]
  | a :: _ :: r => a :: evens r
theorem evens_len {α : Type} : ∀ xs : List α, (evens xs).length = (xs.length + 1) / 2
  | [] => by simp [evens]
  | [a] => by simp [evens]
  | a :: b :: r => by
    show (evens r).length + 1 = (r.length + 1 + 1 + 1) / 2
    rw [evens_len r]
    omega
theorem evens_pick {α : Type} : ∀ xs : List α, (List.range ((xs.length + 1) / 2)).filterMap (fun m => xs[2 * m]?) = evens xs
  | [] => by simp [evens]
  | [a] => by simp [evens, List.range_succ]
  | a :: b :: r => by
    have ih := evens_pick r
    have e : ((a :: b :: r).length + 1) / 2 = (r.length + 1) / 2 + 1 := by
      simp only [List.length_cons]
      omega
    rw [e, List.range_succ_eq_map, List.filterMap_cons, List.filterMap_map]
    show a :: List.filterMap ((fun m => (a :: b :: r)[2 * m]?) ∘ Nat.succ) (List.range ((r.length + 1) / 2)) = a :: evens r
    rw [← ih]
    congr 1
theorem adjust_two (n : Nat) : Builtin.Slice.sliceAdjust none none 2 (n : Int) = (0, (n : Int)) := rfl
theorem places_two (n : Nat) : Builtin.Slice.slicePlaces (0 : Int) (n : Int) 2 = (n + 1) / 2 := by
  unfold Builtin.Slice.slicePlaces
  have h1 : (2 : Int) > 0 := by omega
  simp only [h1, if_true]
  split <;> omega
section
variable {prog : Program} {w : World} {A : Around} {E : Value → Shared → Prop} {s : Shared}
theorem sliceApplied_two {sl : Addr} {vl vu vs : Value} {n : Nat} {Q : Int × Int × Nat → Shared → Prop} (hs : s.heap.IsSliceOf sl vl vu vs) (pl : IsPart vl none) (pu : IsPart vu none) (ps : IsPart vs (some 2))
    (h : Q (0, 2, (n + 1) / 2) s) : wpAny (model prog w) A (Builtin.Slice.sliceApplied (.ref sl) (pure (n : Int))) Q E s := by
  obtain ⟨os, hos, hcs, hds⟩ := id hs
  unfold Builtin.Slice.sliceApplied Builtin.Slice.sliceFields
  refine wpAny_bind (wpAny_bind (wpAny_field hos hds (x := vl) rfl (wpAny_bind (wpAny_field hos hds (x := vu) rfl (wpAny_bind (wpAny_field hos hds (x := vs) rfl (wpAny_pure ?_)))))))
  refine wpAny_bind (HT.slicePart_ ps ?_)
  show wpAny _ _ (if ((2 : Int) == 0) = true then _ else _) _ _ s
  rw [if_neg (by decide)]
  refine wpAny_bind (HT.slicePart_ pl (wpAny_bind (HT.slicePart_ pu (wpAny_bind (wpAny_pure ?_)))))
  show wpAny _ _ (match Builtin.Slice.sliceAdjust none none 2 (n : Int) with | (lo, hi) => pure (lo, (2 : Int), Builtin.Slice.slicePlaces lo hi 2)) _ _ s
  rw [adjust_two n]
  show wpAny _ _ (pure ((0 : Int), (2 : Int), Builtin.Slice.slicePlaces (0 : Int) (n : Int) 2)) _ _ s
  rw [places_two]
  exact wpAny_pure h
theorem pick_two (xs : Array Value) : ((List.range ((xs.size + 1) / 2)).filterMap fun (m : Nat) => xs[((0 : Int) + (m : Int) * 2).toNat]?).toArray = (evens xs.toList).toArray := by
  have e : (fun (m : Nat) => xs[((0 : Int) + (m : Int) * 2).toNat]?) = fun m => xs.toList[2 * m]? := by
    funext m
    have : ((0 : Int) + (m : Int) * 2).toNat = 2 * m := by omega
    rw [this, Array.getElem?_toList]
  rw [e, ← evens_pick, Array.length_toList]
theorem getItem_tuple_two {t sl : Addr} {items : Array Value} {vl vu vs : Value} {Q : Value → Shared → Prop} (ht : IsTup s.heap t items) (hs : s.heap.IsSliceOf sl vl vu vs) (pl : IsPart vl none) (pu : IsPart vu none) (ps : IsPart vs (some 2))
    (h : Q (.ref s.heap.objs.size) { s with heap := s.heap.push { cls := .type "tuple", data := .seq (evens items.toList).toArray } })
    (hsz : items.size ≤ sizeLine) : wpAny (model prog w) A (getItem (.ref t) (.ref sl)) Q E s := by
  have htake : sizeOk (.seq (evens items.toList).toArray) := by
    show (evens items.toList).toArray.size ≤ sizeLine
    rw [List.size_toArray, evens_len, Array.length_toList]
    omega
  obtain ⟨os, hos, hcs, hds⟩ := id hs
  have hTs : s.TypeIs (.ref sl) "slice" := ⟨os, hos, hcs⟩
  unfold getItem
  try with_reducible refine wpAny_holding ?_
  first | refine wpAny_bind (wpAny_pure ?_) | skip
  refine wpAny_bind (wpAny_sequenceKey ht.typeIs (by decide) ?_)
  refine wpAny_bind (wpAny_callSpecial?_slot (name := Str.ofString "__getitem__") ht.typeIs PyProof.Rows.slot_tuple_getitem
    (wpAny_call_entry PyProof.Rows.slot_tuple_getitem ht.typeIs entry_tuple_getitem ?_ (args_tuple_getitem _ _)))
  show wpAny _ _ (Builtin.Tuple.tupleItemsOf (.ref t) >>= _) _ _ s
  refine wpAny_bind (tupleItemsOf_ ht ?_)
  refine wpAny_bind (wpAny_typeOf hTs ?_)
  rw [if_pos (by decide)]
  refine wpAny_bind (sliceApplied_two hs pl pu ps ?_)
  show wpAny _ _ (if (((0 : Int)) == 0 && (2 : Int) == 1 && ((items.size + 1) / 2) == items.size) = true then _ else _) _ _ s
  rw [if_neg (by simp), pick_two]
  first
    | exact wpAny_bind (m := Builtin.Tuple.tupleExact _) (wpAny_newObj_type (wpAny_pure ⟨_, rfl, wpAny_pure h⟩) htake)
    | exact wpAny_bind (m := Builtin.Tuple.tupleExact _) (wpAny_newObj_type (wpAny_bind (wpAny_pure (wpAny_pure ⟨_, rfl, wpAny_pure h⟩))) htake)
    | exact wpAny_bind (wpAny_bind (m := Builtin.Tuple.tupleExact _) (wpAny_newObj_type (wpAny_pure (wpAny_pure ⟨_, rfl, wpAny_pure h⟩)) htake))
    | exact wpAny_bind (wpAny_bind (m := Builtin.Tuple.tupleExact _) (wpAny_newObj_type (wpAny_pure ⟨_, rfl, wpAny_pure h⟩) htake))
end
section
variable {X : Cx}
theorem evens_vals : ∀ {xs : List V} {us : List Value}, Vals xs us → Vals (evens xs) (evens us)
  | [], [], _ => .nil
  | [a], [u], h => h
  | a :: b :: r, u :: v :: s, .cons h1 (.cons h2 h3) => .cons h1 (evens_vals h3)
def tTwoT (K : PySem.W.Frag) (te : TE) : TE := fun σ H Q => te σ H fun x H1 => ∃ a xs, x = .ref a ∧ SqT K H1 a xs ∧ ∀ p, H1 p = none → Q (.ref p) (upd H1 p (.tup (evens xs)))
theorem pe_two {e : Expr} {te : TE} {k : Nat} {p1 p3 pos : Pos} (he : PE X e te) : PE X (.Subscript e (.Slice none none (some (.Constant (.int 2) k p1)) p3) pos) (tTwoT X.K te) := by
  refine ⟨fun pins s σ H Q I h => ?_⟩
  refine Subscript_ (thn (he.run pins s σ H _ I h) fun v s1 ⟨x, H1, I1, r1, q1⟩ => ?_)
  obtain ⟨a, xs, ex, hx, q⟩ := q1
  subst ex
  cases r1
  have hst : PO X (some (.Constant (.int 2) k p1)) (tPart (tC (.int 2))) := po_some pe_int
  refine wpAny_Slice (thn (po_none.run pins s1 σ H1 (fun o H2 => o = none ∧ H2 = H1) I1 ⟨rfl, rfl⟩) fun vl s2 ⟨l, H2, I2, pl, el, e2⟩ => ?_)
  subst el e2
  refine thn (po_none.run pins s2 σ H2 (fun o H3 => o = none ∧ H3 = H2) I2 ⟨rfl, rfl⟩) fun vu s3 ⟨u, H3, I3, pu, eu, e3⟩ => ?_
  subst eu e3
  refine thn (hst.run pins s3 σ H3 (fun o H4 => o = some 2 ∧ H4 = H3) I3 ⟨2, rfl, rfl, rfl⟩) fun vs s4 ⟨o, H4, I4, ps, eo, e4⟩ => ?_
  subst eo e4
  have I5 : Inv X pins σ H4 { s4 with heap := s4.heap.push { cls := .type "slice", data := .fields #[vl, vu, vs] } } := I4.kept (t' := s4.toks) fun b ob q => Heap.get?_push_of_some _ q
  obtain ⟨its, r, ht, hz⟩ := I5.tuple hx
  have hlen : its.toArray.size = xs.length := by rw [List.size_toArray]; exact r.length.symm
  show wpAny (model X.prog X.w) X.A (subscriptTail e (.Slice none none (some (.Constant (.int 2) k p1)) p3) (.ref a) (.ref s4.heap.objs.size)) (EP X pins σ Q) X.xe { s4 with heap := s4.heap.push { cls := .type "slice", data := .fields #[vl, vu, vs] } }
  refine tail_any (ops := [.ref a, .ref s4.heap.objs.size]) ht.typeIs (PyProof.Rows.slot_tuple_getitem.lookup) ?_ (by with_unfolding_all rfl)
  refine getItem_tuple_two ht (Heap.IsSliceOf.new _ vl vu vs) pl pu ps ?_ (by rw [hlen]; exact hz)
  refine ⟨.ref _, _, I5.laid (t' := s4.toks) (o := .tup (evens xs)) (fun b ob q => Heap.get?_push_of_some _ q) (Nat.le_refl _) ?_, rfl, q _ (I5.hok.fresh (Nat.le_refl _))⟩
  exact ⟨by rw [evens_len]; omega, _, evens_vals r, IsTup.new _ _⟩
end
end Kx
namespace Kx
open PySem PySem.Spec PyProof.Rows L2 SX LamX
open PySem.W (EachIs)
/-! ### sorted texts, however many -/
def leT (a b : Str) : Bool := decide (a.cps.toList ≤ b.cps.toList)
theorem leT_enc : PySem.W.dataLe false (fun x : Str => PyData.str x) = leT := PySem.W.dataLe_str fun x : Str => x
def IsT (v : Value) (x : Str) : Prop := ∃ t, v = Value.str x t
theorem eachT : ∀ {vs : List Value} {xs : List Str}, StrsAre vs xs → EachIs IsT vs xs
  | _, _, .nil => .nil
  | _, _, .cons y t h => .cons ⟨t, rfl⟩ (eachT h)
theorem eachT_strs : ∀ {vs : List Value} {xs : List Str}, EachIs IsT vs xs → StrsAre vs xs
  | _, _, .nil => .nil
  | _, _, .cons ⟨t, e⟩ h => by subst e; exact .cons _ t (eachT_strs h)
theorem eachT_reads {h : Heap} : ∀ {vs : List Value} {xs : List Str}, EachIs IsT vs xs → EachIs (fun v x => ∃ as, Reads h v (PyData.str x) as) vs xs
  | _, _, .nil => .nil
  | _, _, .cons ⟨t, e⟩ r => by subst e; exact .cons ⟨[], .str _ _⟩ (eachT_reads r)
theorem eachT_readsN {h : Heap} {p : Addr} : ∀ {vs : List Value} {xs : List Str}, EachIs IsT vs xs → EachIs (fun v x => ∃ as, Reads h v (PyData.str x) as ∧ p ∉ as) vs xs
  | _, _, .nil => .nil
  | _, _, .cons ⟨t, e⟩ r => by subst e; exact .cons ⟨[], .str _ _, List.not_mem_nil⟩ (eachT_readsN r)
theorem alikeT (xs : List Str) : PySem.W.AllAlike (xs.map fun x : Str => PyData.str x) := PySem.W.AllAlike.of fun b b' => by simp only [PySem.W.alike]
theorem sortableT (xs : List Str) : PySem.W.Sortable (xs.map fun x : Str => PyData.str x) := PySem.W.Sortable.others fun b => ⟨(fun e => by cases e), fun xs e => by cases e⟩
section
variable {X : Cx}
theorem depthT (hu : X.A.units + 64 < cLine) (x : Str) : X.A.units + 2 + (PyData.str x).depth < cLine := by
  have : (PyData.str x).depth = 0 := by simp [PyData.depth]
  omega
theorem call_sortedT (hu : X.A.units + 64 < cLine) : CallR X (.builtin "sorted") (fun vs H Q => ∃ (a : Addr) (xs : List Str), vs = [V.ref a] ∧ SqL X.K H a (xs.map V.str) ∧ ∀ p, H p = none → Q (.ref p) (upd H p (.lst ((xs.mergeSort leT).map V.str)))) := by
  intro pins s σ H x us Q I r h
  obtain ⟨a, xs, rfl, hs, q⟩ := h
  obtain ⟨its, rv, hl, hz⟩ := I.list hs
  rw [Vals.ref1 r]
  have hlen0 := rv.length
  rw [List.length_map] at hlen0
  have eT := eachT rv.strs
  refine PySem.W.sorted_data (enc := fun x : Str => PyData.str x) (R := IsT) hl.isList eT (eachT_reads eT) (alikeT _) (sortableT _) (by rw [List.length_map] at hz; exact hz) (fun b _ => depthT hu b) fun out ho eo => ?_
  rw [leT_enc] at eo
  obtain ⟨ep, he'⟩ := PyProof.Rows.sortedAll_at s.heap its out.toArray
  have hlen : ((xs.mergeSort leT).map V.str).length ≤ sizeLine := by rw [List.length_map, List.length_mergeSort]; rw [List.length_map] at hz; exact hz
  exact ⟨.ref _, upd H (s.heap.objs.size + 1) (.lst ((xs.mergeSort leT).map V.str)), I.laid (t' := s.toks) (fun _ _ => PyProof.Rows.sortedAll_old) (Nat.le_succ _) ⟨hlen, out.toArray.toList, ep, vals_of_strs (by simpa using eachT_strs eo), he'⟩, rfl, q _ (I.hok.fresh (Nat.le_succ _))⟩
theorem call_sortedDT (hcalm : X.calm = true) (hu : X.A.units + 64 < cLine) : CallR X (.builtin "sorted") (fun xs H Q => ∃ (a : Addr) (kvs : List (Key × V)) (ks : List Str), xs = [.ref a] ∧ Rd H a (.dK kvs) ∧ kvs.map (·.1) = ks.map Sum.inr ∧
    ∀ p, H p = none → Q (.ref p) (upd H p (.lst ((ks.mergeSort leT).map V.str)))) := by
  intro pins s σ H xs us Q I r q
  obtain ⟨a, kvs, ks, ex, hd, hks, q⟩ := q
  subst ex
  obtain ⟨u, eu, rx⟩ := vals1 r
  subst eu
  cases rx
  obtain ⟨z, lo, vs, rel, dd⟩ := dk_rd I.hok hd
  obtain ⟨ep, hat⟩ := dd.dictAt
  have hkeys : vs.map (·.1) = ks.map Sum.inr := rel.keys.symm.trans hks
  have hl : vs.length = ks.length := by
    have e := congrArg List.length hkeys
    rw [List.length_map, List.length_map] at e
    exact e
  have h16 : vs.length ≤ sizeLine := by rw [← rel.length]; exact z
  refine Calls.call_function_entry PyProof.Rows.kind_sorted PyProof.Rows.plain_sorted PyProof.Rows.entry_sorted (PyProof.Rows.args_sorted1 _) ?_
  unfold Builtin.«sorted»
  refine wpAny_bind (m := checkCount "sorted" 1 1 _) (wpAny_pure ?_)
  refine wpAny_bind (PySem.W.kdu_collect (A := X.A.in1) (PySem.W.kdl_dict (knd := mixKind X.prog X.w) (kvs := vs) (ep := ep) lo) (I.ok.hd hcalm) hat h16 fun h' tk acc hk hacc => ?_)
  have hal : acc.toList.length = ks.length := by rw [Array.length_toList, hacc.1, hl]
  have hS : StrsAre acc.toList ks := strs_at hal fun j v e => by
    obtain ⟨k, x, e1, e2⟩ := hacc.2 j v (by rw [← Array.getElem?_toList]; exact e)
    have e3 : (vs.map (·.1))[j]? = some k := by rw [List.getElem?_map, e1]; all_goals rfl
    rw [hkeys, List.getElem?_map] at e3
    cases e4 : ks[j]? with
    | none => rw [e4] at e3; cases e3
    | some y =>
      rw [e4] at e3
      have e5 : Sum.inr y = k := Option.some.inj e3
      subst e5
      obtain ⟨t, ev⟩ := Value.isStrOf_shape (x := y) (v := v) e2
      exact ⟨y, t, rfl, ev⟩
  have hkl : ks.length ≤ sizeLine := by omega
  have I1 : Inv X pins σ H { s with heap := h', toks := tk } := I.kept hk
  refine wpAny_bind (wpAny_newList ?_ (by rw [hal]; exact hkl))
  have hoL : (h'.push (seqObj "list" acc.toList.toArray 0)).get? h'.objs.size = some (seqObj "list" acc.toList.toArray 0) := Heap.get?_push_size _ rfl
  show wpAny _ _ _ _ _ { s with heap := h'.push (seqObj "list" acc.toList.toArray 0), toks := tk }
  have eT := eachT hS
  refine wpAny_bind (wpAny_holding (PySem.W.list_sort_data (s := { s with heap := h'.push (seqObj "list" acc.toList.toArray 0), toks := tk }) (enc := fun x : Str => PyData.str x) (R := IsT) hoL eT ?er (alikeT _) (sortableT _) hkl (fun b _ => ?du) fun out ho eo => ?fin))
  case er => exact eachT_readsN eT
  case du =>
    have h1 : X.A.in1.units = X.A.units + 1 := rfl
    have : (PyData.str b).depth = 0 := by simp [PyData.depth]
    omega
  case fin =>
    rw [leT_enc] at eo
    obtain ⟨e', he'⟩ := PyProof.Rows.sortedHeap_at (vs := acc.toList) (out := out.toArray) hoL
    have hlen : ((ks.mergeSort leT).map V.str).length ≤ sizeLine := by rw [List.length_map, List.length_mergeSort]; exact hkl
    refine wpAny_pure ⟨_, rfl, .ref h'.objs.size, upd H h'.objs.size (.lst ((ks.mergeSort leT).map V.str)), I1.laid (t' := tk) (fun b u e => ?_) (Nat.le_refl _)
      (show ObjOk X.prog X.w _ _ _ (.lst ((ks.mergeSort leT).map V.str)) from ⟨hlen, out.toArray.toList, e', vals_of_strs (by simpa using eachT_strs eo), by rw [Array.toArray_toList]; exact he'⟩), rfl, q _ (I1.hok.fresh (Nat.le_refl _))⟩
    have hb : b < h'.objs.size := Heap.lt_size e
    show (sortedHeap (h'.push (seqObj "list" acc.toList.toArray 0)) h'.objs.size acc.toList out.toArray).get? b = some u
    rw [PyProof.Rows.sortedHeap_old (Nat.ne_of_lt hb) (by rw [size_push']; exact Nat.lt_succ_of_lt hb)]
    exact Heap.get?_push_of_some _ e
end
end Kx
namespace Kx
open PySem PySem.Spec PyProof.Rows L2 SX LamX
/-! ### len(set(text)) -/
def signsT (l : List Nat) : List Str := l.map fun c => S [c]
theorem signsT_at {l : List Nat} {t : Tok} {i : Nat} {v : Value} (h : PySem.SignAt (S l) i v) : ∃ x u, (signsT l)[i]? = some x ∧ v = .str x u := by
  obtain ⟨c, u, h1, h2⟩ := h
  have h5 : (S l).cps[i]? = l[i]? := by simp [S]
  rw [h5] at h1
  exact ⟨S [c], u, by unfold signsT; rw [List.getElem?_map, h1]; rfl, h2⟩
section
variable {prog : Program} {w : World} {A : Around} {E : Value → Shared → Prop} {s : Shared}
theorem call_set_text {l : List Nat} {t : Tok} {Q : Value → Shared → Prop} (hh : A.handled = none) (hb : l.length + 1 < scanBound)
    (h : ∀ (h' : Heap) (tk : Nat), MadeTx prog w s (signsT l) h' → Q (.ref s.heap.objs.size) { s with heap := h', toks := tk }) : wpAny (model prog w) A (call (.type "set") [.str (S l) t]) Q E s := by
  refine set_made (xs := signsT l) (fun led A' E' Q' hA q => ?_) h
  have isz : (S l).cps.size = (signsT l).length := by unfold signsT; simp [S]
  have isz2 : (S l).cps.size = l.length := by simp [S]
  have hS : (s.heap.push (freshSet led)).get? s.heap.objs.size = some (freshSet led) := Heap.get?_push_size _ rfl
  have hSf : s.heap.objs.size ∉ [(s.heap.push (freshSet led)).objs.size] := by
    rw [Heap.size_push]
    simp only [List.mem_cons, List.not_mem_nil, or_false]
    exact Nat.ne_of_lt (Nat.lt_succ_self _)
  have hh3 : A'.in1.handled = none := by simp [hA, hh]
  have done : ∀ (it : Obj) (s' : Shared), Moved (s.heap.objs.size :: [(s.heap.push (freshSet led)).objs.size]) (fun a b => b = a) { s with heap := (s.heap.push (freshSet led)).push it } s' → txSet prog w s'.heap s.heap.objs.size (onceS (signsT l)) →
      wpAny (model prog w) A' (ret Value.none) Q' E' s' := fun it s' hm hS' => by
    obtain ⟨h', g', d', tk', os'⟩ := s'
    have eg : g' = s.gens := hm.gens
    have ed : d' = s.drawn := hm.drawn
    have eo : os' = s.os := hm.os
    subst eg
    subst ed
    subst eo
    refine wpAny_pure (q h' tk' ⟨hS', fun b o e => ?_⟩)
    have hb0 : b < s.heap.objs.size := Heap.lt_size e
    have hb1 : b ≠ s.heap.objs.size := Nat.ne_of_lt hb0
    have hb2 : b ≠ (s.heap.push (freshSet led)).objs.size := by
      rw [Heap.size_push]
      exact Nat.ne_of_lt (Nat.lt_succ_of_lt hb0)
    exact hm.heap b o (by simp only [List.mem_cons, List.not_mem_nil, or_false, not_or]; exact ⟨hb1, hb2⟩) (Heap.get?_push_of_some _ (Heap.get?_push_of_some _ e))
  unfold Builtin.«set.__init__» noKeywords Builtin.Frozenset.updateFrom
  have hsls := PySem.F.sub_str_set
  have hslf := PySem.F.sub_str_frozenset
  have hne : (Value.type "str" == Value.type "dict") = false := by decide
  generalize hPI : pyIter = PI
  wp_walk
  subst hPI
  refine PySem.wpAny_pyIter_str fun o St W st0 => ?_
  refine wpAny_bind (wpAny_runValue ?_)
  refine upd_texts ((W _ hh3).toS) s.heap.objs.size hSf (signsT l) isz (fun i v hv => signsT_at (t := t) hv) (by omega) ((S l).cps.size - 0) 0 _ (by omega) (Nat.zero_le _) st0 ?_ (fun s' hm hS' => ?_)
  · have hget : ((s.heap.push (freshSet led)).push o).get? s.heap.objs.size = some (freshSet led) := Heap.get?_push_of_some _ hS
    exact PyProof.Rows.SetOf_congr ((PyProof.Rows.setObjOf_fresh (knd := PySem.strKind prog w) led).setOf hget (by unfold scanBound; omega)) (fun _ => rfl) rfl
  · exact wpAny_pure (done _ s' hm hS')
end
section
variable {X : Cx}
/-- len(set(e)), e a text -/
def tLenSetT (ta : TE) : TE := fun σ H Q => ta σ H fun x H1 => ∃ l : List Nat, x = .str (S l) ∧ l.length ≤ 4000 ∧ Q (.int ((onceS (signsT l)).length : Nat)) H1
theorem pe_lenSetT {a : Expr} {ta : TE} {p p2 q pos : Pos} (hg : Gl X "len") (hm : X.mg "len" = none) (hg2 : Gl X "set") (hm2 : X.mg "set" = none) (ha : PE X a ta) (hc : X.calm = true := by rfl)
    (na : starEach [a] X.env = (false, eval a X.env) :: starEach [] X.env := by rfl) : PE X (.Call (.Name "len" p) [.Call (.Name "set" p2) [a] [] q] [] pos) (tLenSetT ta) := by
  refine ⟨fun pins s σ H Q I h => ?_⟩
  refine Call_ (ld_blt I hg hm boot_len ?_)
  refine PyProof.Rows.callWith_builtin1 (PyProof.Rows.args_cons ?_ rfl) rfl rfl
  refine Call_ (ld_blt I hg2 hm2 boot_set ?_)
  refine PyProof.Rows.callWith_type1 (PyProof.Rows.args_cons (thn (ha.run pins s σ H _ I h) fun v s1 ⟨x, H1, I1, r1, q1⟩ => PyProof.Rows.args_nil ?_) na) na rfl
  obtain ⟨l, rfl, h1, q1⟩ := q1
  obtain ⟨t, rfl⟩ := r1
  refine call_set_text (I1.ok.hd hc) (by unfold scanBound; omega) fun h' tk m => ?_
  refine PyProof.Rows.args_nil ?_
  obtain ⟨⟨o, es, ep, t, ho, hex, hd, _, _, _, hf, hn⟩, hk⟩ := m
  have I2 : Inv X pins σ H1 { s1 with heap := h', toks := tk } := I1.kept fun b o e => hk b o e
  have h2 := onceS_le (signsT l)
  have h3 : (signsT l).length = l.length := by unfold signsT; rw [List.length_map]
  exact call_len_set ho hex hd hf (by rw [hn] <;> omega) ⟨.int ((onceS (signsT l)).length : Nat), H1, I2.tok _, ⟨_, by rw [hn]⟩, q1⟩
end
end Kx
namespace Kx
open PySem PySem.Spec PyProof.Rows L2 SX LamX
/-! ### an error class of the program: two fields -/
structure Er2 (K : PySem.W.Frag) (mg : Str → Option Value) (x qual : Str) (st : Stmt) (base f1 f2 : Str) where
  C : Addr
  L : Addr
  fI : Addr
  fd : FuncData
  gC : mg x = some (.ref C)
  gL : mg base = some (.ref L)
  oex : OexC K C
  iC : PySem.W.findIn K (.ref C) "__init__" = some (some (.ref fI))
  tI : PySem.W.typeIn K (.ref fI) = some (.type "function")
  F : Fun K "__init__" qual st fI fd
  b : Binds K fd ["self", f1, f2] []
  np : PySem.W.findIn K (.ref C) f1 = some none
  np2 : PySem.W.findIn K (.ref C) f2 = some none
  exc : ExcC K C
  xf : XfC K C
  em : PySem.W.exmOne K (.ref C) (.ref L) = some true
/-- its making, out of what the top left -/
def er2_mk {K : PySem.W.Frag} {h : Heap} {mg : Str → Option Value} (X : K.In h) (G : h.Ns mainGlobals mg) {x qual : Str} {st : Stmt} {base f1 f2 : Str} {C L fI N : Addr} {nm q : Str} {bs bm : List Value} {sn : List Str} {sub : List Value} {ab : Bool} {col : Option Bool} {dd : Option Addr} {m0 m1 m2 m3 m5 : Option Value}
    {od an : Option Addr} {sl : Array (Option Value)} {oc kV dc pm cd ct : Value} (aC : PySem.W.nsIn K mainGlobals x = some (some (.ref C))) (aL : PySem.W.nsIn K mainGlobals base = some (some (.ref L)))
    (xL : K.lookup C = some (excClassObj nm q C N bs bm true sn sub ab col dd m0 m1 m2 m3 m5 "ValueError.__new__")) (hbm : PySem.HandSPX.refsVE bm = true)
    (sa : PySem.W.findIn K (.ref C) "__setattr__" = some (some (.builtin "object.__setattr__"))) (eC : PySem.W.subIn K (.ref C) (.type "BaseException") = some true) (tC : PySem.W.typeIn K (.ref C) = some (.type "type")) (kC : PySem.W.keepIn K (.ref C) = true)
    (a1 : PySem.W.findIn K (.ref C) "__init__" = some (some (.ref fI))) (t1 : PySem.W.typeIn K (.ref fI) = some (.type "function"))
    (l1 : K.lookup fI = some ⟨oc, od, .func (PySem.W.fnOf "__init__" qual (defArgs st) (defBody st) (defScope st) .none kV dc pm an cd ct), sl⟩) (c1 : PySem.W.codeIn K cd qual = true) (k1 : PySem.W.keepIn K (.ref fI) = true)
    (b1 : ∀ (kV doc pm : Value) (an : Option Addr) (cdv ct : Value) (us : List Value), us.length = (["self", f1, f2] : List Str).length → bindArgs (PySem.W.fnOf "__init__" qual (defArgs st) (defBody st) (defScope st) .none kV doc pm an cdv ct) ⟨us, []⟩ = pure ((["self", f1, f2] : List Str).zip us))
    (nb : PySem.W.findIn K (.ref C) f1 = some none) (nb2 : PySem.W.findIn K (.ref C) f2 = some none) (ga : PySem.W.findIn K (.ref C) "__getattribute__" = some (some (.builtin "BaseException.__getattribute__"))) (gg : PySem.W.findIn K (.ref C) "__getattr__" = some none) (hd : PySem.W.hasDictIn K C = true)
    (hc : PySem.W.findIn K (.ref C) "__class__" = some (some (.builtin "object.__class__"))) (hn : PySem.W.specialIn K (.builtin "object.__class__") "__get__" = some (some (.builtin "getset_descriptor.__get__"))) (ht : PySem.W.takesIn K (.builtin "object.__class__") = some true)
    (hm : PySem.W.mroIn K C (.type "object") = some true) (eL : PySem.W.subIn K (.ref L) (.type "BaseException") = some true) (dL : PySem.W.hasDictIn K L = true) (tL : PySem.W.typeIn K (.ref L) = some (.type "type")) (sCL : PySem.W.subIn K (.ref C) (.ref L) = some true) : Er2 K mg x qual st base f1 f2 where
  C := C
  L := L
  fI := fI
  fd := _
  gC := PySem.W.mg_of X G aC
  gL := PySem.W.mg_of X G aL
  oex := ⟨⟨nm, q, N, bs, bm, sn, sub, ab, col, dd, m0, m1, m2, m3, m5, xL, hbm⟩, sa, eC, tC, kC⟩
  iC := a1
  tI := t1
  F := fun_mk (st := st) l1 c1 k1
  b := (fun_mk (st := st) l1 c1 k1).binds (ps := ["self", f1, f2]) b1
  np := nb
  np2 := nb2
  exc := ⟨ga, gg, eC, hd, hc, hn, ht, hm⟩
  xf := ⟨ga, gg, eC, hd⟩
  em := PySem.W.exm_ref eL dL tL sCL
/-- the promise of such an __init__ -/
def sp_init2 (K : PySem.W.Frag) (f1 f2 : Str) : Sp := fun vs H Q _ => ∃ (a C : Addr) (y z : V), vs = [.ref a, y, z] ∧ OexC K C ∧ PySem.W.findIn K (.ref C) f1 = some none ∧ PySem.W.findIn K (.ref C) f2 = some none ∧ H a = some (exo a C none) ∧
  ∀ dx, H dx = none → dx ≠ a → Q .non (upd (upd (upd H dx (exd dx [(f1, y)])) a (exo a C (some dx))) dx (exd dx [(f2, z), (f1, y)]))
section
variable {P : Program} {w : World} {K : PySem.W.Frag} {mg : Str → Option Value} {base : Heap}
/-- the body of such an __init__ -/
def IsInit2 (st : Stmt) (f1 f2 : Str) : Prop := ∃ p1 p2 p3 p4 p5 p6 p7 p8, defBody st = [.Assign [.Attribute (.Name "self" p1) f1 p2] (.Name f1 p3) p4, .Assign [.Attribute (.Name "self" p5) f2 p6] (.Name f2 p7) p8] ∧
  FnScope ["self", f1, f2] ["self", f1, f2] (defScope st) ∧ (defScope st).names.lookup ("self" : Str) = some .local ∧ (defScope st).names.lookup f1 = some .local ∧ (defScope st).names.lookup f2 = some .local ∧
  (f1 == ("__debug__" : Str)) = false ∧ (f1 == ("__classdict__" : Str)) = false ∧ (f2 == ("__debug__" : Str)) = false ∧ (f2 == ("__classdict__" : Str)) = false
theorem ok_init2 {x qual : Str} {st : Stmt} {bs f1 f2 : Str} (e : Er2 K mg x qual st bs f1 f2) (h : IsInit2 st f1 f2) : FnOk P w K mg base CX0 1 e.fI e.fd ["self", f1, f2] (sp_init2 K f1 f2) := by
  obtain ⟨p1, p2, p3, p4, p5, p6, p7, p8, hb, sc, v1, v2, v3, d1, d2, d3, d4⟩ := h
  refine e.F.ok sc (fun vs H Q E h => ?_) (fun cdv A outer s H vs Q E hr h => ?_)
  · obtain ⟨a, C, y, z, rfl, _⟩ := h
    rfl
  · obtain ⟨a, C, y, z, rfl, o, n1, n2, ha, q⟩ := h
    rw [hb]
    refine ⟨_, pss_cons (ps_ost (pv 0 rfl (.inl v1)) (pv 1 rfl (.inl v2) (hd := d1) (hcd := d2))) (pss_one (ps_ost (pv 0 rfl (.inl v1)) (pv 2 rfl (.inl v3) (hd := d3) (hcd := d4)))), ?_⟩
    refine ⟨y, rfl, .ref a, rfl, a, C, rfl, o, n1, .inl ⟨ha, fun dx hdx ne => ?_⟩⟩
    exact ⟨z, rfl, .ref a, rfl, a, C, rfl, o, n2, .inr ⟨dx, [(f1, y)], upd_same, by rw [upd_ne ne, upd_same], (show 1 ≤ 900 by decide), q dx hdx ne⟩⟩
end
theorem mk_part2 {K : PySem.W.Frag} {C : Addr} {f1 f2 : Str} {σ : L2.St} {H : Hp} {Q : XK} {v z : V} (o : OexC K C) (n : PySem.W.findIn K (.ref C) f1 = some none) (n2 : PySem.W.findIn K (.ref C) f2 = some none)
    (q : ∀ d H', Same H H' → H' d = some (.xd [(f2, z), (f1, v)]) → Q (.ref C) (some d) H') : tMkO C (sp_init2 K f1 f2) [] (tCons (tC v) (tCons (tC z) tNil)) σ H Q := by
  refine ⟨by show 2 ≤ 1000; decide, fun a na => ⟨a, C, v, z, rfl, o, n, n2, upd_same, fun dx nd hne => ⟨rfl, dx, [(f2, z), (f1, v)], ?_, upd_same, ?_, q dx _ ?_ upd_same⟩⟩⟩
  · rw [upd_ne (Ne.symm hne), upd_same]
  · rw [upd_ne hne] at nd
    exact nd
  · rw [upd_ne hne] at nd
    intro b u h
    rw [upd_ne (ne_of_none h nd)]
    show (if b = a then none else _) = some u
    rw [if_neg (ne_of_none h na), upd_ne (ne_of_none h nd), upd_ne (ne_of_none h na), upd_ne (ne_of_none h nd), upd_ne (ne_of_none h na)]
    exact h
/-- an error of two fields, told on -/
def RaisedTwo (E : XK) (C : Addr) (f1 f2 : Str) (H : Hp) (v z : V) : Prop := ∀ d H', Same H H' → H' d = some (.xd [(f2, z), (f1, v)]) → E (.ref C) (some d) H'
end Kx
namespace Kx
open PySem PySem.Spec PyProof.Rows L2 SX LamX
/-! ### d.update(e) -/
theorem putK_len {κ : Type} [DecidableEq κ] (kvs : List (κ × V)) (k : κ) (v : V) : (putK kvs k v).length ≤ kvs.length + 1 := by
  unfold putK
  split
  · rw [List.length_map]; omega
  · rw [List.length_append]; exact Nat.le_refl _
theorem mergeK_len : ∀ (more kvs : List (Key × V)), (mergeK kvs more).length ≤ kvs.length + more.length
  | [], kvs => Nat.le_refl _
  | p :: r, kvs => by
    have h1 := mergeK_len r (putK kvs p.1 p.2)
    have h2 := putK_len kvs p.1 p.2
    show (mergeK (putK kvs p.1 p.2) r).length ≤ _
    rw [List.length_cons]
    omega
def rDUpd : V → List V → Hp → VK → Prop := fun x vs H Q => ∃ (a b : Addr) (kvs more : List (Key × V)), x = .ref a ∧ vs = [.ref b] ∧ a ≠ b ∧ H a = some (.dK kvs) ∧ H b = some (.dK more) ∧ kvs.length + more.length ≤ sizeLine ∧ Q .non (upd H a (.dK (mergeK kvs more)))
theorem mtd_update {X : Cx} : MtR X "dict.update" rDUpd := by
  intro pins s σ H x vs v us Q I rx rv h
  obtain ⟨a, b, kvs, more, ex, ev, ne, e1, e2, hl, q⟩ := h
  subst ex
  subst ev
  obtain rfl : v = Value.ref a := rx
  obtain ⟨u, rfl, ru⟩ := vals1 rv
  obtain rfl : u = Value.ref b := ru
  obtain ⟨z1, hd1, vs1, rel1, dd1⟩ := dk_of I.hok e1
  obtain ⟨z2, hd2, vs2, rel2, dd2⟩ := dk_of I.hok e2
  refine call_meetsIn PySem.F.slot_dict_update dd1.typeIs PySem.F.entry_dict_update (PySem.F.args_dict_update_2 _ _) (meets_dict_update (mixKind X.prog X.w) a b ne hd2)
    ⟨vs1, vs2, dd1, dd2, by rw [← rel1.length, ← rel2.length]; exact hl, fun h' dd' _ hs => ?_⟩
  have he : ∃ q, h'.get? a = some q := let ⟨q, _, _, hq, _⟩ := dd'; ⟨q, hq⟩
  exact ⟨.non, _, d_write (t' := s.toks) I (by rw [e1]; exact True.intro) hs he (dk_new (Nat.le_trans (mergeK_len more kvs) hl) hd1 (rel2.merge rel1) dd'), rfl, q⟩
/-! ### a dict of the top with int keys -/
def keyI (e : DictEntry) : Option Int := match e.key with
  | .int i _ => if e.hash = hashInt i then some i else none
  | _ => none
def keysI (es : List DictEntry) : Bool := es.all fun e => (keyI e).isSome
def DctI (K : PySem.W.Frag) (a : Addr) (kvs : List (Int × V)) : Prop :=
  ∃ (es : Array DictEntry) (n : Nat), K.lookup a = some ⟨.type "dict", none, .dict es n, #[]⟩ ∧ keysI es.toList = true ∧ ∃ us : List Value, es.toList.map (fun e => (keyI e, e.val)) = (kvs.zip us).map (fun p => (some p.1.1, p.2)) ∧ Vals (kvs.map (·.2)) us
theorem keyI_some {e : DictEntry} {i : Int} (h : keyI e = some i) : (∃ t, e.key = .int i t) ∧ e.hash = hashInt i := by
  unfold keyI at h
  split at h
  · rename_i j t hk
    split at h
    · cases h
      exact ⟨⟨t, hk⟩, by assumption⟩
    · cases h
  · cases h
theorem dctI_find : ∀ (es : List DictEntry) (kvs : List (Int × V)) (us : List Value) (i : Int) (v : V), es.map (fun e => (keyI e, e.val)) = (kvs.zip us).map (fun p => (some p.1.1, p.2)) → Vals (kvs.map (·.2)) us → valV kvs i = some v →
    ∃ e, es.find? (fun e => e.key.isInt i) = some e ∧ RelV v e.val
  | es, [], us, i, v, _, _, h => by cases h
  | es, p :: r, [], i, v, _, hv, _ => by cases hv
  | [], p :: r, u :: us, i, v, h, _, _ => by cases h
  | e :: es, p :: r, u :: us, i, v, h, hv, hi => by
    simp only [List.map_cons, List.zip_cons_cons] at h
    injection h with h1 h2
    injection h1 with h3 h4
    obtain ⟨⟨t, hk⟩, _⟩ := keyI_some h3
    cases hv with
    | cons r1 r2 =>
      by_cases e1 : p.1 = i
      · refine ⟨e, ?_, ?_⟩
        · rw [List.find?_cons_of_pos]
          rw [hk]
          show (Value.int p.1 t).isInt i = true
          simp [Value.isInt, e1]
        · rw [valV_pos e1] at hi
          cases hi
          rw [h4]
          exact r1
      · rw [valV_neg e1] at hi
        obtain ⟨e', g1, g2⟩ := dctI_find es r us i v h2 r2 hi
        refine ⟨e', ?_, g2⟩
        rw [List.find?_cons_of_neg]
        · exact g1
        rw [hk]
        show ¬ (Value.int p.1 t).isInt i = true
        simp [Value.isInt, e1]
def rIxI (K : PySem.W.Frag) : R2 := fun x y H Q => ∃ (p : Addr) (kvs : List (Int × V)) (i : Int) (v : V), x = .ref p ∧ y = .int i ∧ DctI K p kvs ∧ valV kvs i = some v ∧ Q v H
section
variable {X : Cx}
theorem ix_dctI : IxR X (rIxI X.K) := by
  intro value slice pins s σ H x y v u Q I rx ry h hs
  obtain ⟨p, kvs, i, r, rfl, rfl, ⟨es, n, hl, hk, us, hm, hv⟩, e, q⟩ := h
  obtain rfl : v = Value.ref p := rx
  obtain ⟨t, rfl⟩ := ry
  obtain ⟨en, he, ru⟩ := dctI_find _ _ _ _ _ hm hv e
  have hmap : s.heap.MapOf (intKind X.prog X.w) p (fun k => findBy (intKind X.prog X.w).is es k) := ⟨_, es, n, I.kIn _ _ hl, ⟨rfl, rfl, rfl⟩, rfl, fun en hen => by
    have := List.all_eq_true.mp hk en (Array.mem_toList_iff.mpr hen)
    obtain ⟨j, hj⟩ := Option.isSome_iff_exists.mp this
    obtain ⟨⟨t, e1⟩, e2⟩ := keyI_some hj
    exact ⟨j, by rw [e1]; exact intKind_is X.prog X.w j t, e2⟩, fun _ => rfl⟩
  have hf : findBy (intKind X.prog X.w).is es i = some en.val := by
    unfold findBy
    have : es.find? (fun e => (intKind X.prog X.w).is i e.key) = some en := by
      rw [← Array.find?_toList]
      exact he
    rw [this]
    rfl
  exact tail_any hmap.typeIs slot_dict_getitem.lookup (wpAny_getItem_of (intKind_is X.prog X.w i t) hmap hf ⟨r, H, I.tok _, ru, q⟩) hs
end
/-! ### o.f within a target -/
def gFld (K : PySem.W.Frag) (ta : TE) (f : Str) : TG := fun v σ H Q => ta σ H fun x H1 => ∃ a C dx fs, x = .ref a ∧ H1 a = some (.ins C dx fs) ∧ Cls K C ∧ NoAttr K C f ∧ fs.length < 1000 ∧ Q σ (upd H1 a (.ins C dx (putF f v fs)))
section
variable {X : Cx} {o : Expr} {f : Str} {pos : Pos} {ta : TE}
theorem pg_fld (ha : PE X o ta) : PG X (.Attribute o f pos) (gFld X.K ta f) := by
  refine ⟨fun pins s σ H v u Q I r h => ?_⟩
  rw [assign_Attribute]
  refine wpAny_bind (wpAny_holding (thn (ha.run pins s σ H _ I h) fun ov s1 ⟨x, H1, I1, r1, a, C, dx, fs, ex, ea, c, n, l, q2⟩ => ?_))
  subst ex
  obtain rfl : ov = Value.ref a := r1
  refine wpAny_bind (wpAny_standAt (wpAny_bind (wpAny_holding (setattr_ok I1 ea c n l r fun s3 I3 => ?_))))
  exact wpAny_release ⟨σ, _, I3, q2⟩
end
/-! ### a call of a name that holds one of the functions of a table -/
section
variable {X : Cx} {i : Nat} {E : XK} {x : Str} {p pos : Pos} {e : Expr} {es : List Expr} {t : TA}
theorem pe_callF {D : Nat → Prop} {fa : Nat → Addr} {sps : Nat → Sp} (hN : X.N[i]? = some x) (hv : Vis X.env.scope x) (hF : ∀ n, D n → RunF X (fa n) (sps n) E) (ha : PA X (e :: es) t) (hd : (x == ("__debug__" : Str)) = false := by decide) (hcd : (x == ("__classdict__" : Str)) = false := by decide)
    (he : starEach (e :: es) X.env = (false, eval e X.env) :: starEach es X.env := by rfl) (hpl : (backTo pos (starEach es X.env)).any (·.1) = false := by rfl) :
    PE X (.Call (.Name x p) (e :: es) [] pos) (fun σ H Q => ∃ n, D n ∧ σ[i]? = some (some (.ref (fa n))) ∧ t σ H fun vs H1 => sps n vs H1 Q E) := by
  refine ⟨fun pins s σ H Q I h => ?_⟩
  obtain ⟨n, hf, hs, hq⟩ := h
  exact (pe_callV (fs := [fa n]) (sp := sps n) hN hv (fun f hm => by rw [List.mem_singleton.mp hm]; exact hF n hf) ha hd hcd he hpl).run pins s σ H Q I ⟨fa n, List.mem_singleton.mpr rfl, hs, hq⟩
end
end Kx
namespace Ms
structure Mst where
  block : Int
  room : Int
  tick : Bool
  flag : Bool
  test : Bool
  mode : Int
  first : Int
  second : Int
  cells : Int → Int
  heard : Nat
  said : List Int
  isd : Bool
def putC (f : Int → Int) (k v : Int) : Int → Int := fun c => if c = k then v else f c
/-- a word that wants the flag, which was up and is down now -/
def flagW (s : Mst) (n : Nat) (ns : List Int) : Mst :=
  if n = 4 then { s with first := s.first + s.second }
  else if n = 5 then { s with first := s.first - s.second }
  else if n = 6 then { s with first := s.first * s.second }
  else if n = 7 then { s with first := if s.second = 0 then 0 else s.first.fdiv s.second }
  else if n = 8 then { s with first := s.second, second := s.first }
  else if n = 9 then { s with first := if s.heard < ns.length then ns.getD s.heard 0 else 0, heard := if s.heard < ns.length then s.heard + 1 else s.heard }
  else if n = 10 then { s with said := s.said ++ [s.first] }
  else if n = 11 then { s with first := s.cells s.first }
  else { s with first := 8 * s.first + (n : Int) - 12 }
/-- a word that wants none -/
def bareW (s : Mst) (n : Nat) : Mst :=
  if n = 20 then { s with first := 0 }
  else if n = 21 then { s with second := s.first }
  else if n = 22 then { s with cells := putC s.cells s.second s.first }
  else if n = 23 then { s with test := decide (s.first = 0) }
  else if n = 24 then { s with test := decide (s.first < 0) }
  else if n < 28 then { s with mode := (n : Int) - 25 }
  else if n = 29 then { s with isd := true }
  else { s with room := if s.mode = 2 ∨ s.test = decide (s.mode = 0) then s.first else s.room }
def doW (ns : List Int) (s : Mst) (n : Nat) : Mst :=
  if s.isd = true then s
  else if n = 0 then { s with block := -1 }
  else if n = 1 then { s with tick := true }
  else if n = 2 then { s with block := if s.tick = true then s.block + 1 else s.block, tick := false }
  else if s.block ≠ s.room then s
  else if n = 3 then { s with flag := true }
  else if n < 20 then (if s.flag = true then flagW { s with flag := false } n ns else s)
  else bareW s n
theorem doW_twice (ns : List Int) (s : Mst) (n : Nat) (h : n < 30) : doW ns (doW ns s n) n = doW ns s n := by
  by_cases hd : s.isd = true
  · have e : doW ns s n = s := by unfold doW; rw [if_pos hd]
    rw [e, e]
  by_cases h0 : n = 0
  · subst h0; simp [doW, hd]
  by_cases h1 : n = 1
  · subst h1; simp [doW, hd]
  by_cases h2 : n = 2
  · subst h2; simp [doW, hd]
  by_cases hb : s.block ≠ s.room
  · have e : doW ns s n = s := by unfold doW; rw [if_neg hd, if_neg h0, if_neg h1, if_neg h2, if_pos hb]
    rw [e, e]
  by_cases h3 : n = 3
  · subst h3
    have hb : s.block = s.room := Decidable.not_not.mp hb
    simp [doW, hd, hb]
  by_cases h4 : n < 20
  · by_cases hf : s.flag = true
    · have e : doW ns s n = flagW { s with flag := false } n ns := by unfold doW; rw [if_neg hd, if_neg h0, if_neg h1, if_neg h2, if_neg hb, if_neg h3, if_pos h4, if_pos hf]
      have f : (flagW { s with flag := false } n ns).flag = false := by unfold flagW; (repeat' split) <;> rfl
      rw [e]
      unfold doW
      rw [f]
      simp only [h0, h1, h2, h3, h4, if_true, if_false, Bool.false_eq_true, ite_self]
    · have e : doW ns s n = s := by unfold doW; rw [if_neg hd, if_neg h0, if_neg h1, if_neg h2, if_neg hb, if_neg h3, if_pos h4, if_neg hf]
      rw [e, e]
  have hb : s.block = s.room := Decidable.not_not.mp hb
  have : n = 20 ∨ n = 21 ∨ n = 22 ∨ n = 23 ∨ n = 24 ∨ n = 25 ∨ n = 26 ∨ n = 27 ∨ n = 28 ∨ n = 29 := by omega
  rcases this with rfl | rfl | rfl | rfl | rfl | rfl | rfl | rfl | rfl | rfl
  · simp [doW, bareW, hd, hb]
  · simp [doW, bareW, hd, hb]
  · simp [doW, bareW, hd, hb]
    funext c
    simp only [putC]
    split <;> rfl
  · simp [doW, bareW, hd, hb]
  · simp [doW, bareW, hd, hb]
  · simp [doW, bareW, hd, hb]
  · simp [doW, bareW, hd, hb]
  · simp [doW, bareW, hd, hb]
  · by_cases hm : s.mode = 2 ∨ s.test = decide (s.mode = 0)
    · by_cases hr : s.room = s.first
      · simp [doW, bareW, hd, hb, hm, hr]
      · simp [doW, bareW, hd, hb, hm, hr]
    · simp [doW, bareW, hd, hb, hm]
  · simp [doW, bareW, hd, hb]
def doR (ns : List Int) (s : Mst) (row : List Nat) : Mst := row.foldl (doW ns) s
theorem doR_app (ns : List Int) (s : Mst) (a b : List Nat) : doR ns s (a ++ b) = doR ns (doR ns s a) b := List.foldl_append ..
theorem doR_rep (ns : List Int) (n : Nat) (h : n < 30) : ∀ (k : Nat) (s : Mst), doR ns s (List.replicate (k + 1) n) = doW ns s n
  | 0, s => rfl
  | k + 1, s => by
    show doR ns (doW ns s n) (List.replicate (k + 1) n) = _
    rw [doR_rep ns n h k, doW_twice ns s n h]
end Ms
namespace Ms
/-! ### the deed alone, and whether it is done -/
def rawW (ns : List Int) (s : Mst) (n : Nat) : Mst :=
  if n = 0 then { s with block := -1 }
  else if n = 1 then { s with tick := true }
  else if n = 2 then { s with block := if s.tick = true then s.block + 1 else s.block, tick := false }
  else if n = 3 then { s with flag := true }
  else if n < 20 then flagW s n ns
  else bareW s n
def mayB (s : Mst) (n : Nat) : Bool := !s.isd && (decide (n < 3) || decide (s.block = s.room)) && (!(decide (4 ≤ n) && decide (n ≤ 19)) || s.flag)
def mayS (s : Mst) (n : Nat) : Mst := if (!s.isd && decide (s.block = s.room) && (decide (4 ≤ n) && decide (n ≤ 19))) = true then { s with flag := false } else s
theorem doW_may (ns : List Int) (s : Mst) (n : Nat) : doW ns s n = if mayB s n = true then rawW ns (mayS s n) n else mayS s n := by
  have eta : s.flag = false → { s with flag := false } = s := fun h => by
    cases s
    cases h
    rfl
  unfold doW mayB mayS
  by_cases hd : s.isd = true
  · simp [hd]
  have hd : s.isd = false := by simpa using hd
  by_cases h0 : n = 0
  · subst h0; simp [hd, rawW]
  by_cases h1 : n = 1
  · subst h1; simp [hd, rawW]
  by_cases h2 : n = 2
  · subst h2; simp [hd, rawW]
  by_cases hb : s.block = s.room
  · by_cases h3 : n = 3
    · subst h3; simp [hd, hb, rawW]
    · by_cases h4 : n < 20
      · have h4' : 4 ≤ n := by omega
        have h5' : n ≤ 19 := by omega
        cases hf : s.flag with
        | true => simp [hd, h0, h1, h2, hb, h3, h4, h4', h5', rawW, hf]
        | false =>
          have e := eta hf
          have e2 : s = { block := s.room, room := s.room, tick := s.tick, flag := false, test := s.test, mode := s.mode, first := s.first, second := s.second, cells := s.cells, heard := s.heard, said := s.said, isd := false } := by
            cases s
            cases hb
            cases hd
            cases hf
            rfl
          simp only [hd, h0, h1, h2, hb, h3, h4, h4', h5', hf, Bool.false_eq_true, if_false, ne_eq, not_true_eq_false, if_true, Bool.not_false, decide_true, Bool.true_and, Bool.and_self, Bool.not_true, Bool.or_false, Bool.or_true, Bool.and_false, Bool.or_self]
          exact e2
      · have h5' : ¬ n ≤ 19 := by omega
        simp [hd, h0, h1, h2, hb, h3, h4, h5', rawW]
  · have h3 : ¬ n < 3 := by omega
    simp [hd, h0, h1, h2, hb, h3]
/-! ### how great numbers come to be -/
def Bi (b : Nat) (i : Int) : Prop := i.natAbs < 2 ^ b
theorem Bi.mono {a b : Nat} {i : Int} (h : Bi a i) (l : a ≤ b) : Bi b i := Nat.lt_of_lt_of_le h (Nat.pow_le_pow_right (by decide) l)
theorem Bi.add {a : Nat} {i j : Int} (h : Bi a i) (k : Bi a j) : Bi (a + 1) (i + j) := by
  unfold Bi at *
  rw [Nat.pow_succ]
  omega
theorem Bi.sub {a : Nat} {i j : Int} (h : Bi a i) (k : Bi a j) : Bi (a + 1) (i - j) := by
  unfold Bi at *
  rw [Nat.pow_succ]
  omega
theorem Bi.mul {a b : Nat} {i j : Int} (h : Bi a i) (k : Bi b j) : Bi (a + b) (i * j) := by
  unfold Bi at *
  rw [Int.natAbs_mul, Nat.pow_add]
  exact Nat.mul_lt_mul'' h k
theorem Bi.div {a : Nat} {i j : Int} (h : Bi a i) (hj : j ≠ 0) : Bi (a + 1) (i.fdiv j) := by
  unfold Bi at *
  rw [Nat.pow_succ]
  have : (i.fdiv j).natAbs ≤ i.natAbs + 1 := by
    have h1 := Int.natAbs_fdiv_le_natAbs i j
    omega
  have : 0 < 2 ^ a := Nat.pow_pos (by decide)
  omega
theorem Bi.eight {a : Nat} {i : Int} {d : Nat} (h : Bi a i) (hd : d < 8) : Bi (a + 3) (8 * i + d) := by
  unfold Bi at *
  rw [Nat.pow_add]
  show _ < 2 ^ a * 8
  omega
structure Bd (b : Nat) (s : Mst) : Prop where
  block : Bi b s.block
  room : Bi b s.room
  first : Bi b s.first
  second : Bi b s.second
  cells : ∀ c, Bi b (s.cells c)
  keys : ∀ c, s.cells c ≠ 0 → Bi b c
  said : ∀ i ∈ s.said, Bi b i
  mode : 0 ≤ s.mode ∧ s.mode ≤ 2
  heard : s.heard ≤ 100000
  low : -1 ≤ s.block
theorem Bd.mono {a b : Nat} {s : Mst} (h : Bd a s) (l : a ≤ b) : Bd b s :=
  ⟨h.block.mono l, h.room.mono l, h.first.mono l, h.second.mono l, fun c => (h.cells c).mono l, fun c z => (h.keys c z).mono l, fun i m => (h.said i m).mono l, h.mode, h.heard, h.low⟩
def grow (n b : Nat) : Nat := if n = 6 then 2 * b else b + 3
theorem bi_getD {b : Nat} {ns : List Int} (hn : ∀ i ∈ ns, Bi b i) (k : Nat) : Bi b (ns.getD k 0) := by
  rw [List.getD_eq_getElem?_getD]
  cases h : ns[k]? with
  | none => exact Nat.pow_pos (by decide)
  | some i => exact hn i (List.mem_of_getElem? h)
theorem bd_flag {b : Nat} {s : Mst} {n : Nat} {ns : List Int} (h : Bd b s) (hb : 3 ≤ b) (hn : ∀ i ∈ ns, Bi b i) (hl : ns.length ≤ 100000) (h4 : 4 ≤ n) (h20 : n < 20) : Bd (grow n b) (flagW s n ns) := by
  have z : Bi b 0 := Nat.pow_pos (by decide)
  have g : b ≤ grow n b := by unfold grow; split <;> omega
  have hg := h.mono g
  unfold flagW
  split
  · exact { hg with first := (h.first.add h.second).mono (by unfold grow; split <;> omega) }
  split
  · exact { hg with first := (h.first.sub h.second).mono (by unfold grow; split <;> omega) }
  split
  · rename_i e
    exact { hg with first := (h.first.mul h.second).mono (by unfold grow; rw [if_pos e]; omega) }
  split
  · refine { hg with first := ?_ }
    show Bi _ (if s.second = 0 then 0 else s.first.fdiv s.second)
    split
    · exact z.mono g
    · rename_i e
      exact (h.first.div e).mono (by unfold grow; split <;> omega)
  split
  · exact { hg with first := hg.second, second := hg.first }
  split
  · refine { hg with first := ?_, heard := ?_ }
    · show Bi _ (if s.heard < ns.length then ns.getD s.heard 0 else 0)
      split
      · exact (bi_getD hn _).mono g
      · exact z.mono g
    · show (if s.heard < ns.length then s.heard + 1 else s.heard) ≤ 100000
      split
      · omega
      · exact h.heard
  split
  · refine { hg with said := fun i m => ?_ }
    rcases List.mem_append.mp m with m | m
    · exact hg.said i m
    · rw [List.mem_singleton.mp m]
      exact hg.first
  split
  · exact { hg with first := hg.cells _ }
  · refine { hg with first := ?_ }
    obtain ⟨d, rfl⟩ : ∃ d, n = 12 + d := ⟨n - 12, by omega⟩
    have e : 8 * s.first + ((12 + d : Nat) : Int) - 12 = 8 * s.first + (d : Int) := by omega
    show Bi _ (8 * s.first + ((12 + d : Nat) : Int) - 12)
    rw [e]
    exact (h.first.eight (by omega)).mono (by unfold grow; split <;> omega)
theorem bd_bare {b : Nat} {s : Mst} {n : Nat} (h : Bd b s) (h20 : 20 ≤ n) : Bd b (bareW s n) := by
  have z : Bi b 0 := Nat.pow_pos (by decide)
  unfold bareW
  split
  · exact { h with first := z }
  split
  · exact { h with second := h.first }
  split
  · refine { h with cells := fun c => ?_, keys := fun c => ?_ }
    · show Bi b (putC s.cells s.second s.first c)
      unfold putC
      split
      · exact h.first
      · exact h.cells c
    · show putC s.cells s.second s.first c ≠ 0 → Bi b c
      unfold putC
      split
      · rename_i e
        exact fun _ => e ▸ h.second
      · exact h.keys c
  split
  · exact { h with }
  split
  · exact { h with }
  split
  · exact { h with mode := by show 0 ≤ (n : Int) - 25 ∧ (n : Int) - 25 ≤ 2; omega }
  split
  · exact { h with }
  · refine { h with room := ?_ }
    show Bi b (if _ then s.first else s.room)
    split
    · exact h.first
    · exact h.room
end Ms
namespace Ms
theorem bd_do {b : Nat} {s : Mst} {n : Nat} {ns : List Int} (h : Bd b s) (hb : 3 ≤ b) (hn : ∀ i ∈ ns, Bi b i) (hl : ns.length ≤ 100000) : Bd (grow n b) (doW ns s n) := by
  have g : b ≤ grow n b := by unfold grow; split <;> omega
  have hg := h.mono g
  have one : Bi (grow n b) (-1) := by
    unfold Bi
    exact Nat.lt_of_lt_of_le (show (-1 : Int).natAbs < 2 ^ 3 by decide) (Nat.pow_le_pow_right (by decide) (by omega))
  unfold doW
  split
  · exact hg
  split
  · exact { hg with block := one, low := Int.le_refl _ }
  split
  · exact { hg with }
  split
  · refine { hg with block := ?_, low := ?_ }
    · show Bi _ (if s.tick = true then s.block + 1 else s.block)
      split
      · exact (h.block.add (j := 1) (Nat.lt_of_lt_of_le (show (1 : Int).natAbs < 2 ^ 3 by decide) (Nat.pow_le_pow_right (by decide) hb))).mono (by unfold grow; split <;> omega)
      · exact hg.block
    · show -1 ≤ (if s.tick = true then s.block + 1 else s.block)
      have := h.low
      split <;> omega
  split
  · exact hg
  split
  · exact { hg with }
  split
  · split
    · exact bd_flag (s := { s with flag := false }) { h with } hb hn hl (by omega) (by assumption)
    · exact hg
  · exact (bd_bare h (by omega)).mono g
/-- a row without multiply, and one with one at most -/
def lastB : List Nat → Nat → Nat
  | [], b => b
  | n :: r, b => lastB r (grow n b)
theorem lastB_mono : ∀ (r : List Nat) (b : Nat), b ≤ lastB r b
  | [], b => Nat.le_refl _
  | n :: r, b => Nat.le_trans (by unfold grow; split <;> omega) (lastB_mono r (grow n b))
theorem bd_row {ns : List Int} (hl : ns.length ≤ 100000) : ∀ (r : List Nat) (b : Nat) (s : Mst), Bd b s → 3 ≤ b → (∀ i ∈ ns, Bi b i) → ∀ k, Bd (lastB r b) (doR ns s (r.take k))
  | [], b, s, h, hb, hn, k => by rw [List.take_nil]; exact h
  | n :: r, b, s, h, hb, hn, 0 => h.mono (lastB_mono (n :: r) b)
  | n :: r, b, s, h, hb, hn, k + 1 => by
    have g : b ≤ grow n b := by unfold grow; split <;> omega
    exact bd_row hl r (grow n b) (doW ns s n) (bd_do h hb hn hl) (by omega) (fun i m => (hn i m).mono g) k
theorem lastB_none : ∀ (r : List Nat) (b : Nat), 6 ∉ r → lastB r b = b + 3 * r.length
  | [], b, _ => by simp [lastB]
  | n :: r, b, h => by
    have h1 : n ≠ 6 := fun e => h (by rw [e]; exact List.mem_cons_self)
    show lastB r (grow n b) = _
    rw [lastB_none r _ fun m => h (List.mem_cons_of_mem _ m)]
    unfold grow
    rw [if_neg h1, List.length_cons]
    omega
theorem lastB_one : ∀ (r : List Nat) (b : Nat), r.count 6 ≤ 1 → lastB r b ≤ 2 * (b + 3 * r.length)
  | [], b, _ => by simp [lastB]; omega
  | n :: r, b, h => by
    show lastB r (grow n b) ≤ _
    by_cases h1 : n = 6
    · subst h1
      have h6 : 6 ∉ r := by
        rw [List.count_cons_self] at h
        exact List.count_eq_zero.mp (by omega)
      rw [lastB_none r _ h6]
      unfold grow
      rw [if_pos rfl, List.length_cons]
      omega
    · rw [List.count_cons_of_ne h1] at h
      have := lastB_one r (grow n b) h
      unfold grow at this ⊢
      rw [if_neg h1] at this ⊢
      rw [List.length_cons]
      omega
/-! ### cells -/
def lkp : List (Int × Int) → Int → Option Int
  | [], _ => none
  | p :: r, c => if p.1 = c then some p.2 else lkp r c
theorem lkp_none : ∀ {es : List (Int × Int)} {c : Int}, lkp es c = none ↔ c ∉ es.map (·.1)
  | [], c => by simp [lkp]
  | p :: r, c => by
    unfold lkp
    by_cases e : p.1 = c
    · simp [e]
    · rw [if_neg e, lkp_none]
      simp only [List.map_cons, List.mem_cons, not_or]
      exact ⟨fun h => ⟨fun z => e z.symm, h⟩, fun h => h.2⟩
theorem lkp_mem : ∀ {es : List (Int × Int)} {c v : Int}, (es.map (·.1)).Nodup → (lkp es c = some v ↔ (c, v) ∈ es)
  | [], c, v, _ => by simp [lkp]
  | p :: r, c, v, nd => by
    have nd' := List.nodup_cons.mp nd
    unfold lkp
    by_cases e : p.1 = c
    · rw [if_pos e]
      constructor
      · intro h
        cases h
        subst e
        exact List.mem_cons_self
      · intro h
        rcases List.mem_cons.mp h with h | h
        · rw [← h]
        · exact absurd (List.mem_map.mpr ⟨_, h, rfl⟩) (by rw [← e]; exact nd'.1)
    · rw [if_neg e, lkp_mem nd'.2]
      constructor
      · exact fun h => List.mem_cons_of_mem _ h
      · intro h
        rcases List.mem_cons.mp h with h | h
        · exact absurd (by rw [← h]) e
        · exact h
def putI (es : List (Int × Int)) (c v : Int) : List (Int × Int) := if (lkp es c).isSome = true then es.map (fun p => if p.1 = c then (p.1, v) else p) else es ++ [(c, v)]
theorem map_keys (es : List (Int × Int)) (c v : Int) : (es.map (fun p => if p.1 = c then (p.1, v) else p)).map (·.1) = es.map (·.1) := by
  rw [List.map_map]
  refine List.map_congr_left fun p _ => ?_
  show (if p.1 = c then (p.1, v) else p).1 = p.1
  split <;> rfl
theorem putI_nodup {es : List (Int × Int)} {c v : Int} (nd : (es.map (·.1)).Nodup) : ((putI es c v).map (·.1)).Nodup := by
  unfold putI
  split
  · rw [map_keys]; exact nd
  · rename_i h
    have hn : lkp es c = none := by cases hh : lkp es c with
      | none => rfl
      | some _ => rw [hh] at h; exact absurd rfl h
    rw [List.map_append]
    refine List.nodup_append.mpr ⟨nd, by simp, fun a ha b hb => ?_⟩
    rw [List.mem_singleton.mp hb]
    intro e
    rw [e] at ha
    exact lkp_none.mp hn ha
theorem lkp_map (c v d : Int) : ∀ es : List (Int × Int), lkp (es.map (fun p => if p.1 = c then (p.1, v) else p)) d = if d = c then (lkp es d).map (fun _ => v) else lkp es d
  | [] => by simp [lkp]
  | p :: r => by
    have ih := lkp_map c v d r
    rw [List.map_cons]
    unfold lkp
    by_cases e : p.1 = c
    · rw [if_pos e]
      show (if p.1 = d then some v else lkp _ d) = _
      by_cases e2 : p.1 = d
      · rw [if_pos e2, if_pos e2, if_pos (e2.symm.trans e)]
        rfl
      · rw [if_neg e2, if_neg e2]
        exact ih
    · rw [if_neg e]
      by_cases e2 : p.1 = d
      · rw [if_pos e2, if_pos e2, if_neg (fun z => e (e2.trans z))]
      · rw [if_neg e2, if_neg e2]
        exact ih
theorem lkp_app (c v d : Int) : ∀ es : List (Int × Int), lkp es c = none → lkp (es ++ [(c, v)]) d = if d = c then some v else lkp es d
  | [], _ => by
    show (if c = d then some v else none) = _
    by_cases e : c = d
    · rw [if_pos e, if_pos e.symm]
    · rw [if_neg e, if_neg (fun z => e z.symm)]
      rfl
  | p :: r, h => by
    unfold lkp at h
    by_cases e : p.1 = c
    · rw [if_pos e] at h
      cases h
    · rw [if_neg e] at h
      have ih := lkp_app c v d r h
      show (if p.1 = d then some p.2 else lkp (r ++ [(c, v)]) d) = if d = c then some v else (if p.1 = d then some p.2 else lkp r d)
      rw [ih]
      by_cases e2 : p.1 = d
      · rw [if_pos e2, if_pos e2, if_neg (fun z => e (e2.trans z))]
      · rw [if_neg e2, if_neg e2]
theorem lkp_put (es : List (Int × Int)) (c v d : Int) : lkp (putI es c v) d = if d = c then some v else lkp es d := by
  unfold putI
  split
  · rename_i h
    rw [lkp_map]
    by_cases e : d = c
    · rw [if_pos e, if_pos e, e]
      cases hh : lkp es c with
      | none => rw [hh] at h; cases h
      | some _ => rfl
    · rw [if_neg e, if_neg e]
  · rename_i h
    refine lkp_app c v d es ?_
    cases hh : lkp es c with
    | none => rfl
    | some _ => rw [hh] at h; exact absurd rfl h
theorem putI_len (es : List (Int × Int)) (c v : Int) : (putI es c v).length ≤ es.length + 1 := by
  unfold putI
  split
  · rw [List.length_map]; omega
  · rw [List.length_append]; exact Nat.le_refl _
def dropI (es : List (Int × Int)) (c : Int) : List (Int × Int) := es.filter fun p => decide (p.1 ≠ c)
theorem lkp_drop (c d : Int) : ∀ es : List (Int × Int), lkp (dropI es c) d = if d = c then none else lkp es d
  | [] => by simp [lkp, dropI]
  | p :: r => by
    have ih := lkp_drop c d r
    unfold dropI at ih ⊢
    by_cases e : p.1 = c
    · rw [List.filter_cons_of_neg (by simp [e]), ih]
      by_cases e2 : d = c
      · rw [if_pos e2, if_pos e2]
      · rw [if_neg e2, if_neg e2]
        unfold lkp
        rw [if_neg (fun z => e2 (z.symm.trans e))]
        cases r <;> rfl
    · rw [List.filter_cons_of_pos (by simp [e])]
      show (if p.1 = d then some p.2 else lkp (r.filter fun p => decide (p.1 ≠ c)) d) = if d = c then none else (if p.1 = d then some p.2 else lkp r d)
      rw [ih]
      by_cases e2 : p.1 = d
      · rw [if_pos e2, if_pos e2, if_neg (fun z => e (e2.trans z))]
      · rw [if_neg e2, if_neg e2]
theorem dropI_nodup {es : List (Int × Int)} {c : Int} (nd : (es.map (·.1)).Nodup) : ((dropI es c).map (·.1)).Nodup :=
  List.Sublist.nodup (List.Sublist.map _ (List.filter_sublist ..)) nd
/-- cells as the law keeps them, and as a work keeps them -/
structure CellsL (es : List (Int × Int)) (f : Int → Int) : Prop where
  nd : (es.map (·.1)).Nodup
  at_ : ∀ c, (lkp es c).getD 0 = f c
structure CellsW (es : List (Int × Int)) (f : Int → Int) : Prop where
  nd : (es.map (·.1)).Nodup
  no : ∀ p ∈ es, p.2 ≠ 0
  at_ : ∀ c, (lkp es c).getD 0 = f c
theorem CellsL.put {es : List (Int × Int)} {f : Int → Int} (h : CellsL es f) (c v : Int) : CellsL (putI es c v) (putC f c v) := by
  refine ⟨putI_nodup h.nd, fun d => ?_⟩
  rw [lkp_put]
  unfold putC
  split
  · rfl
  · exact h.at_ d
theorem CellsW.put {es : List (Int × Int)} {f : Int → Int} (h : CellsW es f) (c : Int) {v : Int} (hv : v ≠ 0) : CellsW (putI es c v) (putC f c v) := by
  have h2 := (CellsL.put ⟨h.nd, h.at_⟩ c v)
  refine ⟨h2.nd, fun p hp => ?_, h2.at_⟩
  obtain ⟨a, b⟩ := p
  have := (lkp_mem h2.nd).mpr hp
  rw [lkp_put] at this
  split at this
  · cases this
    exact hv
  · exact h.no _ ((lkp_mem h.nd).mp this)
theorem CellsW.drop {es : List (Int × Int)} {f : Int → Int} (h : CellsW es f) (c : Int) : CellsW (dropI es c) (putC f c 0) := by
  refine ⟨dropI_nodup h.nd, fun p hp => h.no p (List.mem_filter.mp hp).1, fun d => ?_⟩
  rw [lkp_drop]
  unfold putC
  split
  · rfl
  · exact h.at_ d
theorem CellsW.skip {es : List (Int × Int)} {f : Int → Int} (h : CellsW es f) {c : Int} (hc : lkp es c = none) : CellsW es (putC f c 0) := by
  refine ⟨h.nd, h.no, fun d => ?_⟩
  unfold putC
  split
  · rename_i e
    rw [e, hc]
    rfl
  · exact h.at_ d
/-- cells, ascending -/
structure IsC (l : List (Int × Int)) (f : Int → Int) : Prop where
  up : l.Pairwise fun p q => p.1 < q.1
  mem : ∀ c v, (c, v) ∈ l ↔ f c = v ∧ v ≠ 0
theorem isC_uniq {f : Int → Int} : ∀ {l m : List (Int × Int)}, l.Pairwise (fun p q => p.1 < q.1) → m.Pairwise (fun p q => p.1 < q.1) → (∀ p, p ∈ l ↔ p ∈ m) → l = m
  | [], [], _, _, _ => rfl
  | [], q :: m, _, _, h => absurd ((h q).mpr List.mem_cons_self) (by simp)
  | p :: l, [], _, _, h => absurd ((h p).mp List.mem_cons_self) (by simp)
  | p :: l, q :: m, hl, hm, h => by
    have hl' := List.pairwise_cons.mp hl
    have hm' := List.pairwise_cons.mp hm
    have e : p = q := by
      rcases List.mem_cons.mp ((h p).mp List.mem_cons_self) with e | h1
      · exact e
      · rcases List.mem_cons.mp ((h q).mpr List.mem_cons_self) with e | h2
        · exact e.symm
        · have a := hm'.1 _ h1
          have b := hl'.1 _ h2
          omega
    subst e
    rw [isC_uniq (f := f) hl'.2 hm'.2 fun x => ?_]
    constructor
    · intro hx
      rcases List.mem_cons.mp ((h x).mp (List.mem_cons_of_mem _ hx)) with e | h1
      · have := hl'.1 _ hx
        rw [e] at this
        omega
      · exact h1
    · intro hx
      rcases List.mem_cons.mp ((h x).mpr (List.mem_cons_of_mem _ hx)) with e | h1
      · have := hm'.1 _ hx
        rw [e] at this
        omega
      · exact h1
theorem IsC.uniq {l m : List (Int × Int)} {f : Int → Int} (h : IsC l f) (k : IsC m f) : l = m := isC_uniq (f := f) h.up k.up fun p => (h.mem p.1 p.2).trans (k.mem p.1 p.2).symm
theorem CellsL.mem {es : List (Int × Int)} {f : Int → Int} (h : CellsL es f) (c v : Int) : (c, v) ∈ es.filter (fun p => decide (p.2 ≠ 0)) ↔ f c = v ∧ v ≠ 0 := by
  rw [List.mem_filter, ← lkp_mem h.nd, ← h.at_]
  simp only [decide_eq_true_eq]
  constructor
  · rintro ⟨h1, h2⟩
    rw [h1]
    exact ⟨rfl, h2⟩
  · rintro ⟨h1, h2⟩
    refine ⟨?_, h2⟩
    cases hh : lkp es c with
    | none => rw [hh] at h1; exact absurd h1.symm h2
    | some w =>
      rw [hh] at h1
      exact congrArg some h1
theorem CellsW.mem {es : List (Int × Int)} {f : Int → Int} (h : CellsW es f) (c v : Int) : (c, v) ∈ es ↔ f c = v ∧ v ≠ 0 := by
  have h1 := CellsL.mem ⟨h.nd, h.at_⟩ c v
  rw [← h1, List.mem_filter]
  simp only [decide_eq_true_eq]
  exact ⟨fun m => ⟨m, h.no _ m⟩, fun m => m.1⟩
/-- what is sorted of unlike keys ascends -/
theorem isC_of {l es : List (Int × Int)} {f : Int → Int} (hp : l.Perm es) (nd : (es.map (·.1)).Nodup) (hm : ∀ c v, (c, v) ∈ es ↔ f c = v ∧ v ≠ 0) (hs : l.Pairwise fun p q => p.1 ≤ q.1) : IsC l f := by
  refine ⟨?_, fun c v => (hp.mem_iff).trans (hm c v)⟩
  have nd2 : (l.map (·.1)).Nodup := (hp.map _).nodup_iff.mpr nd
  have nd3 := List.pairwise_map.mp nd2
  exact (hs.and nd3).imp fun h => by omega
end Ms
namespace Kx
open PySem PySem.Spec PyProof.Rows L2 SX LamX Ms
/-! ### // of great ints, any sign -/
def CDivA (_ j : Int) : Prop := j ≠ 0 ∧ j.natAbs.log2 < 9000
theorem op_fdivA {X : Cx} : OpR X (binaryOp .FloorDiv) (rI CDivA fun i j => .int (i.fdiv j)) := opI fun i j _ _ _ _ _ hc q => by
  exact floordiv_int hc.1 q (.inl (PyProof.noPylong_of_log2 hc.2))
theorem log_lt {b k : Nat} {i : Int} (h : Bi b i) (hb : b ≤ k) (hk : 0 < k) : i.natAbs.log2 < k := by
  by_cases z : i.natAbs = 0
  · rw [z]
    exact Nat.lt_of_le_of_lt (show Nat.log2 0 ≤ 0 by decide) hk
  · exact (Nat.log2_lt z).mpr (h.mono hb)
theorem cdivA {b : Nat} {i j : Int} (h : Bi b j) (hj : j ≠ 0) (hb : b ≤ 8000) : CDivA i j := ⟨hj, log_lt h (by omega : b ≤ 9000) (by decide)⟩
theorem cmulW {b : Nat} {i j : Int} (h : Bi b i) (k : Bi b j) (hb : b ≤ 8000) : CMulW i j := by
  have x := log_lt h (by omega : b ≤ 9000) (by decide)
  have y := log_lt k (by omega : b ≤ 9000) (by decide)
  unfold CMulW
  omega
/-! ### cells as dicts -/
def kvI (es : List (Int × Int)) : List (Key × V) := es.map fun p => (Sum.inl p.1, V.int p.2)
theorem valV_kvI (c : Int) : ∀ es : List (Int × Int), valV (kvI es) (Sum.inl c) = (lkp es c).map V.int
  | [] => rfl
  | p :: r => by
    have ih := valV_kvI c r
    by_cases e : p.1 = c
    · have e1 : valV (kvI (p :: r)) (Sum.inl c) = some (V.int p.2) := valV_pos (p := ((Sum.inl p.1 : Key), V.int p.2)) (by rw [e])
      rw [e1]
      show _ = (if p.1 = c then some p.2 else lkp r c).map V.int
      rw [if_pos e]
      rfl
    · have e1 : valV (kvI (p :: r)) (Sum.inl c) = valV (kvI r) (Sum.inl c) := valV_neg (p := ((Sum.inl p.1 : Key), V.int p.2)) (fun z => e (Sum.inl.inj z))
      rw [e1, ih]
      show _ = (if p.1 = c then some p.2 else lkp r c).map V.int
      rw [if_neg e]
theorem putK_kvI (es : List (Int × Int)) (c v : Int) : putK (kvI es) (Sum.inl c) (V.int v) = kvI (putI es c v) := by
  unfold putK putI
  rw [valV_any, valV_kvI]
  cases h : lkp es c with
  | none =>
    show (kvI es ++ [(Sum.inl c, V.int v)]) = kvI (es ++ [(c, v)])
    unfold kvI
    rw [List.map_append]
    rfl
  | some w =>
    show (kvI es).map _ = kvI (es.map _)
    unfold kvI
    rw [List.map_map, List.map_map]
    refine List.map_congr_left fun p _ => ?_
    show (if (Sum.inl p.1 : Key) = Sum.inl c then ((Sum.inl p.1 : Key), V.int v) else (Sum.inl p.1, V.int p.2)) = _
    by_cases e : p.1 = c
    · rw [if_pos (by rw [e])]
      show _ = (Sum.inl (if p.1 = c then (p.1, v) else p).1, V.int (if p.1 = c then (p.1, v) else p).2)
      rw [if_pos e]
    · rw [if_neg (fun z => e (Sum.inl.inj z))]
      show _ = (Sum.inl (if p.1 = c then (p.1, v) else p).1, V.int (if p.1 = c then (p.1, v) else p).2)
      rw [if_neg e]
theorem dropK_kvI (es : List (Int × Int)) (c : Int) : dropK (kvI es) (Sum.inl c) = kvI (dropI es c) := by
  unfold dropK dropI kvI
  rw [List.filter_map]
  congr 1
  refine List.filter_congr fun p _ => ?_
  show decide ((Sum.inl p.1 : Key) ≠ Sum.inl c) = decide (p.1 ≠ c)
  simp
theorem kvI_len (es : List (Int × Int)) : (kvI es).length = es.length := List.length_map ..
/-! ### the law's stand, a dict -/
def liveK (s : Mst) (pc ps : Addr) : List (Key × V) := [(.inr "block", .int s.block), (.inr "room", .int s.room), (.inr "tick", .bl s.tick), (.inr "flag", .bl s.flag), (.inr "test", .bl s.test), (.inr "mode", .int s.mode),
  (.inr "first", .int s.first), (.inr "second", .int s.second), (.inr "cells", .ref pc), (.inr "heard", .int (s.heard : Nat)), (.inr "said", .ref ps), (.inr "done", .bl s.isd)]
theorem lv_block {s : Mst} {pc ps : Addr} : valV (liveK s pc ps) (.inr "block") = some (.int s.block) := rfl
theorem lv_room {s : Mst} {pc ps : Addr} : valV (liveK s pc ps) (.inr "room") = some (.int s.room) := rfl
theorem lv_tick {s : Mst} {pc ps : Addr} : valV (liveK s pc ps) (.inr "tick") = some (.bl s.tick) := rfl
theorem lv_flag {s : Mst} {pc ps : Addr} : valV (liveK s pc ps) (.inr "flag") = some (.bl s.flag) := rfl
theorem lv_test {s : Mst} {pc ps : Addr} : valV (liveK s pc ps) (.inr "test") = some (.bl s.test) := rfl
theorem lv_mode {s : Mst} {pc ps : Addr} : valV (liveK s pc ps) (.inr "mode") = some (.int s.mode) := rfl
theorem lv_first {s : Mst} {pc ps : Addr} : valV (liveK s pc ps) (.inr "first") = some (.int s.first) := rfl
theorem lv_second {s : Mst} {pc ps : Addr} : valV (liveK s pc ps) (.inr "second") = some (.int s.second) := rfl
theorem lv_cells {s : Mst} {pc ps : Addr} : valV (liveK s pc ps) (.inr "cells") = some (.ref pc) := rfl
theorem lv_heard {s : Mst} {pc ps : Addr} : valV (liveK s pc ps) (.inr "heard") = some (.int (s.heard : Nat)) := rfl
theorem lv_said {s : Mst} {pc ps : Addr} : valV (liveK s pc ps) (.inr "said") = some (.ref ps) := rfl
theorem lv_done {s : Mst} {pc ps : Addr} : valV (liveK s pc ps) (.inr "done") = some (.bl s.isd) := rfl
theorem lp_block {s : Mst} {pc ps : Addr} (i : Int) : putK (liveK s pc ps) (.inr "block") (.int i) = liveK { s with block := i } pc ps := rfl
theorem lp_room {s : Mst} {pc ps : Addr} (i : Int) : putK (liveK s pc ps) (.inr "room") (.int i) = liveK { s with room := i } pc ps := rfl
theorem lp_tick {s : Mst} {pc ps : Addr} (i : Bool) : putK (liveK s pc ps) (.inr "tick") (.bl i) = liveK { s with tick := i } pc ps := rfl
theorem lp_flag {s : Mst} {pc ps : Addr} (i : Bool) : putK (liveK s pc ps) (.inr "flag") (.bl i) = liveK { s with flag := i } pc ps := rfl
theorem lp_test {s : Mst} {pc ps : Addr} (i : Bool) : putK (liveK s pc ps) (.inr "test") (.bl i) = liveK { s with test := i } pc ps := rfl
theorem lp_mode {s : Mst} {pc ps : Addr} (i : Int) : putK (liveK s pc ps) (.inr "mode") (.int i) = liveK { s with mode := i } pc ps := rfl
theorem lp_first {s : Mst} {pc ps : Addr} (i : Int) : putK (liveK s pc ps) (.inr "first") (.int i) = liveK { s with first := i } pc ps := rfl
theorem lp_second {s : Mst} {pc ps : Addr} (i : Int) : putK (liveK s pc ps) (.inr "second") (.int i) = liveK { s with second := i } pc ps := rfl
theorem lp_heard {s : Mst} {pc ps : Addr} (i : Nat) : putK (liveK s pc ps) (.inr "heard") (.int (i : Nat)) = liveK { s with heard := i } pc ps := rfl
theorem lp_said {s : Mst} {pc ps : Addr} (q : Addr) (l : List Int) : putK (liveK s pc ps) (.inr "said") (.ref q) = liveK { s with said := l } pc q := rfl
theorem lp_cells {s : Mst} {pc ps : Addr} (q : Addr) : putK (liveK s pc ps) (.inr "cells") (.ref q) = liveK s q ps := rfl
theorem lp_done {s : Mst} {pc ps : Addr} (i : Bool) : putK (liveK s pc ps) (.inr "done") (.bl i) = liveK { s with isd := i } pc ps := rfl
structure LiveAt (H : Hp) (L pc : Addr) (s : Mst) (m : Nat) (ps : Addr) (es : List (Int × Int)) : Prop where
  at_ : H L = some (.dK (liveK s pc ps))
  cat : H pc = some (.dK (kvI es))
  cl : CellsL es s.cells
  sat : H ps = some (.lst (s.said.map V.int))
  cn : es.length ≤ m
  sn : s.said.length ≤ m
  ne : L ≠ pc
/-- all but the dicts at L and pc stays -/
def Mv2 (L pc : Addr) (H H' : Hp) : Prop := ∀ b o, b ≠ L → b ≠ pc → H b = some o → H' b = some o
theorem Mv2.refl (L pc : Addr) (H : Hp) : Mv2 L pc H H := fun _ _ _ _ h => h
theorem Mv2.trans {L pc : Addr} {H H1 H2 : Hp} (x : Mv2 L pc H H1) (y : Mv2 L pc H1 H2) : Mv2 L pc H H2 := fun b o n k h => y b o n k (x b o n k h)
theorem Mv2.of {L pc : Addr} {H H1 : Hp} (x : Same H H1) : Mv2 L pc H H1 := fun b o _ _ h => x b o h
theorem Mv2.l {L pc : Addr} {H : Hp} {o : HO} : Mv2 L pc H (upd H L o) := fun b u n _ h => by rw [upd_ne n]; exact h
theorem Mv2.c {L pc : Addr} {H : Hp} {o : HO} : Mv2 L pc H (upd H pc o) := fun b u _ n h => by rw [upd_ne n]; exact h
theorem LiveAt.same {H H' : Hp} {L pc ps : Addr} {s : Mst} {m : Nat} {es : List (Int × Int)} (h : LiveAt H L pc s m ps es) (e : Same H H') : LiveAt H' L pc s m ps es :=
  { h with at_ := e _ _ h.at_, cat := e _ _ h.cat, sat := e _ _ h.sat }
theorem LiveAt.mono {H : Hp} {L pc ps : Addr} {s : Mst} {m n : Nat} {es : List (Int × Int)} (h : LiveAt H L pc s m ps es) (l : m ≤ n) : LiveAt H L pc s n ps es := { h with cn := Nat.le_trans h.cn l, sn := Nat.le_trans h.sn l }
/-- a field of the law's stand is set -/
theorem LiveAt.put {H : Hp} {L pc ps : Addr} {s t : Mst} {m : Nat} {es : List (Int × Int)} {k : Key} {v : V} (h : LiveAt H L pc s m ps es) (e : putK (liveK s pc ps) k v = liveK t pc ps) (hc : t.cells = s.cells) (hs : t.said = s.said) : LiveAt (upd H L (.dK (putK (liveK s pc ps) k v))) L pc t m ps es := by
  refine ⟨by rw [upd_same, e], ?_, by rw [hc]; exact h.cl, ?_, h.cn, by rw [hs]; exact h.sn, h.ne⟩
  · rw [upd_ne h.ne.symm]
    exact h.cat
  · rw [upd_ne (ne_of_two h.sat h.at_ (fun z => by cases z)), hs]
    exact h.sat
theorem live_len {s : Mst} {pc ps : Addr} : (liveK s pc ps).length < sizeLine := by
  show 12 < sizeLine
  decide
theorem LiveAt.get {H : Hp} {L pc ps : Addr} {s : Mst} {m : Nat} {es : List (Int × Int)} {k : Str} {v : V} (h : LiveAt H L pc s m ps es) (e : valV (liveK s pc ps) (.inr k) = some v) : DGet H L (.str k) (some v) := e ▸ DGet.k (k := .inr k) h.at_
/-! ### what a work has -/
def workF (s : Mst) (nl pc ps : Addr) : List (Str × V) := [("numbers", .ref nl), ("block", .int s.block), ("room", .int s.room), ("tick", .bl s.tick), ("flag", .bl s.flag), ("test", .bl s.test), ("mode", .int s.mode),
  ("first", .int s.first), ("second", .int s.second), ("cells", .ref pc), ("heard", .int (s.heard : Nat)), ("said", .ref ps), ("is_done", .bl s.isd)]
/-- a work at w, made behind H0 -/
structure WorkAt (K : PySem.W.Frag) (C : Addr) (H0 H : Hp) (w nl : Addr) (ns : List Int) (s : Mst) (m : Nat) (dx pc ps : Addr) (es : List (Int × Int)) : Prop where
  at_ : H w = some (.ins C dx (workF s nl pc ps))
  cat : H pc = some (.dK (kvI es))
  cl : CellsW es s.cells
  sat : H ps = some (.lst (s.said.map V.int))
  num : SqQ K H0 nl (ns.map V.int)
  cn : es.length ≤ m
  sn : s.said.length ≤ m
  old : Same H0 H
  nw : H0 w = none
  nc : H0 pc = none
  np : H0 ps = none
section
variable {K : PySem.W.Frag} {C w nl dx pc ps : Addr} {H0 H H' : Hp} {ns : List Int} {s t : Mst} {m n : Nat} {es : List (Int × Int)}
theorem WorkAt.nums (h : WorkAt K C H0 H w nl ns s m dx pc ps es) : SqQ K H nl (ns.map V.int) := Same.q h.old h.num
theorem WorkAt.mono (h : WorkAt K C H0 H w nl ns s m dx pc ps es) (l : m ≤ n) : WorkAt K C H0 H w nl ns s n dx pc ps es := { h with cn := Nat.le_trans h.cn l, sn := Nat.le_trans h.sn l }
theorem WorkAt.same (h : WorkAt K C H0 H w nl ns s m dx pc ps es) (e : Same H H') : WorkAt K C H0 H' w nl ns s m dx pc ps es :=
  { h with at_ := e _ _ h.at_, cat := e _ _ h.cat, sat := e _ _ h.sat, old := h.old.trans e }
theorem WorkAt.wp (h : WorkAt K C H0 H w nl ns s m dx pc ps es) : ps ≠ w := ne_of_two h.sat h.at_ (fun z => by cases z)
theorem WorkAt.wc (h : WorkAt K C H0 H w nl ns s m dx pc ps es) : pc ≠ w := ne_of_two h.cat h.at_ (fun z => by cases z)
theorem WorkAt.ppc (h : WorkAt K C H0 H w nl ns s m dx pc ps es) : ps ≠ pc := ne_of_two h.sat h.cat (fun z => by cases z)
/-- a field is set -/
theorem WorkAt.put {fs : List (Str × V)} (h : WorkAt K C H0 H w nl ns s m dx pc ps es) (e : fs = workF t nl pc ps) (hc : t.cells = s.cells) (hs : t.said = s.said) : WorkAt K C H0 (upd H w (.ins C dx fs)) w nl ns t m dx pc ps es := by
  refine ⟨by rw [upd_same, e], ?_, by rw [hc]; exact h.cl, ?_, h.num, h.cn, by rw [hs]; exact h.sn, same_set h.old h.nw, h.nw, h.nc, h.np⟩
  · rw [upd_ne h.wc]
    exact h.cat
  · rw [upd_ne h.wp, hs]
    exact h.sat
/-- the cells are set -/
theorem WorkAt.cell {es' : List (Int × Int)} (h : WorkAt K C H0 H w nl ns s m dx pc ps es) (e : workF t nl pc ps = workF s nl pc ps) (hs : t.said = s.said) (hc : CellsW es' t.cells) (hl : es'.length ≤ m + 1) : WorkAt K C H0 (upd H pc (.dK (kvI es'))) w nl ns t (m + 1) dx pc ps es' := by
  refine ⟨?_, upd_same, hc, ?_, h.num, hl, by rw [hs]; exact Nat.le_succ_of_le h.sn, same_set h.old h.nc, h.nw, h.nc, h.np⟩
  · rw [upd_ne h.wc.symm, e]
    exact h.at_
  · rw [upd_ne h.ppc, hs]
    exact h.sat
/-- one more is said -/
theorem WorkAt.say {i : Int} (h : WorkAt K C H0 H w nl ns s m dx pc ps es) (e : workF t nl pc ps = workF s nl pc ps) (hc : t.cells = s.cells) (hs : t.said = s.said ++ [i]) : WorkAt K C H0 (upd H ps (.lst (s.said.map V.int ++ [V.int i]))) w nl ns t (m + 1) dx pc ps es := by
  refine ⟨?_, ?_, by rw [hc]; exact h.cl, ?_, h.num, Nat.le_succ_of_le h.cn, ?_, same_set h.old h.np, h.nw, h.nc, h.np⟩
  · rw [upd_ne h.wp.symm, e]
    exact h.at_
  · rw [upd_ne h.ppc.symm]
    exact h.cat
  · rw [upd_same, hs, List.map_append]
    rfl
  · rw [hs, List.length_append]
    have := h.sn
    show _ + 1 ≤ _
    omega
end
theorem work_len {s : Mst} {nl pc ps : Addr} : (workF s nl pc ps).length < 1000 := by
  show 13 < 1000
  decide
/-! ### a stand -/
def standF (s : Mst) (t u : Addr) : List (Str × V) := [("block", .int s.block), ("room", .int s.room), ("tick", .bl s.tick), ("flag", .bl s.flag), ("test", .bl s.test), ("mode", .int s.mode),
  ("first", .int s.first), ("second", .int s.second), ("cells", .ref t), ("heard", .int (s.heard : Nat)), ("said", .ref u), ("is_done", .bl s.isd)]
/-- pairs of ints in a tuple -/
def PairsT (K : PySem.W.Frag) (H : Hp) (t : Addr) (l : List (Int × Int)) : Prop := ∃ ps : List Addr, SqT K H t (ps.map V.ref) ∧ Paired (fun (q : Addr) (p : Int × Int) => SqT K H q [.int p.1, .int p.2]) ps l
/-- pairs of ints, lists or tuples -/
def PairsQ (K : PySem.W.Frag) (H : Hp) (t : Addr) (l : List (Int × Int)) : Prop := ∃ ps : List Addr, SqQ K H t (ps.map V.ref) ∧ Paired (fun (q : Addr) (p : Int × Int) => SqQ K H q [.int p.1, .int p.2]) ps l
theorem PairsT.same {K : PySem.W.Frag} {H H' : Hp} {t : Addr} {l : List (Int × Int)} (h : PairsT K H t l) (e : Same H H') : PairsT K H' t l := by
  obtain ⟨ps, h1, h2⟩ := h
  exact ⟨ps, Same.t e h1, Paired.mapP h2 fun _ _ z => Same.t e z⟩
theorem PairsQ.same {K : PySem.W.Frag} {H H' : Hp} {t : Addr} {l : List (Int × Int)} (h : PairsQ K H t l) (e : Same H H') : PairsQ K H' t l := by
  obtain ⟨ps, h1, h2⟩ := h
  exact ⟨ps, Same.q e h1, Paired.mapP h2 fun _ _ z => Same.q e z⟩
structure StandAt (K : PySem.W.Frag) (C : Addr) (H : Hp) (p : Addr) (s : Mst) (l : List (Int × Int)) (dx t u : Addr) : Prop where
  at_ : H p = some (.ins C dx (standF s t u))
  cat : PairsT K H t l
  sat : SqT K H u (s.said.map V.int)
  isC : IsC l s.cells
theorem StandAt.same {K : PySem.W.Frag} {C p dx t u : Addr} {H H' : Hp} {s : Mst} {l : List (Int × Int)} (h : StandAt K C H p s l dx t u) (e : Same H H') : StandAt K C H' p s l dx t u :=
  { h with at_ := e _ _ h.at_, cat := h.cat.same e, sat := Same.t e h.sat }
/-! ### as data -/
def pairD (p : Int × Int) : PyData := .tuple [.int p.1, .int p.2]
def standD (s : Mst) (l : List (Int × Int)) : List PyData := [.int s.block, .int s.room, .bool s.tick, .bool s.flag, .bool s.test, .int s.mode, .int s.first, .int s.second, .tuple (l.map pairD), .int (s.heard : Nat), .tuple (s.said.map PyData.int), .bool s.isd]
/-- data that repr shows, with great numbers -/
structure ShB (k m : Nat) (d : PyData) : Prop where
  sh : d.showable = true
  nd : d.hasDict = false
  dp : d.depth ≤ k
  lv : d.leavesShort 2000 = true
  bk : d.bulk ≤ m
structure ShBA (k m : Nat) (ds : List PyData) : Prop where
  sh : PyData.showableAll ds = true
  nd : PyData.hasDictAll ds = false
  dp : PyData.depthAll ds ≤ k
  lv : PyData.leavesShortAll 2000 ds = true
  bk : PyData.bulkAll ds ≤ m
theorem ShB.up {k l m n : Nat} {d : PyData} (h : ShB k m d) (hk : k ≤ l) (hm : m ≤ n) : ShB l n d := ⟨h.sh, h.nd, Nat.le_trans h.dp hk, h.lv, Nat.le_trans h.bk hm⟩
theorem shB_bool (b : Bool) : ShB 0 0 (.bool b) := ⟨rfl, rfl, Nat.le_refl _, rfl, Nat.le_refl _⟩
theorem shB_int {b : Nat} {i : Int} (h : Bi b i) (hb : b ≤ 1915) : ShB 0 0 (.int i) := by
  have hl := log_lt h (by omega : b ≤ 1920) (by decide)
  refine ⟨?_, rfl, Nat.le_refl _, ?_, Nat.le_refl _⟩
  · simp only [PyData.showable, decide_eq_true_eq]
    exact hl
  · simp only [PyData.leavesShort, decide_eq_true_eq]
    have e := PySem.int_text_length_le (k := 1920) (by decide) hl
    show (Str.ofString (toString i)).length ≤ 2000
    rw [PySem.ofString_length]
    omega
theorem ShBA.nil {k : Nat} : ShBA k 0 [] := ⟨rfl, rfl, Nat.zero_le _, rfl, Nat.le_refl _⟩
theorem ShBA.cons {k m n : Nat} {d : PyData} {ds : List PyData} (h : ShB k m d) (t : ShBA k n ds) : ShBA k (m + 1 + n) (d :: ds) := by
  refine ⟨?_, ?_, ?_, ?_, ?_⟩
  · simp only [PyData.showableAll, h.sh, t.sh, Bool.and_self]
  · simp only [PyData.hasDictAll, h.nd, t.nd, Bool.or_self]
  · simp only [PyData.depthAll]
    exact Nat.max_le.mpr ⟨h.dp, t.dp⟩
  · simp only [PyData.leavesShortAll, h.lv, t.lv, Bool.and_self]
  · simp only [PyData.bulkAll]
    have := h.bk
    have := t.bk
    omega
theorem ShBA.lst {k m : Nat} {ds : List PyData} (h : ShBA k m ds) : ShB (k + 1) m (.list ds) :=
  ⟨by simp only [PyData.showable, h.sh], by simp only [PyData.hasDict, h.nd], by simp only [PyData.depth]; have := h.dp; omega, by simp only [PyData.leavesShort, h.lv], by simp only [PyData.bulk]; exact h.bk⟩
theorem ShBA.tup {k m : Nat} {ds : List PyData} (h : ShBA k m ds) : ShB (k + 1) m (.tuple ds) :=
  ⟨by simp only [PyData.showable, h.sh], by simp only [PyData.hasDict, h.nd], by simp only [PyData.depth]; have := h.dp; omega, by simp only [PyData.leavesShort, h.lv], by simp only [PyData.bulk]; exact h.bk⟩
theorem shBA_all {k w : Nat} {α : Type} {f : α → PyData} : ∀ (l : List α), (∀ x ∈ l, ShB k w (f x)) → ShBA k (l.length * (w + 1)) (l.map f)
  | [], _ => by
    rw [List.length_nil, Nat.zero_mul]
    exact ShBA.nil
  | x :: r, h => by
    have := ShBA.cons (h x List.mem_cons_self) (shBA_all r fun y m => h y (List.mem_cons_of_mem _ m))
    rw [List.length_cons, Nat.succ_mul, Nat.add_comm (r.length * (w + 1))]
    exact this
theorem ShB.len {k m : Nat} {d : PyData} (h : ShB k m d) (hm : m ≤ 8200) : d.shown.length ≤ sizeLine := by
  have h1 := PyData.shown_le_bulk 2000 (by decide) d h.lv
  have h2 := h.bk
  rw [sizeLine_eq]
  have h3 : (2000 + 2) * d.bulk ≤ 2002 * 8200 := Nat.mul_le_mul (by decide) (by omega)
  omega
theorem shB_stand {b : Nat} {s : Mst} {l : List (Int × Int)} (h : Bd b s) (hb : b ≤ 1915) (hC : IsC l s.cells) (hl : l.length ≤ 2000) (hs : s.said.length ≤ 2000) (h20 : 20 ≤ b) : ShB 3 8200 (.list (standD s l)) := by
  have z : ∀ i : Int, Bi b i → ShB 2 0 (.int i) := fun i hi => (shB_int hi hb).up (by decide) (Nat.le_refl _)
  have bo : ∀ i : Bool, ShB 2 0 (.bool i) := fun i => (shB_bool i).up (by decide) (Nat.le_refl _)
  have hm : Bi b s.mode := by
    have := h.mode
    exact Nat.lt_of_lt_of_le (show s.mode.natAbs < 2 ^ 20 by omega) (Nat.pow_le_pow_right (by decide) h20)
  have hh : Bi b (s.heard : Int) := by
    have := h.heard
    exact Nat.lt_of_lt_of_le (show (s.heard : Int).natAbs < 2 ^ 20 by omega) (Nat.pow_le_pow_right (by decide) h20)
  have pc : ∀ p ∈ l, ShB 1 2 (pairD p) := fun p hp => by
    obtain ⟨e1, e2⟩ := (hC.mem p.1 p.2).mp hp
    have k1 : Bi b p.1 := h.keys _ (by rw [e1]; exact e2)
    have k2 : Bi b p.2 := e1 ▸ h.cells p.1
    exact (ShBA.cons (shB_int k1 hb) (ShBA.cons (shB_int k2 hb) ShBA.nil)).tup
  have hc := (shBA_all l pc).tup
  have hs' := (shBA_all (w := 0) (f := PyData.int) s.said fun i hi => shB_int (h.said i hi) hb).tup.up (show 0 + 1 ≤ 2 by decide) (Nat.le_refl _)
  have all := (ShBA.cons (z _ h.block) <| ShBA.cons (z _ h.room) <| ShBA.cons (bo s.tick) <| ShBA.cons (bo s.flag) <| ShBA.cons (bo s.test) <| ShBA.cons (z _ hm) <| ShBA.cons (z _ h.first) <| ShBA.cons (z _ h.second) <|
    ShBA.cons hc <| ShBA.cons (z _ hh) <| ShBA.cons hs' <| ShBA.cons (bo s.isd) ShBA.nil).lst
  refine all.up (Nat.le_refl _) ?_
  omega
end Kx
namespace Ms
def startM : Mst := ⟨-1, 0, false, false, false, 2, 0, 0, fun _ => 0, 0, [], false⟩
end Ms
namespace Kx
open PySem PySem.Spec PyProof.Rows L2 SX LamX Ms
theorem go_fld {K : PySem.W.Frag} {ta : TE} {f : Str} {σ : L2.St} {H : Hp} {Q : VK} (h : ta σ H fun x H1 => ∃ a C dx fs v, x = .ref a ∧ H1 a = some (.ins C dx fs) ∧ Cls K C ∧ NoAttr K C f ∧ fs.lookup f = some v ∧ Q v H1) : tFld K ta f σ H Q := h
theorem go_sfld {K : PySem.W.Frag} {ta tv : TE} {f : Str} {D : Ends} {σ : L2.St} {H : Hp} (h : tv σ H fun y H1 => ta σ H1 fun x H2 => ∃ a C dx fs, x = .ref a ∧ H2 a = some (.ins C dx fs) ∧ Cls K C ∧ NoAttr K C f ∧ fs.length < 1000 ∧ D.nx σ (upd H2 a (.ins C dx (putF f y fs)))) : sFld K ta tv f D σ H := h
/-- a field of an instance at p is set; all else stays since H0 -/
theorem set_end {K : PySem.W.Frag} {i : Nat} {v : V} {f : Str} {fs : List (Str × V)} {D : Ends} {σ : L2.St} {H0 H : Hp} {p C dx : Addr} (hi : σ[i]? = some (some (.ref p))) (hp : H p = some (.ins C dx fs)) (mv : Mv p H0 H) (c : Cls K C) (n : NoAttr K C f) (l : fs.length < 1000)
    (k : ∀ H', Mv p H0 H' → H' p = some (.ins C dx (putF f v fs)) → D.nx σ H') : (tVar i) σ H fun x H2 => ∃ a C dx fs, x = .ref a ∧ H2 a = some (.ins C dx fs) ∧ Cls K C ∧ NoAttr K C f ∧ fs.length < 1000 ∧ D.nx σ (upd H2 a (.ins C dx (putF f v fs))) :=
  ⟨_, hi, p, C, dx, fs, rfl, hp, c, n, l, k _ (mv.trans (Mv.upd _ _ _)) upd_same⟩
section
variable {K : PySem.W.Frag} {C w nl dx pc ps : Addr} {H0 H : Hp} {ns : List Int} {s t : Mst} {m i : Nat} {es : List (Int × Int)} {σ : L2.St} {f : Str} {v : V}
theorem rdW (hi : σ[i]? = some (some (.ref w))) (hw : WorkAt K C H0 H w nl ns s m dx pc ps es) (c : Cls K C) (na : NoAttr K C f) (l : (workF s nl pc ps).lookup f = some v) {Q : VK} (q : Q v H) : tFld K (tVar i) f σ H Q := ⟨_, hi, w, C, dx, _, v, rfl, hw.at_, c, na, l, q⟩
theorem stW {D : Ends} (hi : σ[i]? = some (some (.ref w))) (hw : WorkAt K C H0 H w nl ns s m dx pc ps es) (c : Cls K C) (na : NoAttr K C f) (e : putF f v (workF s nl pc ps) = workF t nl pc ps) (hc : t.cells = s.cells) (hs : t.said = s.said)
    (k : ∀ H', WorkAt K C H0 H' w nl ns t m dx pc ps es → D.nx σ H') : (tVar i) σ H fun x H2 => ∃ a C dx fs, x = .ref a ∧ H2 a = some (.ins C dx fs) ∧ Cls K C ∧ NoAttr K C f ∧ fs.length < 1000 ∧ D.nx σ (upd H2 a (.ins C dx (putF f v fs))) :=
  ⟨_, hi, w, C, dx, _, rfl, hw.at_, c, na, work_len, k _ (hw.put e hc hs)⟩
theorem cell_get {f : Int → Int} (h : CellsW es f) (c : Int) : (valV (kvI es) (Sum.inl c)).getD (.int 0) = .int (f c) := by
  rw [valV_kvI, ← h.at_]
  cases lkp es c <;> rfl
end
end Kx
namespace Kx
open PySem PySem.Spec PyProof.Rows L2 SX LamX Ms
theorem decI (a b : Int) : decide (V.int a = V.int b) = decide (a = b) := by
  by_cases z : a = b
  · rw [z]; simp
  · rw [decide_eq_false z, decide_eq_false (fun y => z (V.int.inj y))]
theorem decB (a b : Bool) : decide (V.bl a = V.bl b) = decide (a = b) := by
  cases a <;> cases b <;> decide
theorem go_ife {tt : TT} {ta tb : TE} {σ : L2.St} {H : Hp} {Q : VK} (h : tt σ H fun b H1 => if b = true then ta σ H1 Q else tb σ H1 Q) : tIf tt ta tb σ H Q := h
theorem go_tup {t : TA} {σ : L2.St} {H : Hp} {Q : VK} (h : t σ H fun xs H1 => xs.length ≤ sizeLine ∧ ∀ p, H1 p = none → Q (.ref p) (upd H1 p (.tup xs))) : tTup t σ H Q := h
theorem go_or1 {ta tb : TT} {σ : L2.St} {H : Hp} {Q : Bool → Hp → Prop} (h : ta σ H fun b H1 => if b = true then Q true H1 else tb σ H1 Q) : tOr ta tb σ H Q := h
section
variable {K : PySem.W.Frag} {C w nl dx pc ps : Addr} {H0 H : Hp} {ns : List Int} {s t : Mst} {m i : Nat} {es : List (Int × Int)} {σ : L2.St} {f : Str} {v : V}
theorem stG {Q : L2.St → Hp → Prop} (hi : σ[i]? = some (some (.ref w))) (hw : WorkAt K C H0 H w nl ns s m dx pc ps es) (c : Cls K C) (na : NoAttr K C f) (e : putF f v (workF s nl pc ps) = workF t nl pc ps) (hc : t.cells = s.cells) (hs : t.said = s.said)
    (k : ∀ H', WorkAt K C H0 H' w nl ns t m dx pc ps es → Q σ H') : gFld K (tVar i) f v σ H Q :=
  ⟨_, hi, w, C, dx, _, rfl, hw.at_, c, na, work_len, k _ (hw.put e hc hs)⟩
end
theorem num_at {ns : List Int} {k : Nat} (h : k < ns.length) : atI (ns.map V.int) (k : Int) = some (.int (ns.getD k 0)) := by
  rw [at_nat (by rw [List.length_map]; exact h)]
  rw [List.getD_eq_getElem?_getD, List.getElem?_eq_getElem h]
  simp
end Kx
namespace Kx
open PySem PySem.Spec PyProof.Rows L2 SX LamX Ms
theorem go_drop {te : TE} {D : Ends} {σ : L2.St} {H : Hp} (h : te σ H fun _ H1 => D.nx σ H1) : tDrop te D σ H := h
theorem go_bm {K : PySem.W.Frag} {ty : String} {r : V → List V → Hp → VK → Prop} {to : TE} {t : TA} {σ : L2.St} {H : Hp} {Q : VK} (h : to σ H fun x H1 => tyV K ty x H1 ∧ t σ H1 fun xs H2 => r x xs H2 Q) : tBM K ty r to t σ H Q := h
end Kx
namespace Kx
open PySem PySem.Spec PyProof.Rows L2 SX LamX Ms
theorem Mv.none {a b : Addr} {H H' : Hp} (m : Mv a H H') (n : b ≠ a) (h : H' b = none) : H b = none := by
  cases e : H b with
  | none => rfl
  | some o =>
    have := m b o n e
    rw [h] at this
    cases this
end Kx
namespace Ms
theorem bd_may {b n : Nat} {s : Mst} (h : Bd b s) : Bd b (mayS s n) := by
  unfold mayS
  split
  · exact { h with }
  · exact h
end Ms
namespace Kx
open PySem PySem.Spec PyProof.Rows L2 SX LamX Ms
def rowV (row : List Nat) : List V := row.map fun n : Nat => V.int (n : Int)
theorem rowV_len (row : List Nat) : (rowV row).length = row.length := List.length_map ..
theorem rowV_get {row : List Nat} {i : Nat} {v : V} (h : (rowV row)[i]? = some v) : ∃ n : Nat, row[i]? = some n ∧ v = .int n := map_at h
end Kx
namespace Kx
open PySem PySem.Spec PyProof.Rows L2 SX LamX Ms
theorem go_andT {ta tb : TT} {σ : L2.St} {H : Hp} {Q : Bool → Hp → Prop} (h : ta σ H fun b H1 => if b = true then tb σ H1 Q else Q false H1) : tAnd ta tb σ H Q := h
end Kx
namespace Kx
open PySem PySem.Spec PyProof.Rows L2 SX LamX Ms
theorem inK_call_tuple_of {X : Cx} {K : PySem.W.Frag} (e : X.K = K) : CallR X (.type "tuple") (fun xs H Q => ∃ p ys, xs = [.ref p] ∧ ((SqL K H p ys ∧ ∀ l, H l = none → Q (.ref l) (upd H l (.tup ys))) ∨ (SqT K H p ys ∧ Q (.ref p) H))) := e ▸ call_tuple_of
/-- a comprehension over a list or tuple that a name holds, with what is so far -/
theorem lc_seqit {K : PySem.W.Frag} {a : Addr} {xs : List V} {g : TG} {σ : L2.St} {H : Hp} {k : Nat} {tt : TT} {te : TE} {vs : List Nat} {Q : VK} (P : Addr → Nat → Hp → Prop) (hi : σ[k]? = some (some (.ref a))) (hq : SqQ K H a xs)
    (h0 : ∀ D, H D = none → P D 0 (upd H D (.lst []))) (hS : ∀ D i Hc, H D = none → P D i Hc → Same H Hc)
    (hs : ∀ D i x Hc, H D = none → xs[i]? = some x → P D i Hc → g x (wipe σ vs) Hc fun σ2 H2 => wipe σ2 vs = wipe σ vs ∧ tt σ2 H2 fun b H3 =>
      if b = true then te σ2 H3 fun y H4 => ∃ acc, H4 D = some (.lst acc) ∧ acc.length < sizeLine ∧ P D (i + 1) (upd H4 D (.lst (acc ++ [y]))) else P D (i + 1) H3)
    (hd : ∀ D Hc, H D = none → P D xs.length Hc → Q (.ref D) Hc) : tLc (fun σ H R => iList K (tVar k) σ H R ∨ iTup K (tVar k) σ H R) g tt te vs σ H Q := by
  rcases hq with h | h
  · exact .inl ⟨_, hi, a, rfl, ⟨_, h⟩, fun D nD => lc_list (P D) (h0 D nD) (fun i Hc _ p => (hS D i Hc nD p).seq h) (fun i x Hc hx p => hs D i x Hc nD hx p) (fun Hc p => hd D Hc nD p)⟩
  · exact .inr ⟨_, hi, a, rfl, ⟨_, h⟩, fun D nD => lc_tup (P D) (h0 D nD) (fun i Hc _ p => Same.t (hS D i Hc nD p) h) (fun i x Hc hx p => hs D i x Hc nD hx p) (fun Hc p => hd D Hc nD p)⟩
/-- a pair of ints, tracked -/
def Pn (H : Hp) (t : Addr) (p : Int × Int) : Prop := H t = some (.tup [.int p.1, .int p.2])
def keyOf (H : Hp) : V → Int × Int
  | .ref t => match H t with
    | some (.tup [.int i, .int j]) => (i, j)
    | _ => (0, 0)
  | _ => (0, 0)
theorem keyOf_at {H : Hp} {t : Addr} {p : Int × Int} (h : Pn H t p) : keyOf H (.ref t) = p := by
  unfold Pn at h
  show (match H t with | some (.tup [.int i, .int j]) => (i, j) | _ => (0, 0)) = p
  rw [h]
theorem refs_of : ∀ {ys : List V}, (∀ y ∈ ys, ∃ t, y = V.ref t) → ∃ us : List Addr, ys = us.map V.ref
  | [], _ => ⟨[], rfl⟩
  | y :: r, h => by
    obtain ⟨t, rfl⟩ := h y List.mem_cons_self
    obtain ⟨us, rfl⟩ := refs_of fun z m => h z (List.mem_cons_of_mem _ m)
    exact ⟨t :: us, rfl⟩
theorem pn_mem {H : Hp} : ∀ {ts : List Addr} {es : List (Int × Int)}, Paired (Pn H) ts es → ∀ t ∈ ts, ∃ p ∈ es, Pn H t p
  | _, _, .cons h r, t, m => by
    rcases List.mem_cons.mp m with rfl | m
    · exact ⟨_, List.mem_cons_self, h⟩
    · obtain ⟨p, a, b⟩ := pn_mem r t m
      exact ⟨p, List.mem_cons_of_mem _ a, b⟩
theorem pn_keys {H : Hp} : ∀ {ts : List Addr} {es : List (Int × Int)}, Paired (Pn H) ts es → (ts.map V.ref).map (keyOf H) = es
  | _, _, .nil => rfl
  | _, _, .cons h r => by
    rw [List.map_cons, List.map_cons, pn_keys r, keyOf_at h]
theorem pn_back {H : Hp} : ∀ {us : List Addr}, (∀ u ∈ us, ∃ p, Pn H u p) → Paired (Pn H) us ((us.map V.ref).map (keyOf H))
  | [], _ => .nil
  | u :: r, h => by
    obtain ⟨p, hp⟩ := h u List.mem_cons_self
    rw [List.map_cons, List.map_cons, keyOf_at hp]
    exact .cons hp (pn_back fun v m => h v (List.mem_cons_of_mem _ m))
theorem sorted_cells {K : PySem.W.Frag} {H : Hp} {a : Addr} {ts : List Addr} {es : List (Int × Int)} {f : Int → Int} {Q : VK} (hp : Paired (Pn H) ts es) (ha : H a = some (.lst (ts.map V.ref))) (nd : (es.map (·.1)).Nodup) (hm : ∀ c v, (c, v) ∈ es ↔ f c = v ∧ v ≠ 0)
    (q : ∀ (p : Addr) (l : List (Int × Int)) (us : List Addr), H p = none → IsC l f → l.length = es.length → Paired (Pn H) us l → Q (.ref p) (upd H p (.lst (us.map V.ref)))) : rSortedPO K [.ref a] H Q := by
  refine ⟨a, ts.map V.ref, keyOf H, rfl, .inl (.inl ha), fun x hx => ?_, fun ys p srt stb np => ?_⟩
  · obtain ⟨t, ht, rfl⟩ := List.mem_map.mp hx
    obtain ⟨p, _, h⟩ := pn_mem hp t ht
    rw [keyOf_at h]
    exact ⟨t, rfl, h⟩
  · have perm := stb.perm
    obtain ⟨us, rfl⟩ := refs_of fun y hy => by
      obtain ⟨t, _, rfl⟩ := List.mem_map.mp (perm.mem_iff.mp hy)
      exact ⟨t, rfl⟩
    have pk : ((us.map V.ref).map (keyOf H)).Perm es := by
      have := perm.map (keyOf H)
      rw [pn_keys hp] at this
      exact this
    refine q p _ us np (isC_of pk nd hm ?_) pk.length_eq (pn_back fun u hu => ?_)
    · refine List.pairwise_map.mpr (srt.imp fun {x y} h => ?_)
      have := SrtO.lexB_no.mp h
      omega
    · obtain ⟨t, ht, e⟩ := List.mem_map.mp (perm.mem_iff.mp (List.mem_map.mpr ⟨u, hu, rfl⟩))
      cases e
      obtain ⟨p, _, h⟩ := pn_mem hp u ht
      exact ⟨p, h⟩
theorem pairsQ_of {K : PySem.W.Frag} {H H' : Hp} {p : Addr} {us : List Addr} {l : List (Int × Int)} (h : Paired (Pn H) us l) (e : Same H H') (hp : H' p = some (.lst (us.map V.ref))) : PairsQ K H' p l :=
  ⟨us, .inl (.inl (.inl hp)), Paired.mapP h fun _ _ z => .inr (.inl (.inl (e _ _ z)))⟩
/-- the lock of a dict leaves all else -/
theorem lock_same {H : Hp} {d : Addr} {u o : HO} (hd : H d = some u) (H' : Hp) (e : Same (upd H d o) H') : Same H (upd H' d u) := fun b w h => by
  by_cases z : b = d
  · subst z
    rw [upd_same, ← hd]
    exact h
  · rw [upd_ne z]
    refine e b w ?_
    rw [upd_ne z]
    exact h
end Kx
namespace Kx
open PySem PySem.Spec PyProof.Rows L2 SX LamX Ms
section
variable {K : PySem.W.Frag} {H H' : Hp} {p a : Addr} {o : HO} {xs : List V}
theorem sqT_mv (hp : H p = some o) (n1 : ∀ xs, o ≠ .tup xs) (n2 : ∀ ob u, o ≠ .frz ob u) (m : Mv p H H') (h : SqT K H a xs) : SqT K H' a xs := by
  rcases h with (h | ⟨ob, h⟩) | h
  · exact .inl (.inl (m _ _ (ne_of_two h hp (fun z => n1 _ z.symm)) h))
  · exact .inl (.inr ⟨ob, m _ _ (ne_of_two h hp (fun z => n2 _ _ z.symm)) h⟩)
  · exact .inr h
theorem sqL_mv (hp : H p = some o) (n1 : ∀ xs, o ≠ .lst xs) (n2 : ∀ ob u, o ≠ .frz ob u) (m : Mv p H H') (h : SqL K H a xs) : SqL K H' a xs := by
  rcases h with (h | ⟨ob, h⟩) | h
  · exact .inl (.inl (m _ _ (ne_of_two h hp (fun z => n1 _ z.symm)) h))
  · exact .inl (.inr ⟨ob, m _ _ (ne_of_two h hp (fun z => n2 _ _ z.symm)) h⟩)
  · exact .inr h
theorem sqQ_mv (hp : H p = some o) (n0 : ∀ xs, o ≠ .lst xs) (n1 : ∀ xs, o ≠ .tup xs) (n2 : ∀ ob u, o ≠ .frz ob u) (m : Mv p H H') (h : SqQ K H a xs) : SqQ K H' a xs := h.imp (sqL_mv hp n0 n2 m) (sqT_mv hp n1 n2 m)
theorem PairsQ.mv {t : Addr} {l : List (Int × Int)} (hp : H p = some o) (n0 : ∀ xs, o ≠ .lst xs) (n1 : ∀ xs, o ≠ .tup xs) (n2 : ∀ ob u, o ≠ .frz ob u) (m : Mv p H H') (h : PairsQ K H t l) : PairsQ K H' t l := by
  obtain ⟨ps, h1, h2⟩ := h
  exact ⟨ps, sqQ_mv hp n0 n1 n2 m h1, Paired.mapP h2 fun _ _ z => sqQ_mv hp n0 n1 n2 m z⟩
theorem PairsT.mv {t : Addr} {l : List (Int × Int)} (hp : H p = some o) (n1 : ∀ xs, o ≠ .tup xs) (n2 : ∀ ob u, o ≠ .frz ob u) (m : Mv p H H') (h : PairsT K H t l) : PairsT K H' t l := by
  obtain ⟨ps, h1, h2⟩ := h
  exact ⟨ps, sqT_mv hp n1 n2 m h1, Paired.mapP h2 fun _ _ z => sqT_mv hp n1 n2 m z⟩
end
/-- tuples made of pairs, so far -/
def TupsP (K : PySem.W.Frag) (H0 : Hp) (l : List (Int × Int)) (D : Addr) (i : Nat) (Hc : Hp) : Prop := ∃ qs : List Addr, Hc D = some (.lst (qs.map V.ref)) ∧ Paired (fun (q : Addr) (p : Int × Int) => SqT K Hc q [.int p.1, .int p.2]) qs (l.take i) ∧ Same H0 Hc
theorem TupsP.new {K : PySem.W.Frag} {H0 : Hp} {l : List (Int × Int)} {D : Addr} (nD : H0 D = none) : TupsP K H0 l D 0 (upd H0 D (.lst [])) := ⟨[], upd_same, .nil, same_new nD⟩
theorem TupsP.app {K : PySem.W.Frag} {H0 Hc H4 : Hp} {l : List (Int × Int)} {D t : Addr} {i : Nat} {p : Int × Int} (h : TupsP K H0 l D i Hc) (nD : H0 D = none) (hp : l[i]? = some p) (e : Same Hc H4) (ht : SqT K H4 t [.int p.1, .int p.2]) (hl : l.length ≤ 100000) :
    ∃ acc, H4 D = some (.lst acc) ∧ acc.length < sizeLine ∧ TupsP K H0 l D (i + 1) (upd H4 D (.lst (acc ++ [V.ref t]))) := by
  obtain ⟨qs, h1, h2, h3⟩ := h
  have hD := e _ _ h1
  have hlen := h2.length
  refine ⟨_, hD, ?_, qs ++ [t], ?_, ?_, same_set (h3.trans e) nD⟩
  · rw [List.length_map, hlen, List.length_take]
    exact Nat.lt_of_le_of_lt (Nat.min_le_right _ _) (Nat.lt_of_le_of_lt hl (by decide))
  · rw [upd_same, List.map_append]
    rfl
  · rw [take_succ hp]
    have k : ∀ {q : Addr} {p : Int × Int}, SqT K H4 q [.int p.1, .int p.2] → SqT K (upd H4 D (.lst (qs.map V.ref ++ [V.ref t]))) q [.int p.1, .int p.2] := fun z => sqT_mv hD (fun _ z => by cases z) (fun _ _ z => by cases z) (Mv.upd _ _ _) z
    exact Paired.snoc (Paired.mapP h2 fun _ _ z => k (Same.t e z)) (k ht)
end Kx
namespace Kx
open PySem PySem.Spec PyProof.Rows L2 SX LamX Ms
theorem go_make {C : Addr} {sp : Sp} {dvs : List V} {E : XK} {t : TA} {σ : L2.St} {H : Hp} {Q : VK} (h : t σ H fun vs H1 => ∀ x dx, H1 x = none → H1 dx = none → dx ≠ x → sp (.ref x :: (vs ++ dvs)) (upd (upd H1 dx (.own x)) x (.ins C dx [])) (fun v H2 => v = .non ∧ Q (.ref x) H2) E) : tMake C sp dvs E t σ H Q := h
theorem kvI_get {es : List (Int × Int)} {i : Nat} {k : Key} {v : V} (h : (kvI es)[i]? = some (k, v)) : ∃ p, es[i]? = some p ∧ k = .inl p.1 ∧ v = .int p.2 := by
  obtain ⟨p, hp, e⟩ := map_at h
  cases e
  exact ⟨p, hp, rfl, rfl⟩
theorem kvI_val {es : List (Int × Int)} {i : Nat} {p : Int × Int} (nd : (es.map (·.1)).Nodup) (h : es[i]? = some p) : some (V.int p.2) = valV (kvI es) (Sum.inl p.1) := by
  rw [valV_kvI, (lkp_mem nd).mpr (show (p.1, p.2) ∈ es from List.mem_of_getElem? h)]
  rfl
/-- new pairs, so far -/
def PnsP (H0 : Hp) (es : List (Int × Int)) (D : Addr) (i : Nat) (Hc : Hp) : Prop := ∃ ts : List Addr, Hc D = some (.lst (ts.map V.ref)) ∧ Paired (Pn Hc) ts (es.take i) ∧ Same H0 Hc
theorem PnsP.new {H0 : Hp} {es : List (Int × Int)} {D : Addr} (nD : H0 D = none) : PnsP H0 es D 0 (upd H0 D (.lst [])) := ⟨[], upd_same, .nil, same_new nD⟩
theorem PnsP.app {H0 Hc H4 : Hp} {es : List (Int × Int)} {D t : Addr} {i : Nat} {p : Int × Int} (h : PnsP H0 es D i Hc) (nD : H0 D = none) (hp : es[i]? = some p) (e : Same Hc H4) (ht : Pn H4 t p) (hl : es.length ≤ 100000) :
    ∃ acc, H4 D = some (.lst acc) ∧ acc.length < sizeLine ∧ PnsP H0 es D (i + 1) (upd H4 D (.lst (acc ++ [V.ref t]))) := by
  obtain ⟨qs, h1, h2, h3⟩ := h
  have hD := e _ _ h1
  have hlen := h2.length
  have k : ∀ {q : Addr} {p : Int × Int}, Pn H4 q p → Pn (upd H4 D (.lst (qs.map V.ref ++ [V.ref t]))) q p := fun {q p} z => by
    unfold Pn at z ⊢
    rw [upd_ne (ne_of_two z hD (fun z => by cases z))]
    exact z
  refine ⟨_, hD, ?_, qs ++ [t], ?_, ?_, same_set (h3.trans e) nD⟩
  · rw [List.length_map, hlen, List.length_take]
    exact Nat.lt_of_le_of_lt (Nat.min_le_right _ _) (Nat.lt_of_le_of_lt hl (by decide))
  · rw [upd_same, List.map_append]
    rfl
  · rw [take_succ hp]
    exact Paired.snoc (Paired.mapP h2 fun _ _ z => k (e _ _ z)) (k ht)
end Kx
namespace Kx
open PySem PySem.Spec PyProof.Rows L2 SX LamX Ms
theorem upd_none {H : Hp} {p b : Addr} {o : HO} (h : upd H p o b = none) : H b = none := by
  by_cases e : b = p
  · rw [e, upd_same] at h
    cases h
  · rw [upd_ne e] at h
    exact h
theorem work_new {K : PySem.W.Frag} {E : XK} {CW x dx nl : Addr} {H : Hp} {ns : List Int} {P : VK} {sp : Sp} (hsp : ∀ vs H Q E, (∃ (p dx nl : Addr), vs = [.ref p, .ref nl] ∧ H p = some (.ins CW dx []) ∧
      ∀ (H' : Hp) (pc ps : Addr), H pc = none → H ps = none → Mv p H H' → H' p = some (.ins CW dx (workF startM nl pc ps)) → H' pc = some (.dK []) → H' ps = some (.lst []) → Q .non H') → sp vs H Q E) (nx : H x = none) (ndx : H dx = none) (hn : SqQ K H nl (ns.map V.int))
    (q : ∀ H' pc ps, WorkAt K CW H H' x nl ns startM 0 dx pc ps [] → P .non H') : sp [.ref x, .ref nl] (upd (upd H dx (.own x)) x (.ins CW dx [])) P E := by
  refine hsp _ _ _ _ ⟨x, dx, nl, rfl, upd_same, fun H' pc ps n1 n2 m h1 h2 h3 => q H' pc ps ?_⟩
  have s1 : Same H (upd (upd H dx (.own x)) x (.ins CW dx [])) := fun b u h => by
    rw [upd_ne (ne_of_none h nx), upd_ne (ne_of_none h ndx)]
    exact h
  exact ⟨h1, h2, ⟨List.nodup_nil, (fun _ m => nomatch m), fun _ => rfl⟩, h3, hn, Nat.le_refl _, Nat.le_refl _, fun b u h => m b u (ne_of_none h nx) (s1 b u h), nx, upd_none (upd_none n1), upd_none (upd_none n2)⟩
section
variable {K : PySem.W.Frag} {C w nl dx pc ps : Addr} {H0 H H' : Hp} {ns : List Int} {s t : Mst} {m n : Nat} {es : List (Int × Int)}
/-- the cells are another dict now -/
theorem WorkAt.recell {D : Addr} {fs : List (Str × V)} {es' : List (Int × Int)} (h : WorkAt K C H0 H w nl ns s m dx pc ps es) (hD : H D = some (.dK (kvI es'))) (nD : H0 D = none) (e : fs = workF t nl D ps) (hc : CellsW es' t.cells) (hs : t.said = s.said) (hl : es'.length ≤ n) (hm : m ≤ n) : WorkAt K C H0 (upd H w (.ins C dx fs)) w nl ns t n dx D ps es' := by
  refine ⟨by rw [upd_same, e], ?_, hc, ?_, h.num, hl, by rw [hs]; exact Nat.le_trans h.sn hm, same_set h.old h.nw, h.nw, nD, h.np⟩
  · rw [upd_ne (ne_of_two hD h.at_ (fun z => by cases z))]
    exact hD
  · rw [upd_ne h.wp, hs]
    exact h.sat
/-- what was said is another list now -/
theorem WorkAt.resay {D : Addr} {fs : List (Str × V)} (h : WorkAt K C H0 H w nl ns s m dx pc ps es) (hD : H D = some (.lst (t.said.map V.int))) (nD : H0 D = none) (e : fs = workF t nl pc D) (hc : t.cells = s.cells) (hl : t.said.length ≤ n) (hm : m ≤ n) : WorkAt K C H0 (upd H w (.ins C dx fs)) w nl ns t n dx pc D es := by
  refine ⟨by rw [upd_same, e], ?_, by rw [hc]; exact h.cl, ?_, h.num, Nat.le_trans h.cn hm, hl, same_set h.old h.nw, h.nw, h.nc, nD⟩
  · rw [upd_ne h.wc]
    exact h.cat
  · rw [upd_ne (ne_of_two hD h.at_ (fun z => by cases z))]
    exact hD
end
theorem isC_nd {l : List (Int × Int)} {f : Int → Int} (h : IsC l f) : (l.map (·.1)).Nodup := List.pairwise_map.mpr (h.up.imp fun z e => by omega)
theorem isC_toW {l : List (Int × Int)} {f : Int → Int} (h : IsC l f) : CellsW l f := by
  refine ⟨isC_nd h, fun p m => ((h.mem p.1 p.2).mp m).2, fun c => ?_⟩
  cases e : lkp l c with
  | some v =>
    have := (h.mem c v).mp ((lkp_mem (isC_nd h)).mp e)
    exact this.1.symm
  | none =>
    by_cases z : f c = 0
    · exact z.symm
    · have := (lkp_mem (isC_nd h)).mpr ((h.mem c (f c)).mpr ⟨rfl, z⟩)
      rw [e] at this
      cases this
theorem put_take {l : List (Int × Int)} {i : Nat} {p : Int × Int} (nd : (l.map (·.1)).Nodup) (h : l[i]? = some p) : putK (kvI (l.take i)) (Sum.inl p.1) (V.int p.2) = kvI (l.take (i + 1)) := by
  rw [putK_kvI, take_succ h]
  have hn : lkp (l.take i) p.1 = none := by
    refine lkp_none.mpr fun m => ?_
    have s1 : ((l.take (i + 1)).map (·.1)).Nodup := List.Sublist.nodup (List.Sublist.map _ (List.take_sublist ..)) nd
    rw [take_succ h, List.map_append] at s1
    exact (List.nodup_append.mp s1).2.2 _ m _ (List.mem_singleton.mpr rfl) rfl
  unfold putI
  rw [hn]
  rfl
/-- the dict of pairs, so far -/
def DctP (H0 : Hp) (l : List (Int × Int)) (D : Addr) (i : Nat) (Hc : Hp) : Prop := Hc D = some (.dK (kvI (l.take i))) ∧ Same H0 Hc
theorem DctP.app {H0 Hc : Hp} {l : List (Int × Int)} {D : Addr} {i : Nat} {p : Int × Int} (h : DctP H0 l D i Hc) (nD : H0 D = none) (nd : (l.map (·.1)).Nodup) (hp : l[i]? = some p) : DctP H0 l D (i + 1) (upd Hc D (.dK (putK (kvI (l.take i)) (Sum.inl p.1) (V.int p.2)))) :=
  ⟨by rw [upd_same, put_take nd hp], same_set h.2 nD⟩
end Kx
namespace Kx
open PySem PySem.Spec PyProof.Rows L2 SX LamX Ms
theorem go_dget {td ty : TE} {σ : L2.St} {H : Hp} {Q : VK} (h : td σ H fun x H1 => ty σ H1 fun y H2 => ∃ a v, x = .ref a ∧ DGet H2 a y (some v) ∧ Q v H2) : tDGet td ty σ H Q := h
theorem go_dput {td ty tv : TE} {D : Ends} {σ : L2.St} {H : Hp} (h : tv σ H fun v H1 => td σ H1 fun x H2 => ty σ H2 fun y H3 => ∃ a H4, x = .ref a ∧ DPut H3 a y v H4 ∧ D.nx σ H4) : sDPut td ty tv D σ H := h
theorem go_par2 {i j : Nat} {t : TA} {D : Ends} {σ : L2.St} {H : Hp} (h : t σ H fun vs H1 => ∃ v w, vs = [v, w] ∧ D.nx ((σ.set i (some v)).set j (some w)) H1) : tPar i j t D σ H := h
section
variable {L pc ps : Addr} {H : Hp} {s t : Mst} {m i : Nat} {es : List (Int × Int)} {σ : L2.St} {k : Str} {v : V}
theorem rdL {Q : VK} (hi : σ[i]? = some (some (.ref L))) (h : LiveAt H L pc s m ps es) (e : valV (liveK s pc ps) (.inr k) = some v) (q : Q v H) : tDGet (tVar i) (tC (.str k)) σ H Q := ⟨_, hi, L, v, rfl, h.get e, q⟩
theorem stL {D : Ends} (hi : σ[i]? = some (some (.ref L))) (h : LiveAt H L pc s m ps es) (e : putK (liveK s pc ps) (.inr k) v = liveK t pc ps) (hc : t.cells = s.cells) (hs : t.said = s.said) (kk : ∀ H', Mv2 L pc H H' → LiveAt H' L pc t m ps es → D.nx σ H') :
    (tVar i) σ H fun x H2 => (tC (.str k)) σ H2 fun y H3 => ∃ a H4, x = .ref a ∧ DPut H3 a y v H4 ∧ D.nx σ H4 := ⟨_, hi, L, _, rfl, DPut.k (k := .inr k) h.at_ live_len, kk _ Mv2.l (h.put e hc hs)⟩
theorem stGL {Q : L2.St → Hp → Prop} (hi : σ[i]? = some (some (.ref L))) (h : LiveAt H L pc s m ps es) (e : putK (liveK s pc ps) (.inr k) v = liveK t pc ps) (hc : t.cells = s.cells) (hs : t.said = s.said) (kk : ∀ H', Mv2 L pc H H' → LiveAt H' L pc t m ps es → Q σ H') :
    gSub (tVar i) (tC (.str k)) rSetD v σ H Q := ⟨_, hi, L, _, rfl, DPut.k (k := .inr k) h.at_ live_len, kk _ Mv2.l (h.put e hc hs)⟩
theorem cell_getL {f : Int → Int} (h : CellsL es f) (c : Int) : (valV (kvI es) (Sum.inl c)).getD (.int 0) = .int (f c) := by
  rw [valV_kvI, ← h.at_]
  cases lkp es c <;> rfl
/-- what was said is another list now -/
theorem LiveAt.resay {D : Addr} (h : LiveAt H L pc s m ps es) (hD : H D = some (.lst (t.said.map V.int))) (e : putK (liveK s pc ps) (.inr "said") (.ref D) = liveK t pc D) (hc : t.cells = s.cells) (hl : t.said.length ≤ m + 1) : LiveAt (upd H L (.dK (putK (liveK s pc ps) (.inr "said") (.ref D)))) L pc t (m + 1) D es := by
  refine ⟨by rw [upd_same, e], ?_, by rw [hc]; exact h.cl, ?_, Nat.le_succ_of_le h.cn, hl, h.ne⟩
  · rw [upd_ne h.ne.symm]
    exact h.cat
  · rw [upd_ne (ne_of_two hD h.at_ (fun z => by cases z))]
    exact hD
/-- a cell is set -/
theorem LiveAt.cell {c v : Int} (h : LiveAt H L pc s m ps es) (e : liveK t pc ps = liveK s pc ps) (hs : t.said = s.said) (hc : t.cells = putC s.cells c v) : LiveAt (upd H pc (.dK (kvI (putI es c v)))) L pc t (m + 1) ps (putI es c v) := by
  refine ⟨?_, upd_same, by rw [hc]; exact h.cl.put c v, ?_, Nat.le_trans (putI_len ..) (Nat.succ_le_succ h.cn), by rw [hs]; exact Nat.le_succ_of_le h.sn, h.ne⟩
  · rw [upd_ne h.ne, e]
    exact h.at_
  · rw [upd_ne (ne_of_two h.sat h.cat (fun z => by cases z)), hs]
    exact h.sat
end
section
variable {t u : TS} {D : Ends} {σ : L2.St} {H : Hp} {i : Nat} {n c : Int}
theorem ifEq (hi : σ[i]? = some (some (.int n))) (h1 : n = c → t D σ H) (h2 : n ≠ c → u D σ H) : tIfS (tTest (tOp rEq (tVar i) (tC (.int c)))) t u D σ H := by
  refine go_if (go_test (go_op (go_var hi ⟨rfl, _, rfl, ?_⟩)))
  rw [decI]
  by_cases e : n = c
  · rw [decide_eq_true e]
    exact iteT (B := _) (h1 e)
  · rw [decide_eq_false e]
    exact iteF (A := _) (h2 e)
theorem ifGt (hi : σ[i]? = some (some (.int n))) (h1 : c < n → t D σ H) (h2 : ¬ c < n → u D σ H) : tIfS (tTest (tOp (rI0 fun i j => V.bl (decide (j < i))) (tVar i) (tC (.int c)))) t u D σ H := by
  refine go_if (go_test (go_op (go_var hi (go_c ⟨_, _, rfl, rfl, _, rfl, ?_⟩))))
  by_cases e : c < n
  · rw [decide_eq_true e]
    exact iteT (B := _) (h1 e)
  · rw [decide_eq_false e]
    exact iteF (A := _) (h2 e)
theorem ifLt (hi : σ[i]? = some (some (.int n))) (h1 : n < c → t D σ H) (h2 : ¬ n < c → u D σ H) : tIfS (tTest (tOp (rI0 fun i j => V.bl (decide (i < j))) (tVar i) (tC (.int c)))) t u D σ H := by
  refine go_if (go_test (go_op (go_var hi (go_c ⟨_, _, rfl, rfl, _, rfl, ?_⟩))))
  by_cases e : n < c
  · rw [decide_eq_true e]
    exact iteT (B := _) (h1 e)
  · rw [decide_eq_false e]
    exact iteF (A := _) (h2 e)
end
end Kx
namespace Kx
open PySem PySem.Spec PyProof.Rows L2 SX LamX Ms
section
variable {K : PySem.W.Frag} {L pc ps a : Addr} {H H' : Hp} {s : Mst} {m : Nat} {es : List (Int × Int)} {xs : List V}
theorem sqL_mv2 (h : LiveAt H L pc s m ps es) (mv : Mv2 L pc H H') (q : SqL K H a xs) : SqL K H' a xs := by
  rcases q with (q | ⟨ob, q⟩) | q
  · exact .inl (.inl (mv _ _ (ne_of_two q h.at_ (fun z => by cases z)) (ne_of_two q h.cat (fun z => by cases z)) q))
  · exact .inl (.inr ⟨ob, mv _ _ (ne_of_two q h.at_ (fun z => by cases z)) (ne_of_two q h.cat (fun z => by cases z)) q⟩)
  · exact .inr q
theorem sqT_mv2 (h : LiveAt H L pc s m ps es) (mv : Mv2 L pc H H') (q : SqT K H a xs) : SqT K H' a xs := by
  rcases q with (q | ⟨ob, q⟩) | q
  · exact .inl (.inl (mv _ _ (ne_of_two q h.at_ (fun z => by cases z)) (ne_of_two q h.cat (fun z => by cases z)) q))
  · exact .inl (.inr ⟨ob, mv _ _ (ne_of_two q h.at_ (fun z => by cases z)) (ne_of_two q h.cat (fun z => by cases z)) q⟩)
  · exact .inr q
theorem StandAt.mv2 {C p dx t u : Addr} {s' : Mst} {l : List (Int × Int)} (h : LiveAt H L pc s m ps es) (mv : Mv2 L pc H H') (q : StandAt K C H p s' l dx t u) : StandAt K C H' p s' l dx t u := by
  refine ⟨mv _ _ (ne_of_two q.at_ h.at_ (fun z => by cases z)) (ne_of_two q.at_ h.cat (fun z => by cases z)) q.at_, ?_, sqT_mv2 h mv q.sat, q.isC⟩
  obtain ⟨ps, h1, h2⟩ := q.cat
  exact ⟨ps, sqT_mv2 h mv h1, Paired.mapP h2 fun _ _ z => sqT_mv2 h mv z⟩
theorem Wh.mv2 {w c : Addr} {n : Nat} (h : LiveAt H L pc s m ps es) (mv : Mv2 L pc H H') (q : Wh H w c n) : Wh H' w c n := by
  obtain ⟨cs, t, l, h1, h2, h3⟩ := q
  exact ⟨cs, t, l, mv _ _ (ne_of_two h1 h.at_ (fun z => by cases z)) (ne_of_two h1 h.cat (fun z => by cases z)) h1, mv _ _ (ne_of_two h2 h.at_ (fun z => by cases z)) (ne_of_two h2 h.cat (fun z => by cases z)) h2, h3⟩
end
theorem go_dget2 {td ty tx : TE} {σ : L2.St} {H : Hp} {Q : VK} (h : td σ H fun x H1 => ∃ a, x = .ref a ∧ IsD H1 a ∧ ty σ H1 fun y H2 => tx σ H2 fun z H3 => ∃ o, DGet H3 a y o ∧ Q (o.getD z) H3) : tDGet2 td ty tx σ H Q := h
end Kx
namespace Kx
open PySem PySem.Spec PyProof.Rows L2 SX LamX Ms
section
variable {t u : TS} {tb : TT} {D : Ends} {σ : L2.St} {H : Hp} {i : Nat} {n c : Int}
theorem ifAndEq (hi : σ[i]? = some (some (.int n))) (h1 : n = c → tb σ H fun b H1 => if b = true then t D σ H1 else u D σ H1) (h2 : n ≠ c → u D σ H) : tIfS (tAnd (tTest (tOp rEq (tVar i) (tC (.int c)))) tb) t u D σ H := by
  refine go_if (go_andT (go_test (go_op (go_var hi ⟨rfl, _, rfl, ?_⟩))))
  rw [decI]
  by_cases e : n = c
  · rw [decide_eq_true e]
    exact iteT (B := _) (h1 e)
  · rw [decide_eq_false e]
    exact iteF (A := _) (h2 e)
theorem ifAndGt (hi : σ[i]? = some (some (.int n))) (h1 : c < n → tb σ H fun b H1 => if b = true then t D σ H1 else u D σ H1) (h2 : ¬ c < n → u D σ H) : tIfS (tAnd (tTest (tOp (rI0 fun i j => V.bl (decide (j < i))) (tVar i) (tC (.int c)))) tb) t u D σ H := by
  refine go_if (go_andT (go_test (go_op (go_var hi (go_c ⟨_, _, rfl, rfl, _, rfl, ?_⟩)))))
  by_cases e : c < n
  · rw [decide_eq_true e]
    exact iteT (B := _) (h1 e)
  · rw [decide_eq_false e]
    exact iteF (A := _) (h2 e)
end
end Kx
namespace Kx
open PySem PySem.Spec PyProof.Rows L2 SX LamX Ms
/-- new pairs of the cells that are not 0, so far -/
def nz (es : List (Int × Int)) : List (Int × Int) := es.filter fun p => decide (p.2 ≠ 0)
def PnsF (H0 : Hp) (es : List (Int × Int)) (D : Addr) (i : Nat) (Hc : Hp) : Prop := ∃ ts : List Addr, Hc D = some (.lst (ts.map V.ref)) ∧ Paired (Pn Hc) ts (nz (es.take i)) ∧ Same H0 Hc
theorem PnsF.new {H0 : Hp} {es : List (Int × Int)} {D : Addr} (nD : H0 D = none) : PnsF H0 es D 0 (upd H0 D (.lst [])) := ⟨[], upd_same, .nil, same_new nD⟩
theorem PnsF.app {H0 Hc H4 : Hp} {es : List (Int × Int)} {D t : Addr} {i : Nat} {p : Int × Int} (h : PnsF H0 es D i Hc) (nD : H0 D = none) (hp : es[i]? = some p) (hz : p.2 ≠ 0) (e : Same Hc H4) (ht : Pn H4 t p) (hl : es.length ≤ 100000) :
    ∃ acc, H4 D = some (.lst acc) ∧ acc.length < sizeLine ∧ PnsF H0 es D (i + 1) (upd H4 D (.lst (acc ++ [V.ref t]))) := by
  obtain ⟨qs, h1, h2, h3⟩ := h
  have hD := e _ _ h1
  have hlen := h2.length
  have k : ∀ {q : Addr} {p : Int × Int}, Pn H4 q p → Pn (upd H4 D (.lst (qs.map V.ref ++ [V.ref t]))) q p := fun {q p} z => by
    unfold Pn at z ⊢
    rw [upd_ne (ne_of_two z hD (fun z => by cases z))]
    exact z
  refine ⟨_, hD, ?_, qs ++ [t], ?_, ?_, same_set (h3.trans e) nD⟩
  · rw [List.length_map, hlen]
    refine Nat.lt_of_le_of_lt (List.length_filter_le ..) ?_
    rw [List.length_take]
    exact Nat.lt_of_le_of_lt (Nat.min_le_right _ _) (Nat.lt_of_le_of_lt hl (by decide))
  · rw [upd_same, List.map_append]
    rfl
  · unfold nz
    rw [take_succ hp, List.filter_append, List.filter_cons_of_pos (by simpa using hz)]
    exact Paired.snoc (Paired.mapP h2 fun _ _ z => k (e _ _ z)) (k ht)
theorem PnsF.skip {H0 Hc H4 : Hp} {es : List (Int × Int)} {D : Addr} {i : Nat} {p : Int × Int} (h : PnsF H0 es D i Hc) (hp : es[i]? = some p) (hz : p.2 = 0) (e : Same Hc H4) : PnsF H0 es D (i + 1) H4 := by
  obtain ⟨qs, h1, h2, h3⟩ := h
  refine ⟨qs, e _ _ h1, ?_, h3.trans e⟩
  unfold nz
  rw [take_succ hp, List.filter_append, List.filter_cons_of_neg (by simpa using hz), List.filter_nil, List.append_nil]
  exact Paired.mapP h2 fun _ _ z => e _ _ z
theorem nz_nd {es : List (Int × Int)} (nd : (es.map (·.1)).Nodup) : ((nz es).map (·.1)).Nodup := List.Sublist.nodup (List.Sublist.map _ (List.filter_sublist ..)) nd
theorem nz_len (es : List (Int × Int)) : (nz es).length ≤ es.length := List.length_filter_le ..
/-- what a stand is, as data -/
theorem dp_pairs {K : PySem.W.Frag} {H : Hp} {t : Addr} {l : List (Int × Int)} (h : PairsT K H t l) : Dp K H (.ref t) (.tuple (l.map pairD)) := by
  obtain ⟨ps, h1, h2⟩ := h
  refine .tup h1 ?_
  clear h1
  induction h2 with
  | nil => exact .nil
  | cons a _ ih => exact .cons (.tup a (.cons (.int _) (.cons (.int _) .nil))) ih
def standL (s : Mst) (t u : Addr) : List V := [.int s.block, .int s.room, .bl s.tick, .bl s.flag, .bl s.test, .int s.mode, .int s.first, .int s.second, .ref t, .int (s.heard : Nat), .ref u, .bl s.isd]
theorem dp_standA {K : PySem.W.Frag} {H : Hp} {t u : Addr} {s : Mst} {l : List (Int × Int)} (hc : PairsT K H t l) (hs : SqT K H u (s.said.map V.int)) : DpAll K H (standL s t u) (standD s l) :=
  .cons (.int _) <| .cons (.int _) <| .cons (.bl _) <| .cons (.bl _) <| .cons (.bl _) <| .cons (.int _) <| .cons (.int _) <| .cons (.int _) <| .cons (dp_pairs hc) <| .cons (.int _) <| .cons (.tup hs (dpAll_map _ fun _ _ => .int _)) <| .cons (.bl _) .nil
/-- the text of a stand -/
def standX (s : Mst) (l : List (Int × Int)) : Str := (PyData.list (standD s l)).shown
theorem repr_stand {K : PySem.W.Frag} {H : Hp} {p t u : Addr} {s : Mst} {l : List (Int × Int)} {b : Nat} {Q : VK} (h : H p = some (.lst (standL s t u))) (hc : PairsT K H t l) (hs : SqT K H u (s.said.map V.int)) (hb : Bd b s) (b0 : 20 ≤ b) (b1 : b ≤ 1915) (hC : IsC l s.cells) (l2 : l.length ≤ 2000) (s2 : s.said.length ≤ 2000) (q : Q (.str (standX s l)) H) : rRepr K [.ref p] H Q := by
  have sh := shB_stand hb b1 hC l2 s2 b0
  exact ⟨p, _, rfl, .lst (.inl (.inl h)) (dp_standA hc hs), sh.sh, sh.nd, Nat.le_trans sh.dp (by decide), sh.len (Nat.le_refl _), q⟩
end Kx
namespace Kx
open PySem PySem.Spec PyProof.Rows L2 SX LamX Ms
/-- a stand that is being drawn -/
structure Drw (H0 Hx : Hp) (w c : Addr) (n : Nat) (L pc ps : Addr) (s : Mst) (m : Nat) (es : List (Int × Int)) : Prop where
  live : LiveAt Hx L pc s m ps es
  bd : Bd 83 s
  wh : Wh Hx w c n
  mv : Mv w H0 Hx
  nL : H0 L = none
  npc : H0 pc = none
  psw : ps ≠ w
section
variable {H0 Hx Hy : Hp} {w c L pc ps ps' : Addr} {n n' m m' : Nat} {s t : Mst} {es es' : List (Int × Int)}
theorem LiveAt.mvw (h : LiveAt Hx L pc s m ps es) (wh : Wh Hx w c n) (psw : ps ≠ w) (mv : Mv w Hx Hy) : LiveAt Hy L pc s m ps es := by
  obtain ⟨cs, x, l, h1, _⟩ := wh
  exact { h with at_ := mv _ _ (ne_of_two h.at_ h1 (fun z => by cases z)) h.at_, cat := mv _ _ (ne_of_two h.cat h1 (fun z => by cases z)) h.cat, sat := mv _ _ psw h.sat }
theorem Drw.draw (d : Drw H0 Hx w c n L pc ps s m es) (mv : Mv w Hx Hy) (wh : Wh Hy w c n') : Drw H0 Hy w c n' L pc ps s m es :=
  { d with live := d.live.mvw d.wh d.psw mv, wh := wh, mv := d.mv.trans mv }
theorem Drw.new (d : Drw H0 Hx w c n L pc ps s m es) (e : Same Hx Hy) : Drw H0 Hy w c n L pc ps s m es := d.draw (Mv.of e) (d.wh.same e)
theorem Drw.set (d : Drw H0 Hx w c n L pc ps s m es) (m2 : Mv2 L pc Hx Hy) (live : LiveAt Hy L pc t m' ps' es') (bd : Bd 83 t) (psw : ps' ≠ w) : Drw H0 Hy w c n L pc ps' t m' es' :=
  ⟨live, bd, d.wh.mv2 d.live m2, fun b o hb h => m2 _ _ (ne_of_none h d.nL) (ne_of_none h d.npc) (d.mv b o hb h), d.nL, d.npc, psw⟩
theorem Drw.lt (d : Drw H0 Hx w c n L pc ps s m es) (h : n ≤ n') : Drw H0 Hx w c n' L pc ps s m es := { d with wh := d.wh.lt h }
theorem Drw.mono (d : Drw H0 Hx w c n L pc ps s m es) (h : m ≤ m') : Drw H0 Hx w c n L pc ps s m' es := { d with live := d.live.mono h }
end
theorem bi_small {i : Int} {b : Nat} (h : -1000000 ≤ i) (k : i ≤ 1000000) (hb : 20 ≤ b) : Bi b i := Nat.lt_of_lt_of_le (show i.natAbs < 2 ^ 20 by omega) (Nat.pow_le_pow_right (by decide) hb)
end Kx
namespace Kx
open PySem PySem.Spec PyProof.Rows L2 SX LamX Ms
theorem bd_start : Bd 83 startM where
  block := bi_small (by decide) (by decide) (by decide)
  room := bi_small (by decide) (by decide) (by decide)
  first := bi_small (by decide) (by decide) (by decide)
  second := bi_small (by decide) (by decide) (by decide)
  cells := fun _ => bi_small (i := 0) (by decide) (by decide) (by decide)
  keys := fun _ z => absurd rfl z
  said := fun _ m => nomatch m
  mode := by decide
  heard := by decide
  low := by decide
end Kx
namespace Ms
/-- a row, and one in which each word stands one or more times -/
inductive Thk : List Nat → List Nat → Prop
  | nil : Thk [] []
  | snoc {r t : List Nat} (h : Thk r t) (n k : Nat) : Thk (r ++ [n]) (t ++ List.replicate (k + 1) n)
theorem doR_one (ns : List Int) (s : Mst) (n : Nat) : doR ns s [n] = doW ns s n := rfl
theorem Thk.same {ns : List Int} {r t : List Nat} (h : Thk r t) (h30 : ∀ n ∈ r, n < 30) (s : Mst) : doR ns s t = doR ns s r := by
  induction h with
  | nil => rfl
  | @snoc r t h n k ih =>
    rw [doR_app, doR_app, ih fun x m => h30 x (List.mem_append_left _ m), doR_rep ns n (h30 n (List.mem_append_right _ (List.mem_singleton.mpr rfl))) k]
    rfl
theorem Thk.pre {ns : List Int} {r t : List Nat} (h : Thk r t) (h30 : ∀ n ∈ r, n < 30) (s : Mst) : ∀ k, ∃ j, doR ns s (t.take k) = doR ns s (r.take j) := by
  induction h with
  | nil => exact fun k => ⟨0, by rw [List.take_nil, List.take_nil]⟩
  | @snoc r t h n m ih =>
    have ih' := ih fun x m => h30 x (List.mem_append_left _ m)
    have hn := h30 n (List.mem_append_right _ (List.mem_singleton.mpr rfl))
    intro k
    rw [List.take_append]
    by_cases hk : k ≤ t.length
    · obtain ⟨j, hj⟩ := ih' k
      rw [show k - t.length = 0 by omega, List.take_zero, List.append_nil, hj]
      by_cases hj2 : j ≤ r.length
      · exact ⟨j, by rw [List.take_append_of_le_length hj2]⟩
      · exact ⟨r.length, by rw [List.take_of_length_le (by omega), List.take_append_of_le_length (Nat.le_refl _), List.take_length]⟩
    · obtain ⟨d, hd⟩ : ∃ d, k - t.length = d + 1 := ⟨k - t.length - 1, by omega⟩
      rw [List.take_of_length_le (by omega : t.length ≤ k), hd, List.take_replicate, doR_app, h.same (fun x m => h30 x (List.mem_append_left _ m))]
      obtain ⟨e, he⟩ : ∃ e, min (d + 1) (m + 1) = e + 1 := ⟨min d m, by omega⟩
      rw [he, doR_rep ns n hn e]
      refine ⟨(r ++ [n]).length, ?_⟩
      rw [List.take_length, doR_app]
      rfl
theorem Thk.all {r t : List Nat} (h : Thk r t) (h30 : ∀ n ∈ r, n < 30) : ∀ n ∈ t, n < 30 := by
  induction h with
  | nil => exact fun _ m => nomatch m
  | @snoc r t h n k ih =>
    intro x m
    rcases List.mem_append.mp m with m | m
    · exact ih (fun x m => h30 x (List.mem_append_left _ m)) x m
    · rw [(List.mem_replicate.mp m).2]
      exact h30 n (List.mem_append_right _ (List.mem_singleton.mpr rfl))
end Ms
namespace Kx
open PySem PySem.Spec PyProof.Rows L2 SX LamX Ms
/-- what was there stays, though new dicts are filled -/
theorem Mv2.new {O oc : Addr} {Ha Hb Hc : Hp} (m : Mv2 O oc Hb Hc) (e : Same Ha Hb) (n1 : Ha O = none) (n2 : Ha oc = none) : Same Ha Hc := fun b o h => m b o (ne_of_none h n1) (ne_of_none h n2) (e b o h)
theorem StandAt.mvw {K : PySem.W.Frag} {C p dx t u w c : Addr} {H H' : Hp} {s : Mst} {l : List (Int × Int)} {n : Nat} (h : StandAt K C H p s l dx t u) (wh : Wh H w c n) (m : Mv w H H') : StandAt K C H' p s l dx t u := by
  obtain ⟨cs, x, y, h1, _⟩ := wh
  exact { h with at_ := m _ _ (ne_of_two h.at_ h1 (fun z => by cases z)) h.at_, cat := h.cat.mv h1 (fun _ z => by cases z) (fun _ _ z => by cases z) m, sat := sqT_mv h1 (fun _ z => by cases z) (fun _ _ z => by cases z) m h.sat }
theorem ne_text {x y : Str} (h : x = y) {H : Hp} {Q : Bool → Hp → Prop} (q : Q false H) : ∃ k, V.bl (!decide (V.str x = V.str y)) = .bl k ∧ Q k H := by
  subst h
  exact ⟨false, by simp, q⟩
end Kx
namespace Kx
open PySem PySem.Spec PyProof.Rows L2 SX LamX Ms
theorem midE {te : TE} {σ : L2.St} {H : Hp} {Q : VK} (Pz : V → Hp → Prop) (h1 : ∀ Q1 : VK, (∀ v H4, Pz v H4 → Q1 v H4) → te σ H Q1) (h2 : ∀ v H4, Pz v H4 → Q v H4) : te σ H Q := h1 Q h2
end Kx
namespace Kx
open PySem PySem.Spec PyProof.Rows L2 SX LamX Ms
theorem inV_row (n : Nat) (row : List Nat) : inV (.int (n : Int)) (rowV row) = decide (n ∈ row) := by
  unfold inV rowV
  rw [List.any_map]
  induction row with
  | nil => rfl
  | cons x r ih =>
    rw [List.any_cons, ih]
    show (eqV (.int (x : Int)) (.int (n : Int)) || decide (n ∈ r)) = _
    by_cases e : n = x
    · subst e
      simp [eqV]
    · have : ¬ (x : Int) = (n : Int) := by omega
      simp [eqV, this, e]
theorem flat_row (row : List Nat) : (rowV row).all flatV = true := by
  rw [List.all_eq_true]
  intro v m
  obtain ⟨n, _, rfl⟩ := List.mem_map.mp m
  rfl
theorem rep_row (k n : Nat) : (List.replicate k [V.int (n : Int)]).flatten = rowV (List.replicate k n) := by
  induction k with
  | zero => rfl
  | succ k ih =>
    rw [List.replicate_succ, List.flatten_cons, ih, List.replicate_succ]
    rfl
theorem row_app (a b : List Nat) : rowV a ++ rowV b = rowV (a ++ b) := (List.map_append ..).symm
end Kx
namespace Kx
open PySem PySem.Spec PyProof.Rows L2 SX LamX
/-! ### try: .. except X as n: ..  except Y as n: .. -/
/-- behind an except suite the name holds nothing -/
def goneD (i : Nat) (D : Ends) : Ends := ⟨fun σ2 H2 => D.nx (σ2.set i none) H2, D.rt, fun σ2 H2 => D.bk (σ2.set i none) H2, fun σ2 H2 => D.ct (σ2.set i none) H2⟩
/-- what the named clauses wish of an exception of the body -/
def wManyN (K : PySem.W.Frag) (i : Nat) (Wo : WX) (D : Ends) : List (Value × (Addr → Value → Option Addr → TS)) → WX
  | [] => Wo
  | p :: r => fun cl dd σ H => ∃ yes, PySem.W.exmOne K cl p.1 = some yes ∧ (yes = true → ∀ x, H x = none → p.2 x cl dd (goneD i D) (σ.set i (some (.ref x))) H) ∧ (yes = false → wManyN K i Wo D r cl dd σ H)
inductive HdsN (X : Cx) (n : Str) : List ExceptHandler → List (Value × (Addr → Value → Option Addr → TS)) → Prop
  | nil : HdsN X n [] []
  | cons {x : Str} {c : Value} {sx : Addr → Value → Option Addr → TS} {st0 : Stmt} {sts : List Stmt} {p1 p2 : Pos} {more : List ExceptHandler} {l : List (Value × (Addr → Value → Option Addr → TS))} (names : Names X x c)
      (suite : ∀ (a : Addr) (ob : Obj) (cl : Value) (dd : Option Addr) (pn : List (Addr × Obj)), Zc cl dd ob → (∃ fv, ob.data = .fields fv) → PSs (X.suite a ((a, ob) :: pn)) (st0 :: sts) (sx a cl dd)) (rest : HdsN X n more l) :
      HdsN X n (.ExceptHandler (some (.Name x p1)) (some n) (st0 :: sts) p2 :: more) ((c, sx) :: l)
section
variable {X : Cx} {body : List Stmt} {hd0 : ExceptHandler} {hds : List ExceptHandler} {l : List (Value × (Addr → Value → Option Addr → TS))} {pos : Pos} {tb : WX → TS} {Wo : WX} {n : Str} {i : Nat}
theorem ps_manyN (stk : X.stack = X.env :: X.outer) (frm : X.env.frame = some X.env.locals) (nd : X.N.Nodup) (at_i : X.N[i]? = some n) (isl : X.env.kindOf n = some .local) (tk : Takes X Wo)
    (run : ∀ (W : WX) (pn : List (Addr × Obj)) (xe : Value → Shared → Prop), Takes (X.tr pn xe) W → PassesOwn (model X.prog X.w) X.A X.env xe → PSs (X.tr pn xe) body (tb W))
    (hand : HdsN X n (hd0 :: hds) l) : PS X (.Try body (hd0 :: hds) [] [] pos) (fun D σ H => tb (wManyN X.K i Wo D l) D σ H) := by
  constructor
  intro pins s σ H D I want
  have ok := I.ok
  have fr : X.A.frames = some (X.env :: X.outer) := by rw [ok.frames, stk]
  have place : Loc X.env.scope n := .inl isl
  apply wpAny_Try_except
  refine wpAny_mono ((run (wManyN X.K i Wo D l) (X.pn ++ pins) (fun e t1 => wpAny (model X.prog X.w) X.A (noteFrame e X.env) (fun _ t2 => wpAny (model X.prog X.w) X.A (setFlight e none) (fun _ t3 =>
    wpAny (model X.prog X.w) X.A (handleBy e X.env (hd0 :: hds)) (SP X pins D) X.xe t3) X.xe t2) X.xe t1) (fun u t xx => ?_) PassesOwn.looking).run [] s σ H D (I.toTry _) want) (fun f t1 ends => ?_) (fun _ _ z => z)
  · obtain ⟨a, B, sI, _, σ2, H2, cl, dd, rfl, J2, nb, up, sky, na, os, ag, wish⟩ := xx
    have J : Inv X pins σ2 H2 sI := J2.ofTry ok
    have sky2 : Sky B (X.env :: X.outer) a (Zc cl dd) X.env.locals t.heap := by rw [← stk]; exact sky
    show wpAny (model X.prog X.w) X.A (noteFrame (.ref a) X.env) _ _ _
    refine Sky.land Zc.steady fr frm sky2 fun h3 fl3 up3 => ?_
    have J3 : Inv X pins σ2 H2 { t with heap := h3 } := J.landed nb fl3.1 (up.trans up3) os ag
    obtain ⟨ob3, fv3, at3, z3, dt3⟩ := fl3.there
    have apart : a ∉ frs (X.env :: X.outer) := fun hm => by
      obtain ⟨_, o2, e2, hnf⟩ := fl3.2.2.1.mem hm
      rw [at3] at e2
      cases e2
      exact hnf _ dt3
    have nL : a ≠ X.env.locals := fun z => apart (List.mem_filterMap.mpr ⟨X.env, List.mem_cons_self, by rw [frm, z]⟩)
    have nF : a ∉ X.fs := fun hm => by
      obtain ⟨e, me, q⟩ := List.mem_filterMap.mp hm
      exact apart (List.mem_filterMap.mpr ⟨e, List.mem_cons_of_mem _ me, q⟩)
    have S3 := J3.suite at3 dt3 na nL nF
    have go : ∀ {hs : List ExceptHandler} {m : List (Value × (Addr → Value → Option Addr → TS))}, HdsN X n hs m → wManyN X.K i Wo D m cl dd σ2 H2 →
        wpAny (model X.prog X.w) X.A (handleBy (.ref a) X.env hs) (SP X pins D) X.xe { t with heap := h3 } := by
      intro hs m hk
      induction hk with
      | nil =>
        intro w
        apply wpAny_handleBy_nil
        obtain ⟨k1, k2, k3, ob, fv, T1, oT, t4, he, hz, hd, h1, hr⟩ := id fl3
        unfold PySem.passOn
        apply wpAny_bind
        refine wpAny_field he hd h1 ?_
        rw [if_neg (show ¬ ((Value.ref T1 == Value.none) = true) from by simp)]
        have out : wpAny (model X.prog X.w) X.A (setFlight (.ref a) X.env.frame) (fun _ t5 => wpAny (model X.prog X.w) X.A (throw (.ref a) : Sem Flow) (SP X pins D) X.xe t5) X.xe { t with heap := h3 } := by
          rw [frm]
          refine HandSPX.setFlight_upZ fl3 fun h4 ww up4 => wpAny_throw (tk _ _ ?_)
          exact ⟨a, B, sI, pins, σ2, H2, cl, dd, rfl, J, nb, (up.trans up3).trans up4, .inr (.inr (by rw [stk]; exact ww)), na, os, ag, w⟩
        first
          | exact wpAny_bind (wpAny_pure (wpAny_bind out))
          | exact wpAny_bind out
      | @cons x c sx st0 sts p1 p2 more m2 names suite rest ih =>
        intro w
        obtain ⟨yes, is, yea, nay⟩ := w
        refine wpAny_handleBy_cons (codeAny_handlers_test ?_) (by intro q; cases q)
        have look : PySem.W.Looks (model X.prog X.w) h3 (typeOf (.ref a)) cl := fun A Q E s k q => wpAny_typeOf_ref (k _ _ at3) (by rw [z3.1]; exact q)
        have one := PySem.W.exm_one (M := model X.prog X.w) (J3.kIn) look is
        have test : ∀ {Q : Value → Shared → Prop} {E : Value → Shared → Prop}, Q c { t with heap := h3 } → wpAny (model X.prog X.w) (X.A.mark (some (.ref a))) (eval (.Name x p1) X.env) Q E { t with heap := h3 } := fun {Q E} q => by
          obtain ⟨hg, dbg, hm | ⟨hm, hv, nn⟩⟩ := names
          · exact ld_glob (X := X.suite a ((a, ob3) :: (X.pn ++ pins))) S3 hg hm q dbg
          · exact ld_blt (X := X.suite a ((a, ob3) :: (X.pn ++ pins))) S3 hg hm hv q nn dbg
        apply test
        apply one.here
        cases yes with
        | true =>
          apply codeAny_handlers_suite_as
          refine HandSPX.lands_againZ fl3 fun h4 fl4 up4 => ?_
          have J4 : Inv X pins σ2 H2 { t with heap := h4 } := J.landed nb fl4.1 ((up.trans up3).trans up4) os ag
          obtain ⟨ob4, fv4, at4, z4, dt4⟩ := fl4.there
          have S4 := J4.suite at4 dt4 na nL nF
          refine store_ok (X := X.suite a ((a, ob4) :: (X.pn ++ pins))) (v := .ref a) S4 nd at_i place rfl (fun t5 S5 => ?_) (.inr isl)
          refine wpAny_mono ((suite a ob4 cl dd (X.pn ++ pins) z4 ⟨_, dt4⟩).run [] t5 _ H2 _ S5 (yea rfl a na)) (fun f t6 hsp => ?_) (fun _ _ z => z.elim)
          have over : ∀ {σ6 : L2.St} {H6 : Hp} {Q : Shared → Prop}, Inv (X.suite a ((a, ob4) :: (X.pn ++ pins))) [] σ6 H6 t6 → (∀ t7, Inv X pins (σ6.set i none) H6 t7 → Q t7) →
              wpAny (model X.prog X.w) X.A (do bindName X.env n .none; unbindBehindTheSuite X.env n p2) (fun _ t7 => Q t7) X.xe t6 := fun {σ6 H6 Q} S6 hq => gone_ok (S6.unsuite ok) nd at_i isl hq
          cases f with
          | next =>
            obtain ⟨σ6, H6, S6, q6⟩ := hsp
            exact over S6 fun t7 J7 => ⟨_, _, J7, q6⟩
          | brk =>
            obtain ⟨σ6, H6, S6, q6⟩ := hsp
            exact over S6 fun t7 J7 => ⟨_, _, J7, q6⟩
          | cont =>
            obtain ⟨σ6, H6, S6, q6⟩ := hsp
            exact over S6 fun t7 J7 => ⟨_, _, J7, q6⟩
          | ret u =>
            obtain ⟨v6, σ6, H6, S6, r6, q6⟩ := hsp
            exact over S6 fun t7 J7 => ⟨_, _, _, J7, r6, q6⟩
        | false =>
          show wpAny _ X.A (handleBy (.ref a) X.env more) _ _ _
          exact ih (nay rfl)
    exact go hand wish
  · cases f with
    | next =>
      obtain ⟨σ2, H2, J2, q⟩ := ends
      exact wpAny_execs_nil ⟨σ2, H2, J2.ofTry ok, q⟩
    | brk =>
      obtain ⟨σ2, H2, J2, q⟩ := ends
      exact ⟨σ2, H2, J2.ofTry ok, q⟩
    | cont =>
      obtain ⟨σ2, H2, J2, q⟩ := ends
      exact ⟨σ2, H2, J2.ofTry ok, q⟩
    | ret u =>
      obtain ⟨v, σ2, H2, J2, r, q⟩ := ends
      exact ⟨v, σ2, H2, J2.ofTry ok, r, q⟩
end
end Kx
namespace Kx
open PySem PySem.Spec PyProof.Rows L2 SX LamX Ms
/-- no positional value, three by name: c, b, a for a, b, c -/
def backG {α : Type} (us ws : List α) : List α := match us, ws with | [], [c, b, a] => [a, b, c] | _, _ => []
theorem kb_back {K : PySem.W.Frag} {x qual : Str} {st : Stmt} {f : Addr} {fd : FuncData} {a b c : Str} (F : Fun K x qual st f fd)
    (h : ∀ (kV doc pm : Value) (an : Option Addr) (cdv ct : Value) (u v w : Value), bindArgs (PySem.W.fnOf x qual (defArgs st) (defBody st) (defScope st) .none kV doc pm an cdv ct) ⟨[], [(c, w), (b, v), (a, u)]⟩ = pure [(a, u), (b, v), (c, w)]) :
    KBinds K fd [a, b, c] [c, b, a] backG backG := by
  obtain ⟨oc, od, kV, doc, pm, an, cdv, ct, osl, rfl, lk, hcd⟩ := F.ex
  refine ⟨fun s us ws X l => ?_, fun {vs us zs ws} r1 r2 => ?_⟩
  · match us, ws, l with
    | [], [w, v, u], _ => exact .of_eq (h kV doc pm an cdv ct u v w)
    | [], [], l => cases l
    | [], [_], l => cases l
    | [], [_, _], l => cases l
    | [], _ :: _ :: _ :: _ :: _, l => cases l
    | _ :: _, _, l => cases l
  · cases r1 with
    | cons _ _ => exact .nil
    | nil =>
      cases r2 with
      | nil => exact .nil
      | cons h1 r2 =>
        cases r2 with
        | nil => exact .nil
        | cons h2 r2 =>
          cases r2 with
          | nil => exact .nil
          | cons h3 r2 =>
            cases r2 with
            | nil => exact .cons h3 (.cons h2 (.cons h1 .nil))
            | cons _ _ => exact .nil
theorem pl_standA {s : Mst} {l : List (Int × Int)} : ∀ d ∈ standD s l, Pl 2 d := fun d m => by
  have up : ∀ {k j : Nat} {d : PyData}, Pl k d → k ≤ j → Pl j d := fun h hk => ⟨h.1, Nat.le_trans h.2 hk⟩
  have hi : ∀ i : Int, Pl 2 (.int i) := fun i => pl_int 2 i
  have hb : ∀ b : Bool, Pl 2 (.bool b) := fun b => ⟨rfl, Nat.zero_le _⟩
  unfold standD at m
  simp only [List.mem_cons, List.not_mem_nil, or_false] at m
  rcases m with rfl | rfl | rfl | rfl | rfl | rfl | rfl | rfl | rfl | rfl | rfl | rfl
  · exact hi _
  · exact hi _
  · exact hb _
  · exact hb _
  · exact hb _
  · exact hi _
  · exact hi _
  · exact hi _
  · refine Pl.tup fun d m => ?_
    obtain ⟨p, _, rfl⟩ := List.mem_map.mp m
    refine Pl.tup fun d m => ?_
    simp only [List.mem_cons, List.not_mem_nil, or_false] at m
    rcases m with rfl | rfl <;> exact pl_int 0 _
  · exact hi _
  · refine Pl.tup fun d m => ?_
    obtain ⟨i, _, rfl⟩ := List.mem_map.mp m
    exact pl_int 1 i
  · exact hb _
end Kx
namespace Kx
open PySem PySem.Spec PyProof.Rows L2 SX LamX Ms
theorem go_call {sp : Sp} {dvs : List V} {E : XK} {t : TA} {σ : L2.St} {H : Hp} {Q : VK} (h : t σ H fun vs H1 => sp (vs ++ dvs) H1 Q E) : tCall sp dvs E t σ H Q := h
end Kx
namespace Kx
open PySem PySem.Spec PyProof.Rows L2 SX LamX
theorem sub_str {K : PySem.W.Frag} {C : Addr} : PySem.W.subIn K (.type "str") (.ref C) = some false := by
  have e : fastBuiltinMro "str" = some [.type "str", .type "object"] := by decide +kernel
  show (fastBuiltinMro "str").map (·.contains (.ref C)) = some false
  rw [e]
  first
    | rfl
    | simp
theorem sub_bool {K : PySem.W.Frag} {C : Addr} : PySem.W.subIn K (.type "bool") (.ref C) = some false := by
  have e : fastBuiltinMro "bool" = some [.type "bool", .type "int", .type "object"] := by decide +kernel
  show (fastBuiltinMro "bool").map (·.contains (.ref C)) = some false
  rw [e]
  first
    | rfl
    | simp
theorem sub_dict {K : PySem.W.Frag} {C : Addr} : PySem.W.subIn K (.type "dict") (.ref C) = some false := by
  have e : fastBuiltinMro "dict" = some [.type "dict", .type "object"] := by decide +kernel
  show (fastBuiltinMro "dict").map (·.contains (.ref C)) = some false
  rw [e]
  first
    | rfl
    | simp
end Kx
namespace Ms
open PySem PySem.Spec PyProof.Rows L2 Kx SX LamX
/-- a value of a type of the language, at another place than the rack -/
inductive Od (w : Addr) (H : Hp) : V → Prop
  | non : Od w H .non
  | int (i : Int) : Od w H (.int i)
  | bl (b : Bool) : Od w H (.bl b)
  | str (s : Str) : Od w H (.str s)
  | lst {u : Addr} {xs : List V} (n : u ≠ w) (h : H u = some (.lst xs)) : Od w H (.ref u)
  | tup {u : Addr} {xs : List V} (n : u ≠ w) (h : H u = some (.tup xs)) : Od w H (.ref u)
  | dct {u : Addr} {kv : List (Key × V)} (n : u ≠ w) (h : H u = some (.dK kv)) : Od w H (.ref u)
section
variable {K : PySem.W.Frag} {w C : Addr} {H H' : Hp} {x : V}
theorem Od.mv (m : Mv w H H') (h : Od w H x) : Od w H' x := by
  cases h with
  | non => exact .non
  | int i => exact .int i
  | bl i => exact .bl i
  | str i => exact .str i
  | lst n h => exact .lst n (m _ _ n h)
  | tup n h => exact .tup n (m _ _ n h)
  | dct n h => exact .dct n (m _ _ n h)
theorem Od.kit (h : Od w H x) (h1 : PySem.W.isClsIn K C = true) (h2 : PySem.W.typeIn K (.ref C) = some (.type "type")) : ∃ t, TyX K H x t ∧ PySem.W.kitOne K t (.ref C) = some false := by
  cases h with
  | non => exact ⟨_, .base .non, kitOne_no h1 h2 sub_non⟩
  | int i => exact ⟨_, .base (.int i), kitOne_no h1 h2 sub_int⟩
  | bl i => exact ⟨_, .base (.bl i), kitOne_no h1 h2 sub_bool⟩
  | str i => exact ⟨_, .base (.str i), kitOne_no h1 h2 sub_str⟩
  | lst n h => exact ⟨_, .base (.lst h), kitOne_no h1 h2 sub_list⟩
  | tup n h => exact ⟨_, .base (.tup h), kitOne_no h1 h2 sub_tuple⟩
  | dct n h => exact ⟨_, .base (.dK h), kitOne_no h1 h2 sub_dict⟩
theorem Od.has (h : Od w H x) : HasInt K H x := by
  cases h with
  | non => exact hasInt_non
  | int i => exact hasInt_int i
  | bl i => exact hasInt_bl i
  | str i => exact hasInt_str i
  | lst n h => exact hasInt_lst (.inl (.inl h))
  | tup n h => exact hasInt_tup (.inl (.inl h))
  | dct n h => exact hasInt_dk h
theorem withinV_od {lo hi : Option Int} (h : Od w H x) (hi' : ∀ i, x = .int i → withinB i lo hi = false) : withinV x lo hi = false := by
  cases h with
  | int i => exact hi' i rfl
  | non => rfl
  | bl i => rfl
  | str i => rfl
  | lst n h => rfl
  | tup n h => rfl
  | dct n h => rfl
end
/-- no list or tuple of ints -/
inductive NoL (w : Addr) (H : Hp) : V → Prop
  | non : NoL w H .non
  | int (i : Int) : NoL w H (.int i)
  | bl (b : Bool) : NoL w H (.bl b)
  | str (s : Str) : NoL w H (.str s)
  | dct {u : Addr} {kv : List (Key × V)} (n : u ≠ w) (h : H u = some (.dK kv)) : NoL w H (.ref u)
  | lst {u : Addr} {xs : List V} (n : u ≠ w) (h : H u = some (.lst xs)) (a : xs.all isIntV = false) (o : ∀ z ∈ xs, Od w H z) (l : xs.length ≤ 100000) : NoL w H (.ref u)
  | tup {u : Addr} {xs : List V} (n : u ≠ w) (h : H u = some (.tup xs)) (a : xs.all isIntV = false) (o : ∀ z ∈ xs, Od w H z) (l : xs.length ≤ 100000) : NoL w H (.ref u)
section
variable {K : PySem.W.Frag} {w C : Addr} {H H' : Hp} {x : V}
theorem NoL.mv (m : Mv w H H') (h : NoL w H x) : NoL w H' x := by
  cases h with
  | non => exact .non
  | int i => exact .int i
  | bl i => exact .bl i
  | str i => exact .str i
  | dct n h => exact .dct n (m _ _ n h)
  | lst n h a o l => exact .lst n (m _ _ n h) a (fun z hz => (o z hz).mv m) l
  | tup n h a o l => exact .tup n (m _ _ n h) a (fun z hz => (o z hz).mv m) l
/-- what are_integers is asked of it -/
theorem NoL.ints (h : NoL w H x) : (∃ n : String, TyX K H x (.type n) ∧ PySem.W.kitAny K (.type n) [.type "list", .type "tuple"] = some false ∧ false = false) ∨
  ∃ (p : Addr) (zs : List V), x = .ref p ∧ SqQ K H p zs ∧ (∀ z ∈ zs, HasInt K H z) ∧ zs.length ≤ 100000 ∧ false = zs.all isIntV := by
  cases h with
  | non => exact .inl ⟨_, .base .non, rfl, rfl⟩
  | int i => exact .inl ⟨_, .base (.int i), rfl, rfl⟩
  | bl i => exact .inl ⟨_, .base (.bl i), rfl, rfl⟩
  | str i => exact .inl ⟨_, .base (.str i), rfl, rfl⟩
  | dct n h => exact .inl ⟨_, .base (.dK h), rfl, rfl⟩
  | lst n h a o l => exact .inr ⟨_, _, rfl, .inl (.inl (.inl h)), fun z hz => (o z hz).has, l, a.symm⟩
  | tup n h a o l => exact .inr ⟨_, _, rfl, .inr (.inl (.inl h)), fun z hz => (o z hz).has, l, a.symm⟩
end
/-- the answer to what is refused right -/
def heardD : PyData := .list [.tuple [.str "BadMachine", .str "stand"], .tuple [.str "BadNumber", .str "number"], .tuple [.str "BadHeard", .str "heard"], .none]
end Ms
namespace Ms
open PySem PySem.Spec PyProof.Rows L2 Kx SX LamX
/-! ### how far the numbers grow, told apart by words -/
def wt (n : Nat) : Nat := if n = 2 then 1 else if 4 ≤ n ∧ n < 20 then 3 else 0
def gro (n b : Nat) : Nat := if n = 6 then 2 * b else b + wt n
def wts (r : List Nat) : Nat := (r.map wt).sum
theorem wts_app (a b : List Nat) : wts (a ++ b) = wts a + wts b := by unfold wts; rw [List.map_append, List.sum_append]
theorem gro_le (n b : Nat) : b ≤ gro n b := by unfold gro; split <;> omega
theorem bd_do2 {b : Nat} {s : Mst} {n : Nat} {ns : List Int} (h : Bd b s) (hb : 3 ≤ b) (hn : ∀ i ∈ ns, Bi b i) (hl : ns.length ≤ 100000) : Bd (gro n b) (doW ns s n) := by
  by_cases h6 : n = 6
  · subst h6
    exact bd_do h hb hn hl
  by_cases hf : 4 ≤ n ∧ n < 20
  · have e : gro n b = grow n b := by
      unfold gro grow wt
      rw [if_neg h6, if_neg h6, if_neg (by omega), if_pos hf]
    rw [e]
    exact bd_do h hb hn hl
  have one : Bi b (-1) := Nat.lt_of_lt_of_le (show (-1 : Int).natAbs < 2 ^ 3 by decide) (Nat.pow_le_pow_right (by decide) hb)
  by_cases h2 : n = 2
  · subst h2
    have hg := h.mono (show b ≤ gro 2 b from gro_le 2 b)
    unfold doW
    rw [if_neg (by decide : ¬ (2 : Nat) = 0), if_neg (by decide : ¬ (2 : Nat) = 1), if_pos rfl]
    split
    · exact hg
    · refine { hg with block := ?_, low := ?_ }
      · show Bi _ (if s.tick = true then s.block + 1 else s.block)
        split
        · show (s.block + 1).natAbs < 2 ^ (b + 1)
          have h1 : s.block.natAbs < 2 ^ b := h.block
          have h3 : 1 ≤ 2 ^ b := Nat.pow_pos (by decide)
          rw [Nat.pow_succ]
          omega
        · exact hg.block
      · show -1 ≤ (if s.tick = true then s.block + 1 else s.block)
        have := h.low
        split <;> omega
  have e : gro n b = b := by
    unfold gro wt
    rw [if_neg h6, if_neg h2, if_neg hf]
    rfl
  rw [e]
  unfold doW
  rw [if_neg h2]
  split
  · exact h
  split
  · exact { h with block := one, low := Int.le_refl _ }
  split
  · exact { h with }
  split
  · exact h
  split
  · exact { h with }
  rw [if_neg (by omega)]
  exact bd_bare h (by omega)
def lastC : List Nat → Nat → Nat
  | [], b => b
  | n :: r, b => lastC r (gro n b)
theorem lastC_mono : ∀ (r : List Nat) (b : Nat), b ≤ lastC r b
  | [], b => Nat.le_refl _
  | n :: r, b => Nat.le_trans (gro_le n b) (lastC_mono r (gro n b))
theorem bd_rowC {ns : List Int} (hl : ns.length ≤ 100000) : ∀ (r : List Nat) (b : Nat) (s : Mst), Bd b s → 3 ≤ b → (∀ i ∈ ns, Bi b i) → ∀ k, Bd (lastC r b) (doR ns s (r.take k))
  | [], b, s, h, hb, hn, k => by rw [List.take_nil]; exact h
  | n :: r, b, s, h, hb, hn, 0 => h.mono (lastC_mono (n :: r) b)
  | n :: r, b, s, h, hb, hn, k + 1 => bd_rowC hl r (gro n b) (doW ns s n) (bd_do2 h hb hn hl) (Nat.le_trans hb (gro_le n b)) (fun i m => (hn i m).mono (gro_le n b)) k
theorem lastC_none : ∀ (r : List Nat) (b : Nat), 6 ∉ r → lastC r b = b + wts r
  | [], b, _ => rfl
  | n :: r, b, h => by
    have h1 : n ≠ 6 := fun e => h (by rw [e]; exact List.mem_cons_self)
    show lastC r (gro n b) = _
    rw [lastC_none r _ fun m => h (List.mem_cons_of_mem _ m)]
    unfold gro
    rw [if_neg h1]
    show b + wt n + wts r = b + (wt n + wts r)
    omega
theorem lastC_one : ∀ (r : List Nat) (b : Nat), r.count 6 ≤ 1 → 6 ∈ r → lastC r b + 6 ≤ 2 * (b + wts r)
  | [], b, _, m => nomatch m
  | n :: r, b, h, m => by
    show lastC r (gro n b) + 6 ≤ 2 * (b + (wt n + wts r))
    by_cases h1 : n = 6
    · subst h1
      have h6 : 6 ∉ r := by
        rw [List.count_cons_self] at h
        exact List.count_eq_zero.mp (by omega)
      rw [lastC_none r _ h6]
      show 2 * b + wts r + 6 ≤ 2 * (b + (3 + wts r))
      omega
    · have h6 : 6 ∈ r := by
        rcases List.mem_cons.mp m with e | m
        · exact absurd e.symm h1
        · exact m
      have hc : r.count 6 ≤ 1 := by
        rw [List.count_cons_of_ne h1] at h
        exact h
      have := lastC_one r (gro n b) hc h6
      have e : gro n b = b + wt n := by unfold gro; rw [if_neg h1]
      rw [e] at this ⊢
      omega
/-- a row of weight 92 at most, one multiply in it at most -/
theorem lastC_le {r : List Nat} {b : Nat} (h : r.count 6 ≤ 1) (hw : wts r ≤ 92) (hb : 83 ≤ b) : lastC r b ≤ 2 * (b + 89) := by
  by_cases m : 6 ∈ r
  · have := lastC_one r b h m
    omega
  · rw [lastC_none r b m]
    omega
end Ms
namespace Kx
open PySem PySem.Spec PyProof.Rows L2 SX LamX
section
variable {X : Cx} {CX : CXT} {k : Nat} {f C : Addr} {fd : FuncData} {ps : List Str} {sp : Sp} {E : L2.St → XK} {x m : Str} {p pos apos : Pos} {e o : Expr} {es : List Expr} {ta : TE} {t : TA}
/-! ### C(..) and o.m(..) within a try -/
theorem run_makeS {pins : List (Addr × Obj)} {σ : L2.St} {H : Hp} {s : Shared} {Q : VK} {us : List Value} {vs : List V} (M : Mk X.K C f) (F : FnOk X.prog X.w X.K X.mg X.base CX k f fd ps sp) (hr : Room (k + 1) X.A) (hb : Binds X.K fd ps [])
    (hx : PassesAt CX X σ (E σ)) (I : Inv X pins σ H s) (r : Vals vs us)
    (h : ∀ x dx, H x = none → H dx = none → dx ≠ x → sp (.ref x :: vs) (upd (upd H dx (.own x)) x (.ins C dx [])) (fun v H2 => v = .non ∧ Q (.ref x) H2) (E σ)) :
    wpAny (model X.prog X.w) X.A (call (.ref C) us) (EP X pins σ Q) X.xe s := by
  have hq := h (s.heap.objs.size + 1) s.heap.objs.size (I.hok.fresh (Nat.le_succ _)) (I.hok.fresh (Nat.le_refl _)) (Nat.ne_of_lt (Nat.lt_succ_self _))
  have I2 := Inv.made (C := C) I
  have r2 : Vals (V.ref (s.heap.objs.size + 1) :: vs) (Value.ref (s.heap.objs.size + 1) :: us) := .cons rfl r
  have hl : (Value.ref (s.heap.objs.size + 1) :: us ++ []).length = ps.length := by
    have e := r2.length
    rw [F.len _ _ _ _ hq] at e
    rw [List.append_nil]
    exact e.symm
  have b := hb _ (Value.ref (s.heap.objs.size + 1) :: us) I2.kIn hl
  rw [List.append_nil] at b
  refine wpAny_call (make_map (f := f) I.kIn M.makes M.init (beq_iff_eq.mp M.fn) (codeAny_mono (F.run _ X.stack _ _ ⟨Value.ref (s.heap.objs.size + 1) :: us, []⟩ (Value.ref (s.heap.objs.size + 1) :: us) _ _ (E σ) (hr.make C us [])
    (I2.env0.make C us []) b r2 hq) fun r s' hq' => ?_))
  cases r with
  | error e => exact hx pins _ _ e s' I2 hq'
  | ok fl =>
    cases fl with
    | ret u =>
      obtain ⟨v, H', I3, rv, ev, q3⟩ := I2.after hq'
      subst ev
      exact ⟨rv, ⟨V.ref (s.heap.objs.size + 1), H', I3, rfl, q3⟩⟩
    | next => exact False.elim hq'
    | brk => exact False.elim hq'
    | cont => exact False.elim hq'
def tMakeS (C : Addr) (sp : Sp) (E : L2.St → XK) (t : TA) : TE := fun σ H Q => t σ H fun vs H1 => ∀ x dx, H1 x = none → H1 dx = none → dx ≠ x →
  sp (.ref x :: vs) (upd (upd H1 dx (.own x)) x (.ins C dx [])) (fun v H2 => v = .non ∧ Q (.ref x) H2) (E σ)
theorem pe_makeS (M : Mk X.K C f) (F : FnOk X.prog X.w X.K X.mg X.base CX k f fd ps sp) (hr : Room (k + 1) X.A) (hg : Gl X x) (hm : X.mg x = some (.ref C)) (hb : Binds X.K fd ps []) (hx : ∀ σ, PassesAt CX X σ (E σ))
    (ha : PA X (e :: es) t) (hdb : (x == ("__debug__" : Str)) = false := by decide) (he : starEach (e :: es) X.env = (false, eval e X.env) :: starEach es X.env := by rfl) (hpl : (backTo pos (starEach es X.env)).any (·.1) = false := by rfl) :
    PE X (.Call (.Name x p) (e :: es) [] pos) (tMakeS C sp E t) := by
  refine ⟨fun pins s σ H Q I h => ?_⟩
  refine wpAny_Call_Name_kw (ld_glob I hg hm ?_ hdb)
  refine PySem.W.callWith_K (h₀ := X.base) I.ok.mod.kin M.kp (thn (ha.run pos pins s σ H _ I h) fun us s1 ⟨vs, H1, I1, r, q⟩ => ⟨I1.kIn, ?_⟩) he hpl
  exact run_makeS M F hr hb (hx σ) I1 r q
def tMethS (C : Addr) (m : Str) (sp : Sp) (E : L2.St → XK) (ta : TE) (t : TA) : TE := fun σ H Q => ta σ H fun x H1 => ∃ a dx fs, x = .ref a ∧ H1 a = some (.ins C dx fs) ∧ fs.lookup m = none ∧
  t σ H1 fun vs H2 => sp (x :: vs) H2 Q (E σ)
theorem pe_methS {pl : Sem Bool} (he : PE X o ta) (c : Cls X.K C) (hm : Meth X.K C m f) (F : FnOk X.prog X.w X.K X.mg X.base CX k f fd ps sp) (hr : Room k X.A) (hb : Binds X.K fd ps []) (hx : ∀ σ, PassesAt CX X σ (E σ)) (ha : PA X (e :: es) t)
    (hst : starEach (e :: es) X.env = (false, eval e X.env) :: starEach es X.env := by rfl) (hpl : (backTo pos (starEach es X.env)).any (·.1) = false := by rfl)
    (ht : eval (.Call (.Attribute o m apos) (e :: es) [] pos) X.env = (do
      let ov ← eval o X.env
      standAt apos.atName
      let (f, first) ← holding [ov] (getMethod ov m pl)
      callWith pos f first (backTo pos (starEach (e :: es) X.env)) (backToKw pos (keywordEach [] X.env))) := by rfl) :
    PE X (.Call (.Attribute o m apos) (e :: es) [] pos) (tMethS C m sp E ta t) := by
  refine ⟨fun pins s σ H Q I h => ?_⟩
  refine PySem.W.methodCall_KW (pl := pl) (thn (he.run pins s σ H _ I h) fun u s1 ⟨x, H1, I1, rx, a, dx, fs, ex, ea, l, q⟩ => ?_) ht
  subst ex
  obtain rfl : u = Value.ref a := rx
  refine getmeth_ok I1 ea c hm l ?_
  refine PySem.W.callWith_K (first := [.ref a]) (h₀ := X.base) I.ok.mod.kin hm.kp (thn (ha.run pos pins s1 σ H1 _ I1 q) fun us s2 ⟨vs, H2, I2, r, q2⟩ => ⟨I2.kIn, ?_⟩) hst hpl
  exact run_fnS (us := .ref a :: us) (vs := .ref a :: vs) F hr hb (hx σ) I2 (.cons rfl r) q2
end
section
variable {X : Cx}
/-! ### x != i of an instance with an == of its own -/
def rNeII (K : PySem.W.Frag) (C : Addr) (sp : Sp) : R2 := fun x y H Q => ∃ a dx fs i, x = .ref a ∧ H a = some (.ins C dx fs) ∧ y = .int i ∧ sp [x, y] H (fun v H' => ∃ b, v = .bl b ∧ Q (.bl (!b)) H') C8.E0
theorem op_neII {C f : Addr} {fd : FuncData} {ps : List Str} {n : Nat} {sp : Sp} (F : FnOk X.prog X.w X.K X.mg X.base C8.CX0 n f fd ps sp) (hb : Binds X.K fd ps []) (hr : Room (n + 1) X.A)
    (hs : PySem.W.findIn X.K (.ref C) "__eq__" = some (some (.ref f))) (hf : PySem.W.isFn X.K (.ref f) = true) (hm : PySem.W.mroIn X.K C (.type "object") = some true) (hne : PySem.W.findIn X.K (.ref C) "__ne__" = some (some (.builtin "object.__ne__"))) :
    OpR X (compareOp .NotEq) (rNeII X.K C sp) := by
  intro pins s σ H x y v u Q I rx ry hq
  obtain ⟨a, dx, fs, i, rfl, ha, rfl, h⟩ := hq
  cases rx
  obtain ⟨t, rfl⟩ := (show ∃ t, u = Value.int i t from ry)
  obtain ⟨mA, J, _⟩ := ins_get I.hok ha
  obtain ⟨od, J, _⟩ := J.look
  have lk : PySem.W.Looks (model X.prog X.w) s.heap (typeOf (Value.int i t)) (.type "int") := .now
  have nf : PySem.W.notFirst X.K C (.type "int") = true := by
    unfold PySem.W.notFirst
    rw [sub_int]
    rfl
  show wpAny (model X.prog X.w) X.A (richCompare .NotEq (.ref a) (.int i t)) _ _ s
  refine rich_ne hr.in1.units0 I.kIn J lk nf hm hs hf hne ?_
  have e0 : Env0 X.prog X.w X.K X.mg X.base X.A.in1 X.stack s H := by
    have e := I.env0
    exact ⟨by exact e.frames, e.mod, e.bs, e.bsz, e.funs, e.frf, e.hok, e.bare⟩
  have hl := F.len _ _ _ _ h
  have r2 : Vals [V.ref a, V.int i] [Value.ref a, Value.int i t] := .cons rfl (.cons ⟨_, rfl⟩ .nil)
  refine wpAny_call (codeAny_mono (F.run X.A.in1 X.stack s H ⟨[.ref a, .int i t], []⟩ [.ref a, .int i t] [.ref a, .int i] _ C8.E0 hr.in1 e0 (by
    have := hb s [.ref a, .int i t] I.kIn (by simpa using hl)
    simpa using this) r2 h) fun r s' hq => ?_)
  match r, hq with
  | .error e, hq => exact (show False from hq).elim
  | .ok (.ret w), hq =>
    obtain ⟨z, H', I', rz, c, rfl, q⟩ := I.after hq
    cases rz
    exact ⟨c, rfl, .bl (!c), H', I', rfl, q⟩
  | .ok .next, hq => exact False.elim hq
  | .ok .brk, hq => exact False.elim hq
  | .ok .cont, hq => exact False.elim hq
end
end Kx
namespace Ms
/-! ### rows made ready for many passes -/
theorem snoc_ind {α : Type} {P : List α → Prop} (h0 : P []) (h1 : ∀ (l : List α) (a : α), P l → P (l ++ [a])) (l : List α) : P l := by
  have h : ∀ m : List α, P m.reverse := fun m => by
    induction m with
    | nil => exact h0
    | cons a m ih =>
      rw [List.reverse_cons]
      exact h1 _ a ih
  rw [← l.reverse_reverse]
  exact h _
def keepAt (row : List Nat) (i : Nat) : Bool := decide (i = 0) || !decide (row.getD (i - 1) 0 = row.getD i 0)
def thinZ (row : List Nat) : List (Option Nat) := (List.range row.length).map fun i => if keepAt row i = true then some (row.getD i 0) else none
def thinI (row : List Nat) : List Nat := (thinZ row).filterMap id
theorem thinZ_snoc (row : List Nat) (n : Nat) : thinZ (row ++ [n]) = thinZ row ++ [if keepAt (row ++ [n]) row.length = true then some n else none] := by
  unfold thinZ
  rw [List.length_append, List.length_singleton, List.range_succ, List.map_append]
  refine congr (congrArg _ (List.map_congr_left fun i hi => ?_)) ?_
  · have hi := List.mem_range.mp hi
    have e1 : (row ++ [n]).getD i 0 = row.getD i 0 := by
      rw [List.getD_eq_getElem?_getD, List.getD_eq_getElem?_getD, List.getElem?_append_left hi]
    have e2 : (row ++ [n]).getD (i - 1) 0 = row.getD (i - 1) 0 := by
      rw [List.getD_eq_getElem?_getD, List.getD_eq_getElem?_getD, List.getElem?_append_left (by omega)]
    unfold keepAt
    rw [e1, e2]
  · have e1 : (row ++ [n]).getD row.length 0 = n := by
      rw [List.getD_eq_getElem?_getD, List.getElem?_append_right (Nat.le_refl _), Nat.sub_self]
      rfl
    rw [List.map_singleton, e1]
theorem thinI_snoc (row : List Nat) (n : Nat) : thinI (row ++ [n]) = thinI row ++ (if keepAt (row ++ [n]) row.length = true then [n] else []) := by
  unfold thinI
  rw [thinZ_snoc, List.filterMap_append]
  split <;> rfl
theorem thin_same (ns : List Int) (s : Mst) (row : List Nat) (h : ∀ n ∈ row, n < 30) : doR ns s (thinI row) = doR ns s row := by
  revert h
  refine snoc_ind (P := fun row => (∀ n ∈ row, n < 30) → doR ns s (thinI row) = doR ns s row) (fun _ => rfl) (fun row n ih h => ?_) row
  · have ih := ih fun k m => h k (List.mem_append_left _ m)
    have hn := h n (List.mem_append_right _ (List.mem_singleton.mpr rfl))
    rw [thinI_snoc, doR_app, doR_app, ih]
    split
    · rfl
    · rename_i hk
      unfold keepAt at hk
      simp only [Bool.or_eq_true, decide_eq_true_eq, Bool.not_eq_true', decide_eq_false_iff_not, not_or, Decidable.not_not] at hk
      have h0 : row ≠ [] := fun e => hk.1 (by rw [e]; rfl)
      obtain ⟨r, k, rfl⟩ : ∃ r k, row = r ++ [k] := ⟨row.dropLast, row.getLast h0, (List.dropLast_concat_getLast h0).symm⟩
      have e := hk.2
      rw [List.getD_eq_getElem?_getD, List.getD_eq_getElem?_getD, List.getElem?_append_left (by rw [List.length_append]; show r.length + 1 - 1 < r.length + 1; omega), List.getElem?_append_right (Nat.le_refl _), Nat.sub_self] at e
      rw [List.length_append, List.length_singleton, Nat.add_sub_cancel, List.getElem?_append_right (Nat.le_refl _), Nat.sub_self] at e
      have e : k = n := e
      subst e
      rw [doR_app]
      exact (doW_twice ns _ k hn).symm
theorem thin_mem {row : List Nat} {n : Nat} (h : n ∈ thinI row) : n ∈ row := by
  obtain ⟨o, ho, e⟩ := List.mem_filterMap.mp h
  obtain ⟨i, hi, rfl⟩ := List.mem_map.mp ho
  have hi := List.mem_range.mp hi
  have e : (if keepAt row i = true then some (row.getD i 0) else none) = some n := e
  split at e
  · cases e
    rw [List.getD_eq_getElem?_getD, List.getElem?_eq_getElem hi]
    exact List.getElem_mem hi
  · cases e
theorem thin_len (row : List Nat) : (thinI row).length ≤ row.length := by
  unfold thinI
  refine Nat.le_trans (List.length_filterMap_le _ _) ?_
  unfold thinZ
  rw [List.length_map, List.length_range]
  exact Nat.le_refl _
theorem thin_take (row : List Nat) : ∀ k, ∃ j, (thinI row).take k = thinI (row.take j) := by
  refine snoc_ind (P := fun row => ∀ k, ∃ j, (thinI row).take k = thinI (row.take j)) (fun k => ⟨0, by rw [List.take_nil]; exact List.take_nil⟩) (fun row n ih => ?_) row
  · intro k
    rw [thinI_snoc]
    by_cases hk : k ≤ (thinI row).length
    · obtain ⟨j, hj⟩ := ih k
      rw [List.take_append_of_le_length hk, hj]
      by_cases hj2 : j ≤ row.length
      · exact ⟨j, by rw [List.take_append_of_le_length hj2]⟩
      · exact ⟨row.length, by rw [List.take_of_length_le (by omega), List.take_append_of_le_length (Nat.le_refl _), List.take_length]⟩
    · refine ⟨row.length + 1, ?_⟩
      rw [List.take_of_length_le (l := row ++ [n]) (by rw [List.length_append]; exact Nat.le_refl _), thinI_snoc, List.take_of_length_le]
      rw [List.length_append]
      split
      · show _ + 1 ≤ k
        omega
      · show _ + 0 ≤ k
        omega
/-! ### block and tick behind each word -/
abbrev Pr := Int × Bool
def stepP (p : Pr) (n : Nat) : Pr := if n = 0 then (-1, p.2) else if n = 1 then (p.1, true) else if n = 2 ∧ p.2 = true then (p.1 + 1, false) else p
def behindA : Pr → List Nat → List Pr
  | _, [] => []
  | p, n :: r => stepP p n :: behindA (stepP p n) r
theorem behindA_snoc : ∀ (p : Pr) (r : List Nat) (n : Nat), behindA p (r ++ [n]) = behindA p r ++ [stepP (r.foldl stepP p) n]
  | p, [], n => rfl
  | p, k :: r, n => by
    show _ :: behindA (stepP p k) (r ++ [n]) = _
    rw [behindA_snoc (stepP p k) r n]
    rfl
theorem behindA_len : ∀ (p : Pr) (r : List Nat), (behindA p r).length = r.length
  | p, [] => rfl
  | p, k :: r => by
    show (behindA _ r).length + 1 = _
    rw [behindA_len (stepP p k) r, List.length_cons]
theorem behindA_last (p : Pr) (r : List Nat) (h : r ≠ []) : (behindA p r).getLast? = some (r.foldl stepP p) := by
  obtain ⟨q, k, rfl⟩ : ∃ q k, r = q ++ [k] := ⟨r.dropLast, r.getLast h, (List.dropLast_concat_getLast h).symm⟩
  rw [behindA_snoc, List.getLast?_append, List.foldl_append]
  rfl
def p0 : Pr := (-1, false)
/-! ### words side by side that want the same room -/
abbrev Grp := Int × Bool × List Nat
def addG (acc : List Grp) (p : Pr) (n : Nat) : List Grp :=
  if n < 3 then acc else match acc.getLast? with
    | some g => if g.1 = p.1 ∧ g.2.1 = p.2 then acc.dropLast ++ [(g.1, g.2.1, g.2.2 ++ [n])] else acc ++ [(p.1, p.2, [n])]
    | none => acc ++ [(p.1, p.2, [n])]
def grpsA : List Grp → List (Nat × Pr) → List Grp
  | acc, [] => acc
  | acc, x :: r => grpsA (addG acc x.2 x.1) r
theorem grpsA_snoc : ∀ (acc : List Grp) (l : List (Nat × Pr)) (x : Nat × Pr), grpsA acc (l ++ [x]) = addG (grpsA acc l) x.2 x.1
  | acc, [], x => rfl
  | acc, y :: l, x => grpsA_snoc (addG acc y.2 y.1) l x
def grps (row : List Nat) : List Grp := grpsA [] (row.zip (behindA p0 row))
def flatG (gs : List Grp) : List (Pr × Nat) := gs.flatMap fun g => g.2.2.map fun n => ((g.1, g.2.1), n)
theorem flatG_app (a b : List Grp) : flatG (a ++ b) = flatG a ++ flatG b := List.flatMap_append
theorem flatG_cons (g : Grp) (r : List Grp) : flatG (g :: r) = (g.2.2.map fun n => ((g.1, g.2.1), n)) ++ flatG r := List.flatMap_cons
theorem flat_add (acc : List Grp) (p : Pr) (n : Nat) : flatG (addG acc p n) = flatG acc ++ (if n < 3 then [] else [(p, n)]) := by
  unfold addG
  split
  · rw [List.append_nil]
  cases h : acc.getLast? with
  | none =>
    rw [flatG_app]
    rfl
  | some g =>
    dsimp only
    split
    · rename_i e
      obtain ⟨e1, e2⟩ := e
      have ea : acc = acc.dropLast ++ [g] := by
        have h0 : acc ≠ [] := fun z => by rw [z] at h; cases h
        have := List.dropLast_concat_getLast h0
        rw [List.getLast?_eq_some_getLast h0] at h
        cases h
        exact this.symm
      have e3 : flatG acc = flatG acc.dropLast ++ flatG [g] := by rw [← flatG_app, ← ea]
      rw [e3, flatG_app, List.append_assoc]
      congr 1
      rw [flatG_cons, flatG_cons, List.map_append, e1, e2, show flatG [] = [] from rfl, List.append_nil, List.append_nil]
      rfl
    · rw [flatG_app]
      rfl
def here (l : List (Nat × Pr)) : List (Pr × Nat) := l.filterMap fun x => if x.1 < 3 then none else some (x.2, x.1)
theorem flat_grpsA : ∀ (l : List (Nat × Pr)) (acc : List Grp), flatG (grpsA acc l) = flatG acc ++ here l
  | [], acc => by rw [show grpsA acc [] = acc from rfl, show here [] = [] from rfl, List.append_nil]
  | x :: l, acc => by
    show flatG (grpsA (addG acc x.2 x.1) l) = _
    rw [flat_grpsA l, flat_add, List.append_assoc]
    congr 1
    unfold here
    by_cases h : x.1 < 3
    · rw [if_pos h, List.filterMap_cons, if_pos h]
      rfl
    · rw [if_neg h, List.filterMap_cons, if_neg h]
      rfl
theorem addG_ne (acc : List Grp) (p : Pr) (n : Nat) (h : ∀ g ∈ acc, g.2.2 ≠ []) : ∀ g ∈ addG acc p n, g.2.2 ≠ [] := by
  unfold addG
  split
  · exact h
  cases hl : acc.getLast? with
  | none =>
    intro g m
    rcases List.mem_append.mp m with m | m
    · exact h g m
    · rw [List.mem_singleton.mp m]
      simp
  | some k =>
    dsimp only
    split
    · intro g m
      rcases List.mem_append.mp m with m | m
      · exact h g (List.dropLast_subset _ m)
      · rw [List.mem_singleton.mp m]
        simp
    · intro g m
      rcases List.mem_append.mp m with m | m
      · exact h g m
      · rw [List.mem_singleton.mp m]
        simp
theorem grpsA_ne : ∀ (l : List (Nat × Pr)) (acc : List Grp), (∀ g ∈ acc, g.2.2 ≠ []) → ∀ g ∈ grpsA acc l, g.2.2 ≠ []
  | [], acc, h => h
  | x :: l, acc, h => grpsA_ne l _ (addG_ne acc x.2 x.1 h)
theorem grps_ne (row : List Nat) : ∀ g ∈ grps row, g.2.2 ≠ [] := grpsA_ne _ _ (fun g m => by cases m)
/-! ### what a pass does -/
def setP (w : Mst) (p : Pr) : Mst := { w with block := p.1, tick := p.2 }
def stepF (ns : List Int) (w : Mst) (x : Pr × Nat) : Mst := if w.isd = true then w else if x.1.1 = w.room then doW ns (setP w x.1) x.2 else w
def runF (ns : List Int) (w : Mst) (l : List (Pr × Nat)) : Mst := l.foldl (stepF ns) w
theorem runF_app (ns : List Int) (w : Mst) (a b : List (Pr × Nat)) : runF ns w (a ++ b) = runF ns (runF ns w a) b := List.foldl_append ..
theorem runF_done (ns : List Int) (w : Mst) (h : w.isd = true) : ∀ l, runF ns w l = w
  | [] => rfl
  | x :: l => by
    show runF ns (stepF ns w x) l = w
    have e : stepF ns w x = w := by unfold stepF; rw [if_pos h]
    rw [e, runF_done ns w h l]
def okF (ns : List Int) (R : Mst → Prop) : Mst → List (Pr × Nat) → Prop
  | _, [] => True
  | w, x :: r => (w.isd = false → x.1.1 = w.room → R (setP w x.1) ∧ R (doW ns (setP w x.1) x.2)) ∧ okF ns R (stepF ns w x) r
theorem okF_app (ns : List Int) (R : Mst → Prop) : ∀ (a b : List (Pr × Nat)) (w : Mst), okF ns R w (a ++ b) → okF ns R w a ∧ okF ns R (runF ns w a) b
  | [], b, w, h => ⟨trivial, h⟩
  | x :: a, b, w, h => by
    obtain ⟨h1, h2⟩ := okF_app ns R a b (stepF ns w x) h.2
    exact ⟨⟨h.1, h1⟩, h2⟩
/-- a word that wants the room leaves block and tick -/
theorem doW_pair (ns : List Int) (s : Mst) (n : Nat) (h : 3 ≤ n) : (doW ns s n).block = s.block ∧ (doW ns s n).tick = s.tick := by
  unfold doW
  split
  · exact ⟨rfl, rfl⟩
  rw [if_neg (by omega), if_neg (by omega), if_neg (by omega)]
  split
  · exact ⟨rfl, rfl⟩
  split
  · exact ⟨rfl, rfl⟩
  split
  · split
    · unfold flagW
      (repeat' split) <;> exact ⟨rfl, rfl⟩
    · exact ⟨rfl, rfl⟩
  · unfold bareW
    (repeat' split) <;> exact ⟨rfl, rfl⟩
theorem doW_far (ns : List Int) (s : Mst) (n : Nat) (h : 3 ≤ n) (hb : s.block ≠ s.room) : doW ns s n = s := by
  unfold doW
  by_cases hd : s.isd = true
  · rw [if_pos hd]
  · rw [if_neg hd, if_neg (by omega), if_neg (by omega), if_neg (by omega), if_pos hb]
theorem doW_done (ns : List Int) (s : Mst) (n : Nat) (h : s.isd = true) : doW ns s n = s := by
  unfold doW
  rw [if_pos h]
theorem doR_done (ns : List Int) (s : Mst) (h : s.isd = true) : ∀ r, doR ns s r = s
  | [] => rfl
  | n :: r => by
    show doR ns (doW ns s n) r = s
    rw [doW_done ns s n h, doR_done ns s h r]
theorem doR_far (ns : List Int) (s : Mst) (hb : s.block ≠ s.room) : ∀ r : List Nat, (∀ n ∈ r, 3 ≤ n) → doR ns s r = s
  | [], _ => rfl
  | n :: r, h => by
    show doR ns (doW ns s n) r = s
    rw [doW_far ns s n (h n List.mem_cons_self) hb, doR_far ns s hb r fun k m => h k (List.mem_cons_of_mem _ m)]
theorem setP_self {w : Mst} {p : Pr} (h1 : w.block = p.1) (h2 : w.tick = p.2) : setP w p = w := by
  cases w
  cases h1
  cases h2
  rfl
/-- a stretch that is come to -/
theorem grp_run (ns : List Int) (R : Mst → Prop) (p : Pr) : ∀ (ws : List Nat) (w : Mst), (∀ n ∈ ws, 3 ≤ n) → w.block = p.1 → w.tick = p.2 → R w → okF ns R w (ws.map fun n => (p, n)) →
    runF ns w (ws.map fun n => (p, n)) = doR ns w ws ∧ ∀ k, R (doR ns w (ws.take k))
  | [], w, _, _, _, hR, _ => ⟨rfl, fun k => by rw [List.take_nil]; exact hR⟩
  | n :: r, w, h3, hb, ht, hR, ho => by
    have h3' : ∀ k ∈ r, 3 ≤ k := fun k m => h3 k (List.mem_cons_of_mem _ m)
    have hn := h3 n List.mem_cons_self
    have sp := setP_self hb ht
    by_cases hd : w.isd = true
    · refine ⟨?_, fun k => ?_⟩
      · rw [runF_done ns w hd, doR_done ns w hd]
      · rw [doR_done ns w hd]
        exact hR
    have hd : w.isd = false := by simpa using hd
    by_cases hr : w.block = w.room
    · have hr' : p.1 = w.room := by rw [← hb]; exact hr
      have e : stepF ns w (p, n) = doW ns w n := by
        unfold stepF
        rw [if_neg (by rw [hd]; decide), if_pos hr', sp]
      have h1 := ho.1 hd hr'
      have hv := doW_pair ns w n hn
      have R1 : R (doW ns w n) := by
        have := h1.2
        rw [sp] at this
        exact this
      have h2 := ho.2
      rw [e] at h2
      obtain ⟨q1, q2⟩ := grp_run ns R p r (doW ns w n) h3' (by rw [hv.1]; exact hb) (by rw [hv.2]; exact ht) R1 h2
      refine ⟨?_, fun k => ?_⟩
      · show runF ns (stepF ns w (p, n)) (r.map fun n => (p, n)) = _
        rw [e, q1]
        rfl
      · cases k with
        | zero => exact hR
        | succ k => exact q2 k
    · have e : ∀ ws : List Nat, runF ns w (ws.map fun n => (p, n)) = w := fun ws => by
        induction ws with
        | nil => rfl
        | cons a l ih =>
          show runF ns (stepF ns w (p, a)) _ = w
          have : stepF ns w (p, a) = w := by
            unfold stepF
            rw [if_neg (by rw [hd]; decide), if_neg (show ¬ p.1 = w.room from fun z => hr (by rw [hb]; exact z))]
          rw [this, ih]
      refine ⟨?_, fun k => ?_⟩
      · rw [e, doR_far ns w hr _ h3]
      · rw [doR_far ns w hr _ fun k m => h3 k (List.mem_of_mem_take m)]
        exact hR
theorem grp_in (ns : List Int) (R : Mst → Prop) (p : Pr) (n : Nat) (r : List Nat) (w : Mst) (h3 : ∀ k ∈ n :: r, 3 ≤ k) (hd : w.isd = false) (hr : p.1 = w.room) (ho : okF ns R w ((n :: r).map fun n => (p, n))) :
    runF ns w ((n :: r).map fun n => (p, n)) = doR ns (setP w p) (n :: r) ∧ ∀ k, R (doR ns (setP w p) ((n :: r).take k)) := by
  have h1 := ho.1 hd hr
  have e : stepF ns w (p, n) = doW ns (setP w p) n := by
    unfold stepF
    rw [if_neg (by rw [hd]; decide), if_pos hr]
  have hv := doW_pair ns (setP w p) n (h3 n List.mem_cons_self)
  have h2 := ho.2
  rw [e] at h2
  obtain ⟨q1, q2⟩ := grp_run ns R p r _ (fun k m => h3 k (List.mem_cons_of_mem _ m)) (by rw [hv.1]; rfl) (by rw [hv.2]; rfl) h1.2 h2
  refine ⟨?_, fun k => ?_⟩
  · show runF ns (stepF ns w (p, n)) (r.map fun n => (p, n)) = _
    rw [e, q1]
    rfl
  · cases k with
    | zero => exact h1.1
    | succ k => exact q2 k
theorem grp_out (ns : List Int) (p : Pr) (w : Mst) (hr : p.1 ≠ w.room) : ∀ ws : List Nat, runF ns w (ws.map fun n => (p, n)) = w
  | [] => rfl
  | n :: r => by
    show runF ns (stepF ns w (p, n)) (r.map fun n => (p, n)) = w
    have e : stepF ns w (p, n) = w := by
      unfold stepF
      rw [if_neg (show ¬ (p, n).1.1 = w.room from hr), ite_self]
    rw [e, grp_out ns p w hr r]
theorem okF_done (ns : List Int) (R : Mst → Prop) (w : Mst) (h : w.isd = true) : ∀ l, okF ns R w l
  | [] => trivial
  | x :: l => by
    have e : stepF ns w x = w := by unfold stepF; rw [if_pos h]
    refine ⟨fun z => absurd (h.symm.trans z) (by decide), ?_⟩
    rw [e]
    exact okF_done ns R w h l
/-- words of no room -/
theorem doW_low (ns : List Int) (s : Mst) (n : Nat) (h : n < 3) (hd : s.isd = false) : doW ns s n = setP s (stepP (s.block, s.tick) n) := by
  have hd' : ¬ s.isd = true := by rw [hd]; decide
  have : n = 0 ∨ n = 1 ∨ n = 2 := by omega
  rcases this with rfl | rfl | rfl
  · unfold doW
    rw [if_neg hd', if_pos rfl]
    rfl
  · unfold doW
    rw [if_neg hd', if_neg (by decide), if_pos rfl]
    rfl
  · unfold doW
    rw [if_neg hd', if_neg (by decide), if_neg (by decide), if_pos rfl]
    cases s
    rename_i tick _ _ _ _ _ _ _ _ _
    cases tick <;> rfl
/-- the stretches do what the row does -/
theorem sim (ns : List Int) (R : Mst → Prop) : ∀ (row : List Nat) (s w : Mst) (p : Pr), (∀ k, R (doR ns s (row.take k))) → s.isd = false → s.block = p.1 → s.tick = p.2 → setP w p = s →
    okF ns R w (here (row.zip (behindA p row))) ∧ ((doR ns s row).isd = true → runF ns w (here (row.zip (behindA p row))) = doR ns s row) ∧
      ((doR ns s row).isd = false → (runF ns w (here (row.zip (behindA p row)))).isd = false ∧ setP (runF ns w (here (row.zip (behindA p row)))) (row.foldl stepP p) = doR ns s row)
  | [], s, w, p, _, hd, hb, ht, hw => by
    refine ⟨trivial, fun h => ?_, fun _ => ⟨?_, hw⟩⟩
    · have h : s.isd = true := h
      rw [hd] at h
      cases h
    · have : (setP w p).isd = false := by rw [hw]; exact hd
      exact this
  | n :: row, s, w, p, hR, hd, hb, ht, hw => by
    have hR' : ∀ k, R (doR ns (doW ns s n) (row.take k)) := fun k => hR (k + 1)
    have hwd : w.isd = false := by
      have : (setP w p).isd = false := by rw [hw]; exact hd
      exact this
    by_cases h3 : n < 3
    · have e := doW_low ns s n h3 hd
      rw [hb, ht] at e
      have eh : here ((n :: row).zip (behindA p (n :: row))) = here (row.zip (behindA (stepP p n) row)) := by
        show here ((n, stepP p n) :: row.zip (behindA (stepP p n) row)) = _
        unfold here
        rw [List.filterMap_cons, if_pos h3]
      rw [eh]
      show okF ns R w _ ∧ ((doR ns (doW ns s n) row).isd = true → _ = doR ns (doW ns s n) row) ∧ ((doR ns (doW ns s n) row).isd = false → _ ∧ setP _ (row.foldl stepP (stepP p n)) = doR ns (doW ns s n) row)
      refine sim ns R row (doW ns s n) w (stepP p n) hR' ?_ ?_ ?_ ?_
      · rw [e]; exact hd
      · rw [e]; rfl
      · rw [e]; rfl
      · rw [e, ← hw]; rfl
    · have h3 : 3 ≤ n := by omega
      have es : stepP p n = p := by
        unfold stepP
        rw [if_neg (by omega), if_neg (by omega), if_neg (by omega)]
      have eh : here ((n :: row).zip (behindA p (n :: row))) = (p, n) :: here (row.zip (behindA p row)) := by
        show here ((n, stepP p n) :: row.zip (behindA (stepP p n) row)) = _
        unfold here
        rw [es, List.filterMap_cons, if_neg (by omega)]
      rw [eh]
      have hv := doW_pair ns s n h3
      have wr : w.room = s.room := by rw [← hw]; rfl
      have step : stepF ns w (p, n) = if p.1 = w.room then doW ns s n else w := by
        unfold stepF
        rw [if_neg (by rw [hwd]; decide), hw]
      have main : okF ns R (stepF ns w (p, n)) (here (row.zip (behindA p row))) ∧ ((doR ns (doW ns s n) row).isd = true → runF ns (stepF ns w (p, n)) (here (row.zip (behindA p row))) = doR ns (doW ns s n) row) ∧
          ((doR ns (doW ns s n) row).isd = false → (runF ns (stepF ns w (p, n)) (here (row.zip (behindA p row)))).isd = false ∧ setP (runF ns (stepF ns w (p, n)) (here (row.zip (behindA p row)))) (row.foldl stepP p) = doR ns (doW ns s n) row) := by
        rw [step]
        by_cases hr : p.1 = w.room
        · rw [if_pos hr]
          by_cases hvd : (doW ns s n).isd = true
          · rw [runF_done ns _ hvd, doR_done ns _ hvd]
            exact ⟨okF_done ns R _ hvd _, fun _ => rfl, fun z => by rw [hvd] at z; cases z⟩
          · have hvd : (doW ns s n).isd = false := by simpa using hvd
            exact sim ns R row (doW ns s n) (doW ns s n) p hR' hvd (by rw [hv.1]; exact hb) (by rw [hv.2]; exact ht) (setP_self (by rw [hv.1]; exact hb) (by rw [hv.2]; exact ht))
        · rw [if_neg hr]
          have ef : doW ns s n = s := doW_far ns s n h3 (by rw [hb, ← wr]; exact hr)
          rw [ef] at hR' ⊢
          exact sim ns R row s w p hR' hd hb ht hw
      refine ⟨⟨fun _ hr => ?_, ?_⟩, ?_⟩
      · refine ⟨?_, ?_⟩
        · show R (setP w p)
          rw [hw]
          exact hR 0
        · show R (doW ns (setP w p) n)
          rw [hw]
          exact hR 1
      · exact main.1
      · show ((doR ns (doW ns s n) row).isd = true → _ = doR ns (doW ns s n) row) ∧ ((doR ns (doW ns s n) row).isd = false → _ ∧ setP _ (row.foldl stepP (stepP p n)) = doR ns (doW ns s n) row)
        rw [es]
        exact main.2
end Ms
namespace PnX
open PySem PySem.Spec PyProof.Rows PySem.SeqAt
section
variable {P : Program} {wd : World}
/-- two tuples of as many items, told apart -/
theorem apart_tuples (p q : Addr) (us vs : Array Value) (n m : Nat) (dp dq : Option Addr) (sp sq : Array (Option Value)) (e : Nat → Bool) (len : us.size = vs.size) :
    MeetsIn P wd (Builtin.«tuple.__ne__» ⟨[.ref p, .ref q], []⟩) (fun A R s =>
      (s.heap.get? p = some ⟨.type "tuple", dp, .seq us n, sp⟩ ∧ s.heap.get? q = some ⟨.type "tuple", dq, .seq vs m, sq⟩) ∧
      (∀ (j : Nat) (hu : j < us.size) (hv : j < vs.size), EqP P wd A.in1 s us[j] vs[j] (e j)) ∧ R (.ok (.ret (.bool (!(List.range us.size).all e)))) s) :=
  .of_wp fun A R s hyp => by
    obtain ⟨hp, g, d, tk, os⟩ := s
    obtain ⟨⟨gp, gq⟩, each, fin⟩ := hyp
    have tt := AutoSeq1.sub_tuple_tuple
    have zl : (us.toList.zip vs.toList).length = us.size := by simp [len]
    wp_walk using wpAny_loadPart' gp, wpAny_loadPart' gq, wpAny_forIn_list _ (fun left st s' => st.1 = none ∧ s' = ⟨hp, g, d, tk, os⟩ ∧ ∃ k, left = (us.toList.zip vs.toList).drop k ∧ R (.ok (.ret (.bool (!((List.range us.size).drop k).all e)))) ⟨hp, g, d, tk, os⟩) _
    case turn =>
      rintro ⟨y, x⟩ left st s' ⟨st1, rfl, k, zk, hR⟩
      have kz : k < (us.toList.zip vs.toList).length := Nat.lt_of_not_le fun z => by
        rw [List.drop_of_length_le z] at zk
        cases zk
      have ku : k < us.size := zl ▸ kz
      have kv : k < vs.size := len ▸ ku
      rw [List.drop_eq_getElem_cons kz] at zk
      injection zk with hd1 hd2
      obtain rfl : y = us[k] := by simpa using congrArg Prod.fst hd1
      obtain rfl : x = vs[k] := by simpa using congrArg Prod.snd hd1
      have kr : (List.range us.size).drop k = k :: (List.range us.size).drop (k + 1) := by simp [List.drop_eq_getElem_cons, ku]
      rw [kr, List.all_cons] at hR
      refine wpAny_bind (each k ku kv _ _ ?_)
      cases ek : e k with
      | false =>
        rw [ek] at hR
        wp_walk
        exact ⟨_, rfl, by simpa using hR⟩
      | true =>
        rw [ek] at hR
        wp_walk
        exact ⟨rfl, rfl, k + 1, hd2, by simpa using hR⟩
    case fin =>
      rintro ⟨st1, st2⟩ s' ⟨e1, rfl, k, zk, hR⟩
      simp only at e1
      subst e1
      have ge : us.size ≤ k := Nat.le_of_not_lt fun z => by
        rw [List.drop_eq_getElem_cons (zl.symm ▸ z)] at zk
        cases zk
      rw [List.drop_of_length_le (by simpa using ge)] at hR
      wp_walk
      exact ⟨_, rfl, by simpa [Builtin.Tuple.tupleCompareSizes, bne, len] using hR⟩
    case h => exact ⟨rfl, rfl, 0, rfl, by simpa using fin⟩
theorem rc_apart {A : Around} {s : Shared} {p q : Addr} {us vs : Array Value} {e : Nat → Bool} {E Q : Value → Shared → Prop} (tp : s.heap.IsTuple p us) (tq : s.heap.IsTuple q vs) (len : us.size = vs.size) (room : A.units < cLine)
    (each : ∀ (j : Nat) (hu : j < us.size) (hv : j < vs.size), EqP P wd A.in1 s us[j] vs[j] (e j)) (fin : Q (.bool (!(List.range us.size).all e)) s) : wpAny (model P wd) A (richCompare .NotEq (.ref p) (.ref q)) Q E s := by
  obtain ⟨⟨c1, dp, x1, sp⟩, g1, e1, n, k1⟩ := id tp
  obtain ⟨⟨c2, dq, x2, sq⟩, g2, e2, m, k2⟩ := id tq
  simp only at e1 k1 e2 k2
  subst e1 k1 e2 k2
  refine wpAny_richCompare_same_room (T := "tuple") (op := .NotEq) ⟨_, g1, rfl⟩ ⟨_, g2, rfl⟩ F.slot_tuple_ne ?_ room
  refine call_meetsIn F.slot_tuple_ne ⟨_, g1, rfl⟩ F.entry_tuple_ne (F.args_tuple_ne_2 _ _) (apart_tuples p q us vs n m dp dq sp sq e len) ⟨⟨g1, g2⟩, each, ?_⟩
  exact show Value.bool (!(List.range us.size).all e) ≠ Value.notImplemented ∧ Q (.bool (!(List.range us.size).all e)) s from ⟨(fun x => nomatch x), fin⟩
end
section
open L2 Kx SX Ms
theorem ints_eq {P : Program} {wd : World} {A : Around} {s : Shared} {i j : Int} {u v : Value} (ru : RelV (.int i) u) (rv : RelV (.int j) v) : EqP P wd A s u v (decide (i = j)) := by
  obtain ⟨t, rfl⟩ := ru
  obtain ⟨z, rfl⟩ := rv
  have h := (SeqAt.EqAt.int_int (A := A) (s := s) i t j z).eqP (prog := P) (w := wd)
  have e : (i == j) = decide (i = j) := rfl
  exact e ▸ h
theorem bools_eq {P : Program} {wd : World} {A : Around} {s : Shared} {i j : Bool} {u v : Value} (ru : RelV (.bl i) u) (rv : RelV (.bl j) v) : EqP P wd A s u v (decide (i = j)) := by
  cases (show u = Value.bool i from ru)
  cases (show v = Value.bool j from rv)
  have h := (SeqAt.EqAt.bool_bool (A := A) (s := s) i j).eqP (prog := P) (w := wd)
  have e : (i == j) = decide (i = j) := by cases i <;> cases j <;> rfl
  exact e ▸ h
def hitsB (es fs : List (Int × Int)) : Bool := es.all fun p => decide (lkp fs p.1 = some p.2)
theorem hits_ints {P : Program} {wd : World} {A : Around} {s : Shared} {fs : List (Int × Int)} {vb : List (Key × Value)} (rb : KV (kvI fs) vb) : ∀ (es : List (Int × Int)) (va : List (Key × Value)), KV (kvI es) va → PySem.W.KeqHitsP P wd A s vb va (hitsB es fs)
  | [], va, h => by
    cases h
    exact .nil
  | p :: r, va, h => by
    cases h with
    | @cons _ q _ qs h1 h2 =>
      obtain ⟨ek, rv⟩ := h1
      obtain ⟨key, v⟩ := q
      cases (show Sum.inl p.1 = key from ek)
      have hv := rb.val (Sum.inl p.1)
      rw [valV_kvI] at hv
      have ih := hits_ints (P := P) (wd := wd) (A := A) (s := s) rb r qs h2
      show PySem.W.KeqHitsP P wd A s vb ((Sum.inl p.1, v) :: qs) (decide (lkp fs p.1 = some p.2) && hitsB r fs)
      cases hl : lkp fs p.1 with
      | none =>
        rw [hl] at hv
        rw [decide_eq_false (by simp), Bool.false_and]
        exact .miss (by
          cases hx : valueAt vb (Sum.inl p.1) with
          | none => rfl
          | some _ => rw [hx] at hv; cases hv)
      | some z =>
        rw [hl] at hv
        obtain ⟨y, hy, ry⟩ := hv.some_of
        have e : decide (some z = some p.2) = decide (p.2 = z) := by
          by_cases h : p.2 = z
          · rw [decide_eq_true h, decide_eq_true (by rw [h])]
          · rw [decide_eq_false h, decide_eq_false fun w => h (Option.some.inj w).symm]
        rw [e]
        exact .hit hy (ints_eq rv ry) ih
/-- x == y answers b: two ints, two bools, two dicts of ints -/
def EqB (H : Hp) (x y : V) (b : Bool) : Prop := (∃ i j : Int, x = .int i ∧ y = .int j ∧ b = decide (i = j)) ∨ (∃ i j : Bool, x = .bl i ∧ y = .bl j ∧ b = decide (i = j)) ∨
  ∃ (p q : Addr) (es fs : List (Int × Int)), x = .ref p ∧ y = .ref q ∧ p ≠ q ∧ H p = some (.dK (kvI es)) ∧ H q = some (.dK (kvI fs)) ∧ b = (decide (es.length = fs.length) && hitsB es fs)
inductive EqBs (H : Hp) : List V → List V → List Bool → Prop
  | nil : EqBs H [] [] []
  | cons {x y : V} {b : Bool} {xs ys : List V} {bs : List Bool} : EqB H x y b → EqBs H xs ys bs → EqBs H (x :: xs) (y :: ys) (b :: bs)
theorem EqBs.len {H : Hp} {xs ys : List V} {bs : List Bool} (h : EqBs H xs ys bs) : xs.length = ys.length ∧ bs.length = xs.length := by
  induction h with
  | nil => exact ⟨rfl, rfl⟩
  | cons _ _ ih => exact ⟨by rw [List.length_cons, List.length_cons, ih.1], by rw [List.length_cons, List.length_cons, ih.2]⟩
theorem EqBs.at {H : Hp} {xs ys : List V} {bs : List Bool} (h : EqBs H xs ys bs) : ∀ {us ws : List Value}, Vals xs us → Vals ys ws → ∀ (j : Nat) (h1 : j < us.length) (h2 : j < ws.length), ∃ x y, EqB H x y (bs.getD j true) ∧ RelV x us[j] ∧ RelV y ws[j] := by
  induction h with
  | nil =>
    intro us ws r1 r2 j h1 h2
    cases r1
    exact absurd h1 (Nat.not_lt_zero j)
  | cons h _ ih =>
    intro us ws r1 r2 j h1 h2
    cases r1 with
    | cons a1 b1 =>
      cases r2 with
      | cons a2 b2 =>
        cases j with
        | zero => exact ⟨_, _, h, a1, a2⟩
        | succ j => exact ih b1 b2 j (Nat.lt_of_succ_lt_succ h1) (Nat.lt_of_succ_lt_succ h2)
section
variable {X : Cx} {pins : List (Addr × Obj)} {σ : L2.St} {H : Hp} {s : Shared}
theorem eqB_run (I : Inv X pins σ H s) {A : Around} (hu : A.units + 1 < cLine) {x y : V} {u v : Value} {b : Bool} (h : EqB H x y b) (rx : RelV x u) (ry : RelV y v) : EqP X.prog X.w A s u v b := by
  rcases h with ⟨i, j, rfl, rfl, rfl⟩ | ⟨i, j, rfl, rfl, rfl⟩ | ⟨p, q, es, fs, rfl, rfl, ne, hp, hq, rfl⟩
  · exact ints_eq rx ry
  · exact bools_eq rx ry
  · cases (show u = Value.ref p from rx)
    cases (show v = Value.ref q from ry)
    obtain ⟨_, ya, va, ra, da⟩ := (show ObjOk X.prog X.w H s.heap p (.dK (kvI es)) from I.hok p _ hp)
    obtain ⟨_, yb, vb, rb, db⟩ := (show ObjOk X.prog X.w H s.heap q (.dK (kvI fs)) from I.hok q _ hq)
    refine SeqAt.eqP_refs ne fun E Q h => ?_
    refine PySem.W.rcP_dicts (knd := mixKind X.prog X.w) (r := hitsB es fs) ya yb da db (by omega) (fun _ => hits_ints rb es va ra) E Q ?_
    have e1 : va.length = es.length := by rw [← ra.length, kvI_len]
    have e2 : vb.length = fs.length := by rw [← rb.length, kvI_len]
    rw [e1, e2]
    have e3 : (es.length == fs.length) = decide (es.length = fs.length) := rfl
    rw [e3]
    exact h
end
section
variable {X : Cx}
/-- two tuples of ints, bools and dicts of ints, told apart -/
def rNeT (K : PySem.W.Frag) : R2 := fun x y H Q => ∃ (p q : Addr) (xs ys : List V) (bs : List Bool), x = .ref p ∧ y = .ref q ∧ SqT K H p xs ∧ SqT K H q ys ∧ EqBs H xs ys bs ∧ Q (.bl (!bs.all id)) H
theorem op_neT (hu : X.A.units + 64 < cLine) : OpR X (compareOp .NotEq) (rNeT X.K) := by
  intro pins s σ H x y v u Q I rx ry h
  obtain ⟨p, q, xs, ys, bs, rfl, rfl, hp, hq, he, k⟩ := h
  cases (show v = Value.ref p from rx)
  cases (show u = Value.ref q from ry)
  obtain ⟨us, r1, p1, _⟩ := I.tuple hp
  obtain ⟨ws, r2, p2, _⟩ := I.tuple hq
  have l1 := he.len
  have hsz : us.toArray.size = ws.toArray.size := by
    rw [List.size_toArray, List.size_toArray, ← r1.length, ← r2.length]
    exact l1.1
  have lb : us.toArray.size = bs.length := by rw [List.size_toArray, ← r1.length, l1.2]
  refine rc_apart (e := fun j => bs.getD j true) p1 p2 hsz (by omega) (fun j h1 h2 => ?_) ?_
  · obtain ⟨x, y, h, ra, rb⟩ := he.at r1 r2 j (by simpa using h1) (by simpa using h2)
    have := eqB_run I (A := X.A.in1) (by show X.A.units + 1 + 1 < cLine; omega) h ra rb
    simpa using this
  · have e : ((List.range us.toArray.size).all fun j => bs.getD j true) = bs.all id := by
      rw [lb]
      clear he l1 lb k
      induction bs with
      | nil => rfl
      | cons b bs ih =>
        rw [List.length_cons, List.range_succ_eq_map, List.all_cons, List.all_map]
        show (b && _) = (b && _)
        congr 1
    rw [e]
    exact ⟨.bl _, H, I, rfl, k⟩
end
end
end PnX
namespace Ms
open PySem PySem.Spec PyProof.Rows L2 Kx SX LamX
/-- a statement whose ways meet again -/
theorem meetS {t u : TS} {D : Ends} {σ : L2.St} {H : Hp} (Pz : L2.St → Hp → Prop) (h1 : ∀ nx : L2.St → Hp → Prop, (∀ σ' H', Pz σ' H' → nx σ' H') → t { D with nx := nx } σ H) (h2 : ∀ σ' H', Pz σ' H' → u D σ' H') : tSeq t u D σ H := h1 (u D) h2
theorem go_aug {i : Nat} {te : TE} {ti : TIp} {D : Ends} {σ : L2.St} {H : Hp} {x : V} (hi : σ[i]? = some (some x)) (h : te σ H fun y H1 => ti x y H1 fun z H2 => D.nx (σ.set i (some z)) H2) : tAug i te ti D σ H := ⟨x, hi, h⟩
/-- all but the three objects of a work -/
def rest3 (a b c : Addr) (H : Hp) : Hp := fun d => if d = a ∨ d = b ∨ d = c then none else H d
theorem rest3_at {a b c d : Addr} {H : Hp} {o : HO} (h : H d = some o) (n1 : d ≠ a) (n2 : d ≠ b) (n3 : d ≠ c) : rest3 a b c H d = some o := by
  unfold rest3
  rw [if_neg (by rintro (z | z | z) <;> contradiction)]
  exact h
theorem rest3_none {a b c d : Addr} {H : Hp} (h : d = a ∨ d = b ∨ d = c) : rest3 a b c H d = none := by
  unfold rest3
  rw [if_pos h]
theorem rest3_sub {a b c : Addr} {H : Hp} : Same (rest3 a b c H) H := fun d o h => by
  unfold rest3 at h
  split at h
  · cases h
  · exact h
section
variable {K : PySem.W.Frag} {C w nl dx pc ps : Addr} {H0 H H' : Hp} {ns : List Int} {s t : Mst} {m n : Nat} {es es' : List (Int × Int)}
theorem _root_.Kx.WorkAt.base (h : WorkAt K C H0 H w nl ns s m dx pc ps es) : Same H0 (rest3 w pc ps H) := fun d o hd =>
  rest3_at (h.old d o hd) (fun e => by rw [e, h.nw] at hd; cases hd) (fun e => by rw [e, h.nc] at hd; cases hd) (fun e => by rw [e, h.np] at hd; cases hd)
/-- the same work, all else held fast -/
theorem _root_.Kx.WorkAt.root (h : WorkAt K C H0 H w nl ns s m dx pc ps es) : WorkAt K C (rest3 w pc ps H) H w nl ns s m dx pc ps es :=
  { h with num := Same.q h.base h.num, old := rest3_sub, nw := rest3_none (.inl rfl), nc := rest3_none (.inr (.inl rfl)), np := rest3_none (.inr (.inr rfl)) }
theorem _root_.Kx.WorkAt.unroot (h : WorkAt K C H0 H w nl ns s m dx pc ps es) (k : WorkAt K C (rest3 w pc ps H) H' w nl ns t n dx pc ps es') : WorkAt K C H0 H' w nl ns t n dx pc ps es' :=
  { k with num := h.num, old := h.base.trans k.old, nw := h.nw, nc := h.nc, np := h.np }
end
end Ms
namespace Ms
open PySem PySem.Spec PyProof.Rows L2 Kx SX LamX
/-- stretches: a tuple of block, tick and a list of words each -/
def GrpAt (H : Hp) (x : Addr × Addr) (g : Grp) : Prop := H x.1 = some (.tup [.int g.1, .bl g.2.1, .ref x.2]) ∧ H x.2 = some (.lst (rowV g.2.2))
structure GrpsAt (H0 H : Hp) (D : Addr) (tus : List (Addr × Addr)) (gs : List Grp) : Prop where
  at_ : H D = some (.lst (tus.map fun x => V.ref x.1))
  all : Paired (GrpAt H) tus gs
  nd : (tus.map (·.2)).Nodup
  nD : ∀ x ∈ tus, x.2 ≠ D
  new : ∀ x ∈ tus, H0 x.2 = none
  old : Same H0 H
theorem paired_end {α β : Type} {R : α → β → Prop} {xs : List α} {ys : List β} {x : α} {y : β} (h : Paired R xs ys) (k : R x y) : Paired R (xs ++ [x]) (ys ++ [y]) := by
  induction h with
  | nil => exact .cons k .nil
  | cons a _ ih => exact .cons a ih
theorem paired_snocI {α β : Type} {R : α → β → Prop} {y : β} : ∀ {xs : List α} {ys : List β}, Paired R xs (ys ++ [y]) → ∃ (xs' : List α) (x : α), xs = xs' ++ [x] ∧ Paired R xs' ys ∧ R x y
  | _, [], h => by
    cases h with
    | cons a t =>
      cases t
      exact ⟨[], _, rfl, .nil, a⟩
  | _, z :: ys, h => by
    cases h with
    | cons a t =>
      obtain ⟨xs', x, rfl, h1, h2⟩ := paired_snocI t
      exact ⟨_ :: xs', x, rfl, .cons a h1, h2⟩
theorem paired_mapM {α β : Type} {F G : α → β → Prop} : ∀ {xs : List α} {ys : List β}, Paired F xs ys → (∀ a ∈ xs, ∀ b, F a b → G a b) → Paired G xs ys
  | _, _, .nil, _ => .nil
  | _, _, .cons h t, k => .cons (k _ List.mem_cons_self _ h) (paired_mapM t fun a m b z => k a (List.mem_cons_of_mem _ m) b z)
variable {H0 H H' : Hp} {D : Addr} {tus : List (Addr × Addr)} {gs : List Grp}
theorem GrpAt.same {x : Addr × Addr} {g : Grp} (h : GrpAt H x g) (e : Same H H') : GrpAt H' x g := ⟨e _ _ h.1, e _ _ h.2⟩
theorem GrpsAt.same (h : GrpsAt H0 H D tus gs) (e : Same H H') : GrpsAt H0 H' D tus gs :=
  ⟨e _ _ h.at_, Paired.mapP h.all fun _ _ z => z.same e, h.nd, h.nD, h.new, h.old.trans e⟩
theorem GrpsAt.none (nD : H0 D = Option.none) (h : H D = some (.lst [])) (e : Same H0 H) : GrpsAt H0 H D [] [] := ⟨h, .nil, List.nodup_nil, fun x m => (by cases m), fun x m => (by cases m), e⟩
/-- one more stretch -/
theorem GrpsAt.app {t u : Addr} {p : Pr} {n : Nat} (h : GrpsAt H0 H D tus gs) (nD : H0 D = Option.none) (nu : H u = Option.none) (nt : upd H u (.lst [.int (n : Int)]) t = Option.none) :
    GrpsAt H0 (upd (upd (upd H u (.lst [.int (n : Int)])) t (.tup [.int p.1, .bl p.2, .ref u])) D (.lst ((tus.map fun x => V.ref x.1) ++ [V.ref t]))) D (tus ++ [(t, u)]) (gs ++ [(p.1, p.2, [n])]) := by
  have s1 := same_new (o := HO.lst [V.int (n : Int)]) nu
  have s2 := same_new (o := HO.tup [V.int p.1, V.bl p.2, V.ref u]) nt
  have hDu : D ≠ u := ne_of_none h.at_ nu
  have s12 := s1.trans s2
  have hDt : D ≠ t := ne_of_none (s1 _ _ h.at_) nt
  have hu : (upd (upd H u (.lst [.int (n : Int)])) t (.tup [.int p.1, .bl p.2, .ref u])) u = some (.lst [.int (n : Int)]) := s2 _ _ upd_same
  have ut : u ≠ t := ne_of_none (upd_same (H := H) (a := u) (o := HO.lst [V.int (n : Int)])) nt
  have nu0 : H0 u = Option.none := by
    cases z : H0 u with
    | none => rfl
    | some o =>
      have := h.old _ _ z
      rw [nu] at this
      cases this
  refine ⟨by rw [upd_same, List.map_append]; rfl, paired_end (paired_mapM h.all fun x m g z => ?_) ⟨?_, ?_⟩, ?_, ?_, ?_, same_set (h.old.trans s12) nD⟩
  · have z2 := z.same s12
    refine ⟨?_, ?_⟩
    · rw [upd_ne (ne_of_two z2.1 (s12 _ _ h.at_) (fun z => by cases z))]
      exact z2.1
    · rw [upd_ne (h.nD x m)]
      exact z2.2
  · show upd _ D _ t = _
    rw [upd_ne hDt.symm]
    exact upd_same
  · show upd _ D _ u = _
    rw [upd_ne hDu.symm]
    exact hu
  · rw [List.map_append, List.nodup_append]
    refine ⟨h.nd, by simp, fun a ha b hb => ?_⟩
    rw [List.mem_singleton.mp hb]
    intro e
    obtain ⟨x, hx, ex⟩ := List.mem_map.mp ha
    obtain ⟨i, hi, e1⟩ := List.mem_iff_getElem.mp hx
    have hl := h.all.length
    have z := paired_at h.all (List.getElem?_eq_getElem hi) (List.getElem?_eq_getElem (show i < gs.length by omega))
    rw [e1] at z
    have z2 := z.2
    rw [ex, e] at z2
    have nu' : H u = Option.none := nu
    have z3 : H u = some (.lst (rowV gs[i].2.2)) := z2
    rw [nu'] at z3
    cases z3
  · intro x m
    rcases List.mem_append.mp m with m | m
    · exact h.nD x m
    · rw [List.mem_singleton.mp m]
      exact hDu.symm
  · intro x m
    rcases List.mem_append.mp m with m | m
    · exact h.new x m
    · rw [List.mem_singleton.mp m]
      exact nu0
/-- the last stretch is one word longer -/
theorem GrpsAt.more {t u : Addr} {b : Int} {k : Bool} {ws : List Nat} {n : Nat} (h : GrpsAt H0 H D (tus ++ [(t, u)]) (gs ++ [(b, k, ws)])) : GrpsAt H0 (upd H u (.lst (rowV ws ++ [.int (n : Int)]))) D (tus ++ [(t, u)]) (gs ++ [(b, k, ws ++ [n])]) := by
  obtain ⟨xs', x, e, h1, h2⟩ := paired_snocI h.all
  obtain ⟨rfl, rfl⟩ : tus = xs' ∧ (t, u) = x := by
    have := List.append_inj' e rfl
    exact ⟨this.1, by simpa using this.2⟩
  have m0 : (t, u) ∈ tus ++ [(t, u)] := List.mem_append_right _ (List.mem_singleton.mpr rfl)
  have hDu : u ≠ D := h.nD (t, u) m0
  refine ⟨by rw [upd_ne hDu.symm]; exact h.at_, paired_end (paired_mapM h1 fun y m g z => ⟨?_, ?_⟩) ⟨?_, ?_⟩, h.nd, h.nD, h.new, same_set h.old (h.new (t, u) m0)⟩
  · rw [upd_ne (ne_of_two z.1 h2.2 (fun z => by cases z))]
    exact z.1
  · have ne : y.2 ≠ u := fun e => by
      have nd := h.nd
      rw [List.map_append, List.nodup_append] at nd
      exact nd.2.2 y.2 (List.mem_map.mpr ⟨y, m, rfl⟩) u (List.mem_singleton.mpr rfl) e
    rw [upd_ne ne]
    exact z.2
  · have := h2.1
    show upd H u _ t = _
    rw [upd_ne (ne_of_two h2.1 h2.2 (fun z => by cases z))]
    exact this
  · show upd H u _ u = some (.lst (rowV (ws ++ [n])))
    rw [upd_same]
    unfold rowV
    rw [List.map_append]
    rfl
theorem GrpsAt.last {b : Int} {k : Bool} {ws : List Nat} (h : GrpsAt H0 H D tus (gs ++ [(b, k, ws)])) : ∃ (tus' : List (Addr × Addr)) (t u : Addr), tus = tus' ++ [(t, u)] ∧ H t = some (.tup [.int b, .bl k, .ref u]) ∧ H u = some (.lst (rowV ws)) := by
  obtain ⟨xs', x, e, h1, h2⟩ := paired_snocI h.all
  exact ⟨xs', x.1, x.2, e, h2.1, h2.2⟩
end Ms
namespace Ms
def steadyB (row : List Nat) : Bool := decide (row.take 2 = [0, 1])
def lastP (row : List Nat) : Pr := row.foldl stepP p0
theorem grps_flat (row : List Nat) : flatG (grps row) = here (row.zip (behindA p0 row)) := by
  unfold grps
  rw [flat_grpsA]
  rfl
theorem here_mem {l : List (Nat × Pr)} {x : Pr × Nat} (h : x ∈ here l) : 3 ≤ x.2 := by
  obtain ⟨y, _, e⟩ := List.mem_filterMap.mp h
  split at e
  · cases e
  · cases e
    show 3 ≤ y.1
    omega
theorem here_nat {l : List (Nat × Pr)} {x : Pr × Nat} (h : x ∈ here l) : x.2 ∈ l.map (·.1) := by
  obtain ⟨y, m, e⟩ := List.mem_filterMap.mp h
  split at e
  · cases e
  · cases e
    exact List.mem_map.mpr ⟨y, m, rfl⟩
theorem here_len (l : List (Nat × Pr)) : (here l).length ≤ l.length := List.length_filterMap_le ..
theorem grp_mem {row : List Nat} {g : Grp} {n : Nat} (hg : g ∈ grps row) (hn : n ∈ g.2.2) : 3 ≤ n ∧ n ∈ row := by
  have h : ((g.1, g.2.1), n) ∈ flatG (grps row) := List.mem_flatMap.mpr ⟨g, hg, List.mem_map.mpr ⟨n, hn, rfl⟩⟩
  rw [grps_flat] at h
  refine ⟨here_mem h, ?_⟩
  obtain ⟨y, m, e⟩ := List.mem_map.mp (here_nat h)
  have m2 := (List.of_mem_zip m).1
  rw [e] at m2
  exact m2
theorem grps_short (row : List Nat) : (flatG (grps row)).length ≤ row.length := by
  rw [grps_flat]
  refine Nat.le_trans (here_len _) ?_
  rw [List.length_zip, behindA_len]
  omega
/-- a steady row, stretch by stretch -/
theorem steady {ns : List Int} {R : Mst → Prop} {row : List Nat} {s : Mst} (hb : steadyB row = true) (hR : ∀ k, R (doR ns s (row.take k))) (hd : s.isd = false) :
    okF ns R s (flatG (grps row)) ∧ ((runF ns s (flatG (grps row))).isd = true → runF ns s (flatG (grps row)) = doR ns s row) ∧
      ((runF ns s (flatG (grps row))).isd = false → setP (runF ns s (flatG (grps row))) (lastP row) = doR ns s row) := by
  obtain ⟨rest, rfl⟩ : ∃ rest, row = 0 :: 1 :: rest := by
    have h := of_decide_eq_true hb
    match row, h with
    | [], h => cases h
    | [a], h => cases h
    | a :: b :: r, h =>
      have h : [a, b] = [0, 1] := h
      cases h
      exact ⟨r, rfl⟩
  have eh : flatG (grps (0 :: 1 :: rest)) = here (rest.zip (behindA (-1, true) rest)) := by
    rw [grps_flat]
    rfl
  have e2 : doR ns s (0 :: 1 :: rest) = doR ns (setP s (-1, true)) rest := by
    show doR ns (doW ns (doW ns s 0) 1) rest = _
    rw [doW_low ns s 0 (by decide) hd]
    have hd2 : (setP s (stepP (s.block, s.tick) 0)).isd = false := hd
    rw [doW_low ns _ 1 (by decide) hd2]
    rfl
  have hR2 : ∀ k, R (doR ns (setP s (-1, true)) (rest.take k)) := fun k => by
    have h := hR (k + 2)
    have e3 : doR ns s ((0 :: 1 :: rest).take (k + 2)) = doR ns (setP s (-1, true)) (rest.take k) := by
      show doR ns (doW ns (doW ns s 0) 1) (rest.take k) = _
      rw [doW_low ns s 0 (by decide) hd]
      have hd2 : (setP s (stepP (s.block, s.tick) 0)).isd = false := hd
      rw [doW_low ns _ 1 (by decide) hd2]
      rfl
    rw [e3] at h
    exact h
  obtain ⟨h1, h2, h3⟩ := sim ns R rest (setP s (-1, true)) s (-1, true) hR2 hd rfl rfl rfl
  rw [eh, e2]
  refine ⟨h1, fun z => ?_, fun z => ?_⟩
  · cases hr : (doR ns (setP s (-1, true)) rest).isd with
    | true => exact h2 hr
    | false =>
      have := (h3 hr).1
      rw [z] at this
      cases this
  · cases hr : (doR ns (setP s (-1, true)) rest).isd with
    | true =>
      have := h2 hr
      rw [this, hr] at z
      cases z
    | false => exact (h3 hr).2
theorem flatG_take_succ {gs : List Grp} {i : Nat} {g : Grp} (h : gs[i]? = some g) : flatG (gs.take (i + 1)) = flatG (gs.take i) ++ g.2.2.map fun n => ((g.1, g.2.1), n) := by
  have e : gs.take (i + 1) = gs.take i ++ [g] := by rw [List.take_add_one, h]; rfl
  rw [e, flatG_app, flatG_cons]
  show _ = _
  congr 1
  exact List.append_nil _
theorem flatG_split {gs : List Grp} {i : Nat} {g : Grp} (h : gs[i]? = some g) : flatG gs = flatG (gs.take i) ++ ((g.2.2.map fun n => ((g.1, g.2.1), n)) ++ flatG (gs.drop (i + 1))) := by
  have hi := (List.getElem?_eq_some_iff.mp h).1
  have e : gs = gs.take i ++ g :: gs.drop (i + 1) := by
    have := (List.getElem?_eq_some_iff.mp h).2
    rw [← this, ← List.drop_eq_getElem_cons hi, List.take_append_drop]
  conv => lhs; rw [e, flatG_app, flatG_cons]
end Ms
namespace Ms
open PnX
/-! ### pass by pass, two rows -/
def iterR (ns : List Int) (row : List Nat) (s : Mst) : Nat → Mst
  | 0 => s
  | j + 1 => doR ns (iterR ns row s j) row
open Classical in
noncomputable def partedF (ns : List Int) (r1 r2 : List Nat) : Nat → Nat → Mst → Mst → Option Nat
  | 0, _, _, _ => none
  | k + 1, j, s, t => if doR ns s r1 = doR ns t r2 then partedF ns r1 r2 k (j + 1) (doR ns s r1) (doR ns t r2) else some (j + 1)
theorem partedF_swap (ns : List Int) (r1 r2 : List Nat) : ∀ (k j : Nat) (s t : Mst), partedF ns r1 r2 k j s t = partedF ns r2 r1 k j t s
  | 0, _, _, _ => rfl
  | k + 1, j, s, t => by
    unfold partedF
    by_cases h : doR ns s r1 = doR ns t r2
    · rw [if_pos h, if_pos h.symm, partedF_swap ns r1 r2 k]
    · rw [if_neg h, if_neg fun z => h z.symm]
theorem partedF_none (ns : List Int) (r1 r2 : List Nat) (h : ∀ s, doR ns s r1 = doR ns s r2) : ∀ (k j : Nat) (s : Mst), partedF ns r1 r2 k j s s = none
  | 0, _, _ => rfl
  | k + 1, j, s => by
    unfold partedF
    rw [if_pos (h s), ← h s]
    exact partedF_none ns r1 r2 h k (j + 1) _
theorem partedF_done (ns : List Int) (r1 r2 : List Nat) (k j : Nat) (s : Mst) (h : s.isd = true) : partedF ns r1 r2 k j s s = none := by
  induction k generalizing j with
  | zero => rfl
  | succ k ih =>
    unfold partedF
    rw [doR_done ns s h, doR_done ns s h, if_pos rfl]
    exact ih (j + 1)
theorem doW_said (ns : List Int) (s : Mst) (n : Nat) : ∃ e, (doW ns s n).said = s.said ++ e := by
  have nil : ∃ e : List Int, s.said = s.said ++ e := ⟨[], (List.append_nil _).symm⟩
  unfold doW
  split
  · exact nil
  split
  · exact nil
  split
  · exact nil
  split
  · exact nil
  split
  · exact nil
  split
  · exact nil
  split
  · split
    · unfold flagW
      (repeat' split) <;> first | exact nil | exact ⟨[s.first], rfl⟩
    · exact nil
  · unfold bareW
    (repeat' split) <;> exact nil
theorem doR_said (ns : List Int) : ∀ (r : List Nat) (s : Mst), ∃ e, (doR ns s r).said = s.said ++ e
  | [], s => ⟨[], (List.append_nil _).symm⟩
  | n :: r, s => by
    obtain ⟨e1, h1⟩ := doW_said ns s n
    obtain ⟨e2, h2⟩ := doR_said ns r (doW ns s n)
    refine ⟨e1 ++ e2, ?_⟩
    show (doR ns (doW ns s n) r).said = _
    rw [h2, h1, List.append_assoc]
/-! ### cells told apart -/
theorem pigeon {α : Type} [DecidableEq α] : ∀ (xs ys : List α), xs.Nodup → (∀ x ∈ xs, x ∈ ys) → xs.length ≤ ys.length ∧ (ys.length ≤ xs.length → ∀ y ∈ ys, y ∈ xs)
  | [], ys, _, _ => ⟨Nat.zero_le _, fun h y m => by
      cases ys with
      | nil => exact m
      | cons a l => exact absurd h (Nat.not_succ_le_zero _)⟩
  | x :: xs, ys, nd, h => by
    have nd := List.nodup_cons.mp nd
    have hx := h x List.mem_cons_self
    have le := List.length_erase_of_mem hx
    have pos : 0 < ys.length := List.length_pos_of_mem hx
    obtain ⟨h1, h2⟩ := pigeon xs (ys.erase x) nd.2 fun y m => (List.mem_erase_of_ne (a := y) (fun e => nd.1 (by rw [← e]; exact m))).mpr (h y (List.mem_cons_of_mem _ m))
    refine ⟨by rw [List.length_cons]; omega, fun hl y m => ?_⟩
    rw [List.length_cons] at hl
    by_cases e : y = x
    · rw [e]
      exact List.mem_cons_self
    · exact List.mem_cons_of_mem _ (h2 (by omega) y ((List.mem_erase_of_ne e).mpr m))
theorem nodup_of_map {α β : Type} {f : α → β} {l : List α} (h : (l.map f).Nodup) : l.Nodup := by
  have h := List.pairwise_map.mp h
  exact h.imp fun n e => n (by rw [e])
theorem cells_eq {es fs : List (Int × Int)} {f g : Int → Int} (hf : CellsW es f) (hg : CellsW fs g) : (decide (es.length = fs.length) && hitsB es fs) = true ↔ f = g := by
  unfold hitsB
  rw [Bool.and_eq_true, decide_eq_true_eq, List.all_eq_true]
  constructor
  · rintro ⟨h1, h2⟩
    have sub : ∀ p ∈ es, p ∈ fs := fun p m => (lkp_mem hg.nd).mp (of_decide_eq_true (h2 p m))
    have back := (pigeon es fs (nodup_of_map hf.nd) sub).2 (by omega)
    funext c
    by_cases z : f c = 0
    · by_cases z2 : g c = 0
      · rw [z, z2]
      · have m := (hg.mem c (g c)).mpr ⟨rfl, z2⟩
        have := ((hf.mem c (g c)).mp (back _ m)).1
        exact this
    · have m := (hf.mem c (f c)).mpr ⟨rfl, z⟩
      exact ((hg.mem c (f c)).mp (sub _ m)).1.symm
  · rintro rfl
    have sub : ∀ p, p ∈ es ↔ p ∈ fs := fun p => (hf.mem p.1 p.2).trans (hg.mem p.1 p.2).symm
    refine ⟨Nat.le_antisymm (pigeon es fs (nodup_of_map hf.nd) fun p m => (sub p).mp m).1 (pigeon fs es (nodup_of_map hg.nd) fun p m => (sub p).mpr m).1, fun p m => ?_⟩
    exact decide_eq_true ((lkp_mem hg.nd).mpr ((sub p).mp m))
/-- the parts of two works, told apart one by one -/
def partsB (s t : Mst) (es fs : List (Int × Int)) : List Bool := [decide (s.block = t.block), decide (s.room = t.room), decide (s.tick = t.tick), decide (s.flag = t.flag), decide (s.test = t.test), decide (s.mode = t.mode), decide (s.first = t.first), decide (s.second = t.second),
  decide (es.length = fs.length) && hitsB es fs, decide ((s.heard : Int) = (t.heard : Int)), decide (s.isd = t.isd)]
theorem parts_eq {s t : Mst} {es fs : List (Int × Int)} (hf : CellsW es s.cells) (hg : CellsW fs t.cells) : (partsB s t es fs).all id = true ↔ (∃ l, t = { s with said := l }) := by
  have hc := cells_eq hf hg
  unfold partsB
  simp only [List.all_cons, List.all_nil, Bool.and_true, id_eq, Bool.and_eq_true, decide_eq_true_eq] at hc ⊢
  constructor
  · rintro ⟨h1, h2, h3, h4, h5, h6, h7, h8, h9, h10, h11⟩
    have h9 := hc.mp h9
    refine ⟨t.said, ?_⟩
    cases s
    cases t
    dsimp only at h1 h2 h3 h4 h5 h6 h7 h8 h9 h10 h11 ⊢
    have h10 := Int.ofNat.inj h10
    subst h1 h2 h3 h4 h5 h6 h7 h8 h9 h10 h11
    rfl
  · rintro ⟨l, rfl⟩
    exact ⟨rfl, rfl, rfl, rfl, rfl, rfl, rfl, rfl, hc.mpr rfl, rfl, rfl⟩
end Ms
namespace Ms
open PySem PySem.Spec PyProof.Rows L2 Kx SX LamX PnX
section
variable {K : PySem.W.Frag} {C w nl dx pc ps w2 nl2 dx2 pc2 ps2 : Addr} {H0 B H H' : Hp} {ns ns2 : List Int} {s t : Mst} {m n : Nat} {es es2 : List (Int × Int)}
theorem _root_.Kx.WorkAt.rebase (h : WorkAt K C H0 H w nl ns s m dx pc ps es) (e0 : Same H0 B) (e1 : Same B H) (b1 : B w = none) (b2 : B pc = none) (b3 : B ps = none) : WorkAt K C B H w nl ns s m dx pc ps es :=
  { h with num := Same.q e0 h.num, old := e1, nw := b1, nc := b2, np := b3 }
/-- two works have nothing in common -/
structure Apart (w pc ps w2 pc2 ps2 : Addr) : Prop where
  w : w2 ≠ w
  c : pc2 ≠ pc
  p : ps2 ≠ ps
theorem Apart.swap (d : Apart w pc ps w2 pc2 ps2) : Apart w2 pc2 ps2 w pc ps := ⟨d.w.symm, d.c.symm, d.p.symm⟩
theorem _root_.Kx.WorkAt.other (h : WorkAt K C B H w nl ns s m dx pc ps es) (k : WorkAt K C B H w2 nl2 ns2 t n dx2 pc2 ps2 es2) (d : Apart w pc ps w2 pc2 ps2) (e : Same (rest3 w pc ps H) H') : WorkAt K C B H' w2 nl2 ns2 t n dx2 pc2 ps2 es2 := by
  have a1 : rest3 w pc ps H w2 = some (.ins C dx2 (workF t nl2 pc2 ps2)) := rest3_at k.at_ d.w (ne_of_two k.at_ h.cat (fun z => by cases z)) (ne_of_two k.at_ h.sat (fun z => by cases z))
  have a2 : rest3 w pc ps H pc2 = some (.dK (kvI es2)) := rest3_at k.cat (ne_of_two k.cat h.at_ (fun z => by cases z)) d.c (ne_of_two k.cat h.sat (fun z => by cases z))
  have a3 : rest3 w pc ps H ps2 = some (.lst (t.said.map V.int)) := rest3_at k.sat (ne_of_two k.sat h.at_ (fun z => by cases z)) (ne_of_two k.sat h.cat (fun z => by cases z)) d.p
  exact { k with at_ := e _ _ a1, cat := e _ _ a2, sat := e _ _ a3, old := h.base.trans e }
theorem rest3_mono {a b c : Addr} (e : Same H H') : Same (rest3 a b c H) (rest3 a b c H') := fun d o h => by
  unfold rest3 at h ⊢
  split at h
  · cases h
  · rename_i z
    rw [if_neg z]
    exact e _ _ h
theorem rest3_of {a b c d : Addr} {o : HO} (h : rest3 a b c H d = some o) : H d = some o ∧ d ≠ a ∧ d ≠ b ∧ d ≠ c := by
  unfold rest3 at h
  split at h
  · cases h
  · rename_i z
    refine ⟨h, fun e => z (.inl e), fun e => z (.inr (.inl e)), fun e => z (.inr (.inr e))⟩
end
end Ms
namespace PnX
open PySem PySem.Spec PyProof.Rows L2 Kx SX
section
variable {X : Cx}
/-- tuple(x), x a list or a tuple -/
def rTupQ (K : PySem.W.Frag) : List V → Hp → VK → Prop := fun xs H Q => ∃ (p : Addr) (ys : List V), xs = [.ref p] ∧ SqQ K H p ys ∧ ∀ (l : Addr) (H' : Hp), Same H H' → SqT K H' l ys → Q (.ref l) H'
theorem call_tupleQ : CallR X (.type "tuple") (rTupQ X.K) := by
  have h0 := call_tuple_of (X := X)
  unfold CallR at h0 ⊢
  intros
  rename_i h
  refine h0 _ _ _ _ _ _ _ (by assumption) (by assumption) ?_
  obtain ⟨p, ys, e, h, q⟩ := h
  rcases h with h | h
  · exact ⟨p, ys, e, .inl ⟨h, fun l n => q l _ (same_new n) (.inl (.inl upd_same))⟩⟩
  · exact ⟨p, ys, e, .inr ⟨h, q p _ (Same.refl _) h⟩⟩
end
end PnX
namespace Ms
open PySem PySem.Spec PyProof.Rows L2 Kx SX LamX
/-- pairs made one by one, for a dict of them -/
def KvP (H0 : Hp) (kvs : List (Key × V)) (D : Addr) (i : Nat) (Hc : Hp) : Prop := ∃ qs : List Addr, Hc D = some (.lst (qs.map V.ref)) ∧ Paired (fun (q : Addr) (kv : Key × V) => Hc q = some (.tup [kV kv.1, kv.2])) qs (kvs.take i) ∧ Same H0 Hc
theorem KvP.new {H0 : Hp} {kvs : List (Key × V)} {D : Addr} (nD : H0 D = none) : KvP H0 kvs D 0 (upd H0 D (.lst [])) := ⟨[], upd_same, .nil, same_new nD⟩
theorem KvP.app {H0 Hc H4 : Hp} {kvs : List (Key × V)} {D t : Addr} {i : Nat} {kv : Key × V} (h : KvP H0 kvs D i Hc) (nD : H0 D = none) (hp : kvs[i]? = some kv) (e : Same Hc H4) (ht : H4 t = some (.tup [kV kv.1, kv.2])) (hl : kvs.length ≤ 100000) :
    ∃ acc, H4 D = some (.lst acc) ∧ acc.length < sizeLine ∧ KvP H0 kvs D (i + 1) (upd H4 D (.lst (acc ++ [V.ref t]))) := by
  obtain ⟨qs, h1, h2, h3⟩ := h
  have hD := e _ _ h1
  have hlen := h2.length
  have hi := (List.getElem?_eq_some_iff.mp hp).1
  rw [List.length_take] at hlen
  have k : ∀ {q : Addr} {xs : List V}, H4 q = some (.tup xs) → upd H4 D (.lst (qs.map V.ref ++ [V.ref t])) q = some (.tup xs) := fun {q xs} z => by
    rw [upd_ne (ne_of_two z hD (fun z => by cases z))]
    exact z
  refine ⟨_, hD, ?_, qs ++ [t], by rw [upd_same, List.map_append]; rfl, ?_, same_set (h3.trans e) nD⟩
  · rw [List.length_map]
    exact Nat.lt_of_le_of_lt (show qs.length ≤ 100000 by omega) (by decide)
  · have et : kvs.take (i + 1) = kvs.take i ++ [kv] := by rw [List.take_add_one, hp]; rfl
    rw [et]
    exact paired_end (Paired.mapP h2 fun q p z => k (e _ _ z)) (k ht)
end Ms
namespace Ms
open PySem PySem.Spec PyProof.Rows L2 Kx SX LamX
/-- all that is told of a law's machine, as a list -/
def seenD (s : Mst) (l : List (Int × Int)) : PyData := .list [.int s.block, .int s.room, .bool s.tick, .bool s.flag, .bool s.test, .int s.mode, .int s.first, .int s.second, .int (s.heard : Nat), .list (s.said.map PyData.int), .bool s.isd, .list (l.map Kx.pairD)]
def seenL (s : Mst) (ps : Addr) : List V := [.int s.block, .int s.room, .bl s.tick, .bl s.flag, .bl s.test, .int s.mode, .int s.first, .int s.second, .int (s.heard : Nat), .ref ps, .bl s.isd]
def namesL : List V := [.str "block", .str "room", .str "tick", .str "flag", .str "test", .str "mode", .str "first", .str "second", .str "heard", .str "said", .str "done"]
theorem seen_at {s : Mst} {pc ps : Addr} {i : Nat} {x z : V} (hx : namesL[i]? = some x) (hz : (seenL s ps)[i]? = some z) : ∃ k : Str, x = .str k ∧ valV (liveK s pc ps) (.inr k) = some z := by
  match i, hx, hz with
  | 0, hx, hz => cases hx; cases hz; exact ⟨_, rfl, lv_block⟩
  | 1, hx, hz => cases hx; cases hz; exact ⟨_, rfl, lv_room⟩
  | 2, hx, hz => cases hx; cases hz; exact ⟨_, rfl, lv_tick⟩
  | 3, hx, hz => cases hx; cases hz; exact ⟨_, rfl, lv_flag⟩
  | 4, hx, hz => cases hx; cases hz; exact ⟨_, rfl, lv_test⟩
  | 5, hx, hz => cases hx; cases hz; exact ⟨_, rfl, lv_mode⟩
  | 6, hx, hz => cases hx; cases hz; exact ⟨_, rfl, lv_first⟩
  | 7, hx, hz => cases hx; cases hz; exact ⟨_, rfl, lv_second⟩
  | 8, hx, hz => cases hx; cases hz; exact ⟨_, rfl, lv_heard⟩
  | 9, hx, hz => cases hx; cases hz; exact ⟨_, rfl, lv_said⟩
  | 10, hx, hz => cases hx; cases hz; exact ⟨_, rfl, lv_done⟩
  | i + 11, hx, hz => cases hx
theorem eqv_pair (p q : Int × Int) : PyData.eqv (Kx.pairD p) (Kx.pairD q) = decide (p = q) := by
  show (PyData.eqv (.int p.1) (.int q.1) && (PyData.eqv (.int p.2) (.int q.2) && true)) = _
  rw [eqv_int, eqv_int, Bool.and_true]
  by_cases h1 : p.1 = q.1
  · by_cases h2 : p.2 = q.2
    · rw [decide_eq_true h1, decide_eq_true h2, decide_eq_true (Prod.ext h1 h2)]
      rfl
    · rw [decide_eq_false h2, Bool.and_false, decide_eq_false fun e => h2 (by rw [e])]
  · rw [decide_eq_false h1, Bool.false_and, decide_eq_false fun e => h1 (by rw [e])]
theorem eqv_bool (a b : Bool) : PyData.eqv (.bool a) (.bool b) = decide (a = b) := by cases a <;> cases b <;> rfl
theorem seen_eqv {s t : Mst} {l k : List (Int × Int)} (hs : IsC l s.cells) (ht : IsC k t.cells) : PyData.eqv (seenD s l) (seenD t k) = true ↔ s = t := by
  have e : PyData.eqv (seenD s l) (seenD t k) = (decide (s.block = t.block) && (decide (s.room = t.room) && (decide (s.tick = t.tick) && (decide (s.flag = t.flag) && (decide (s.test = t.test) && (decide (s.mode = t.mode) && (decide (s.first = t.first) && (decide (s.second = t.second) && (decide ((s.heard : Int) = (t.heard : Int)) && (decide (s.said = t.said) && (decide (s.isd = t.isd) && (decide (l = k) && true)))))))))))) := by
    show (PyData.eqv (.int s.block) (.int t.block) && (PyData.eqv (.int s.room) (.int t.room) && (PyData.eqv (.bool s.tick) (.bool t.tick) && (PyData.eqv (.bool s.flag) (.bool t.flag) && (PyData.eqv (.bool s.test) (.bool t.test) && (PyData.eqv (.int s.mode) (.int t.mode) && (PyData.eqv (.int s.first) (.int t.first) && (PyData.eqv (.int s.second) (.int t.second) && (PyData.eqv (.int (s.heard : Nat)) (.int (t.heard : Nat)) && (PyData.eqv (.list (s.said.map PyData.int)) (.list (t.said.map PyData.int)) && (PyData.eqv (.bool s.isd) (.bool t.isd) && (PyData.eqvAll (l.map Kx.pairD) (k.map Kx.pairD) && true)))))))))))) = _
    rw [eqv_int, eqv_int, eqv_bool, eqv_bool, eqv_bool, eqv_int, eqv_int, eqv_int, eqv_int, eqv_ints, eqv_bool, eqvAll_map eqv_pair]
  rw [e]
  simp only [Bool.and_eq_true, decide_eq_true_eq, and_true]
  constructor
  · rintro ⟨h1, h2, h3, h4, h5, h6, h7, h8, h9, h10, h11, h12⟩
    have hc : s.cells = t.cells := by
      subst h12
      funext c
      by_cases z : s.cells c = 0
      · by_cases z2 : t.cells c = 0
        · rw [z, z2]
        · exact ((hs.mem c (t.cells c)).mp ((ht.mem c (t.cells c)).mpr ⟨rfl, z2⟩)).1
      · exact ((ht.mem c (s.cells c)).mp ((hs.mem c (s.cells c)).mpr ⟨rfl, z⟩)).1.symm
    have hh : s.heard = t.heard := Int.ofNat.inj h9
    clear h9 hs ht e
    have h9 := hh
    clear hh
    cases s
    cases t
    dsimp only at h1 h2 h3 h4 h5 h6 h7 h8 h9 h10 h11 hc
    subst h1 h2 h3 h4 h5 h6 h7 h8 h9 h10 h11 hc
    rfl
  · rintro rfl
    exact ⟨rfl, rfl, rfl, rfl, rfl, rfl, rfl, rfl, rfl, rfl, rfl, hs.uniq ht⟩
theorem pl_pair (p : Int × Int) : Pl 1 (Kx.pairD p) := Pl.tup fun d m => by
  rcases List.mem_cons.mp m with rfl | m
  · exact pl_int _ _
  · rw [List.mem_singleton.mp m]
    exact pl_int _ _
theorem seen_shaped (s : Mst) (l : List (Int × Int)) : SeqAt.shaped (seenD s l) = true := by
  have h : Pl 3 (seenD s l) := Pl.lst fun d m => by
    simp only [List.mem_cons, List.not_mem_nil, or_false] at m
    have i : ∀ i : Int, Pl 2 (.int i) := fun i => pl_int 2 i
    have b : ∀ b : Bool, Pl 2 (.bool b) := fun b => ⟨rfl, Nat.zero_le _⟩
    have hl : Pl 2 (.list (l.map Kx.pairD)) := Pl.lst fun d m => by
      obtain ⟨p, _, rfl⟩ := List.mem_map.mp m
      exact pl_pair p
    have hsd : Pl 2 (.list (s.said.map PyData.int)) := Pl.lst fun d m => by
      obtain ⟨p, _, rfl⟩ := List.mem_map.mp m
      exact pl_int _ _
    rcases m with rfl | rfl | rfl | rfl | rfl | rfl | rfl | rfl | rfl | rfl | rfl | rfl
    all_goals first | exact i _ | exact b _ | exact hl | exact hsd
  exact h.shaped (by decide)
end Ms
namespace ItX
open PySem PySem.Calls PyProof.Rows PyProof.V PySem.Spec PySem.W
section
variable {P : Program} {wd : World} {κ : Type} [DecidableEq κ] {kd : KeyKind P wd κ} {A : Around} {E : Value → Shared → Prop} {z : Shared}
theorem there_or_not {s : Shared} {a : Addr} {Q : Option Obj → Shared → Prop} (h : Q (s.heap.get? a) s) : wpAny (model P wd) A (loadIfAlive a) Q E s := fun _ _ _ => h
/-- the next pair of an iterator that has lent its tuple, whether that is still there or not -/
theorem next_lent {t d a : Addr} {f : Bool} {i e : Nat} {ps : List (κ × Value)} {k : κ} {v xk xv : Value} {Q : Option Value → Shared → Prop} (at_ : KdxIt z.heap t d i ps.length e xk xv a f) (dict : z.heap.DictAt kd d ps e) (now : ps[i]? = some (k, v))
    (go : ∀ key h' yk yv b g, kd.is k key = true → KdxIt h' t d (i + 1) ps.length e yk yv b g → h'.get? z.heap.objs.size = some ⟨.type "tuple", none, .seq #[key, v] 0, #[]⟩ → h'.objs.size = z.heap.objs.size + 1 →
      (∀ c o, c ≠ t → z.heap.get? c = some o → h'.get? c = some o) → Q (some (.ref z.heap.objs.size)) { z with heap := h' }) :
    wpAny (model P wd) A (pyNext (.ref t)) Q E z := by
  obtain ⟨h0, gl, dw, tks, os⟩ := z
  obtain ⟨ob, es, ob1, ob2, ob3, ob4, pairs, ob5⟩ := id dict
  have ty : Shared.TypeIs ⟨h0, gl, dw, tks, os⟩ (.ref t) "dict_itemiterator" := ⟨_, at_, rfl⟩
  unfold pyNext
  refine wpAny_bind (wpAny_attempt (wpAny_callSpecial?_slot (name := Str.ofString "__next__") ty PySem.F.slot_dict_itemiterator_next (wpAny_call_entry PySem.F.slot_dict_itemiterator_next ty PySem.F.entry_dict_itemiterator_next ?_ (PySem.F.args_dict_itemiterator_next_1 _))))
  refine wpAny_bind (wpAny_pure (wpAny_bind (wpAny_bind ?_)))
  first | refine wpAny_bind (wpAny_typeNameOfWhole_itemiter ty (wpAny_pure ?_)) | refine wpAny_bind (wpAny_typeNameOf_itemiter ty (wpAny_pure ?_))
  refine wpAny_bind (wpAny_fieldsOf at_ rfl ?_)
  have owns : Builtin.Dict_items.ownsTuple "dict_itemiterator" = true := by decide
  simp only [owns, if_true]
  show wpAny _ _ (if (Value.ref d == Value.none) = true then _ else _) _ _ _
  rw [if_neg (show ¬ ((Value.ref d == Value.none) = true) by intro y; cases y)]
  refine wpAny_bind (wpAny_pure (wpAny_bind (wpAny_dictEntries ob1 ob3 ?_)))
  have size : es.size = ps.length := by rw [← pairs.length]; simp
  rw [if_neg (by rw [size]; simp)]
  refine wpAny_bind (wpAny_pure (wpAny_bind (wpAny_dictEpoch ob1 ob3 ?_)))
  rw [if_neg (by simp)]
  refine wpAny_pure ?_
  have ilt : i < es.size := by
    rw [size]
    exact (List.getElem?_eq_some_iff.mp now).1
  obtain ⟨isK, isV⟩ := pairs.get? (e := es[i]) (by simp [ilt]) now
  simp only [show ¬ ((i : Int) < 0) by omega, if_false, Int.toNat_natCast, Array.getElem?_eq_getElem ilt]
  refine wpAny_bind ?_
  first | refine wpAny_bind (wpAny_typeNameOfWhole_itemiter ty (wpAny_pure ?_)) | refine wpAny_bind (wpAny_typeNameOf_itemiter ty (wpAny_pure ?_))
  refine wpAny_bind (wpAny_isOneOf_itemiter ty ?_)
  show wpAny _ _ (setField (.ref t) 3 (rawInt ((i : Int) + 1)) >>= _) _ _ ⟨h0, gl, dw, tks, os⟩
  refine wpAny_bind (wpAny_setField_rec at_ (by simp) fun h1 w1 b1 => ?_)
  have b1 : Heap.SameBut t h0 h1 := b1
  have w1 : KdxIt h1 t d (i + 1) ps.length e xk xv a f := by
    have up : ((i + 1 : Nat) : Int) = (i : Int) + 1 := by omega
    unfold KdxIt
    rw [up]
    simpa [rawInt] using w1
  have ty1 : Shared.TypeIs ⟨h1, gl, dw, tks, os⟩ (.ref t) "dict_itemiterator" := ⟨_, w1, rfl⟩
  refine wpAny_bind (wpAny_holding (wpAny_bind (wpAny_isOneOf_itemiter ty1 (wpAny_bind (wpAny_isOneOf_itemiter ty1 ?_)))))
  show wpAny _ _ (Builtin.Dict_items.pairFromOwner (.ref t) 6 es[i].key es[i].val) _ _ ⟨h1, gl, dw, tks, os⟩
  unfold Builtin.Dict_items.pairFromOwner
  refine wpAny_bind (wpAny_newTuple ?_)
  have w2 : KdxIt (h1.push { cls := .type "tuple", data := .seq #[es[i].key, es[i].val] }) t d (i + 1) ps.length e xk xv a f := Heap.get?_push_of_some _ w1
  generalize e2 : h1.push { cls := .type "tuple", data := .seq #[es[i].key, es[i].val] } = h2 at w2
  have n1 : h1.objs.size = h0.objs.size := b1.1
  have tlt : t < h0.objs.size := Heap.lt_size at_
  have tup : h2.get? h0.objs.size = some { cls := .type "tuple", data := .seq #[es[i].key, es[i].val] } := by
    rw [← e2, ← n1]
    exact Heap.get?_push_size _ rfl
  have n2 : h2.objs.size = h0.objs.size + 1 := by rw [← e2, Heap.size_push, n1]
  have kp : ∀ c o, c ≠ t → h0.get? c = some o → h2.get? c = some o := fun c o nc hc => by
    rw [← e2]
    exact Heap.get?_push_of_some _ (b1.extBut c o nc hc)
  show wpAny _ _ (Builtin.Dict_items.ownedTupleIsFree (.ref t) >>= _) _ _ ⟨h2, gl, dw, tks, os⟩
  rw [n1]
  have fin : ∀ (h3 : Heap) (yk yv : Value) (b : Addr) (g : Bool), KdxIt h3 t d (i + 1) ps.length e yk yv b g → Heap.SameBut t h2 h3 → Q (some (.ref h0.objs.size)) ⟨h3, gl, dw, tks, os⟩ := fun h3 yk yv b g w3 s3 =>
    go es[i].key h3 yk yv b g isK w3 (by rw [← isV]; exact s3.extBut _ _ (Nat.ne_of_gt tlt) tup) (by show h3.objs.size = h0.objs.size + 1; rw [s3.1, n2]) fun c o nc hc => s3.extBut c o nc (kp c o nc hc)
  refine wpAny_bind ?_
  unfold Builtin.Dict_items.ownedTupleIsFree
  refine wpAny_bind (wpAny_field w2 rfl (x := rawInt a) rfl ?_)
  show wpAny _ _ (loadIfAlive ((a : Int).toNat) >>= _) _ _ _
  rw [Int.toNat_natCast]
  refine wpAny_bind (there_or_not ?_)
  cases h2.get? a with
  | none =>
    simp only [Option.isNone_none, if_true]
    refine wpAny_pure ?_
    simp only [if_true]
    refine wpAny_bind (wpAny_field w2 rfl (x := xk) rfl (wpAny_bind (wpAny_field w2 rfl (x := xv) rfl ?_)))
    refine wpAny_bind (wpAny_setField_rec w2 (by simp) fun h3 w3 s3 => wpAny_bind ?_)
    have w3 : KdxIt h3 t d (i + 1) ps.length e es[i].key xv a f := w3
    refine wpAny_setField_rec w3 (by simp) fun h4 w4 s4 => wpAny_bind ?_
    have w4 : KdxIt h4 t d (i + 1) ps.length e es[i].key es[i].val a f := w4
    refine wpAny_setField_rec w4 (by simp) fun h5 w5 s5 => wpAny_bind ?_
    have w5 : KdxIt h5 t d (i + 1) ps.length e es[i].key es[i].val h0.objs.size f := w5
    refine wpAny_setField_rec w5 (by simp) fun h6 w6 s6 => wpAny_bind ?_
    have w6 : KdxIt h6 t d (i + 1) ps.length e es[i].key es[i].val h0.objs.size false := w6
    have all : Heap.SameBut t h2 h6 := ((s3.trans s4).trans s5).trans s6
    exact wpAny_letGo (wpAny_pure (wpAny_pure ⟨_, rfl, wpAny_pure (fin h6 _ _ _ _ w6 all)⟩))
  | some oa =>
    simp only [Option.isNone_some, Bool.false_eq_true, if_false]
    refine wpAny_bind (wpAny_field w2 rfl (x := .bool f) rfl ?_)
    cases f with
    | true =>
      rw [if_neg (show ¬ ((Value.bool true != Value.bool true) = true) by intro y; cases y)]
      refine wpAny_pure ?_
      simp only [Bool.false_eq_true, if_false]
      exact wpAny_pure (wpAny_pure ⟨_, rfl, wpAny_pure (fin h2 _ _ _ _ w2 (Heap.SameBut.refl _ _))⟩)
    | false =>
      rw [if_pos (show (Value.bool false != Value.bool true) = true by rfl)]
      refine wpAny_bind (wpAny_setField_rec w2 (by simp) fun h3 w3 s3 => ?_)
      have w3 : KdxIt h3 t d (i + 1) ps.length e xk xv a true := w3
      refine wpAny_pure ?_
      simp only [Bool.false_eq_true, if_false]
      exact wpAny_pure (wpAny_pure ⟨_, rfl, wpAny_pure (fin h3 _ _ _ _ w3 s3)⟩)
end
end ItX
namespace ItX
open PySem PySem.Spec PyProof.Rows L2 PySem.W
section
variable {P : Program} {w : World} {K : PySem.W.Frag} {d : Addr} {o : Obj} {es : Array DictEntry} {ep : Nat}
theorem self_held {A : Around} {E Q : Value → Shared → Prop} {s : Shared} {t : Addr} (ty : s.TypeIs (.ref t) "dict_itemiterator") (h : Q (.ref t) s) : wpAny (model P w) A (pyIter (.ref t)) Q E s :=
  wpAny_pyIter_slot ty PySem.F.slot_dict_itemiterator_iter (wpAny_call_entry PySem.F.slot_dict_itemiterator_iter ty kcp_entry (wpAny_pure ⟨_, rfl, "dict_itemiterator", _, ty, PySem.F.slot_dict_itemiterator_next.lookup, h⟩) (PySem.F.args_dict_itemiterator_iter_1 _))
/-- the pairs of a dict, each held by a name -/
theorem turn_held {kvs : List (Key × V)} {nm : Str} {np : Pos} (t : Addr) (od : o.data = .dict es ep) :
    Turn P w K (.Name nm np) (Iti d o kvs) [t] t (fun i h => (∃ xk xv, IsItemIter h t d i kvs.length ep xk xv) ∨ ∃ xk xv a f, KdxIt h t d i kvs.length ep xk xv a f) where
  mem := List.mem_singleton.mpr rfl
  obj := fun i h st b hb => by
    obtain rfl := List.mem_singleton.mp hb
    rcases st with ⟨_, _, e⟩ | ⟨_, _, _, _, e⟩
    · exact ⟨_, e, fun v z => nomatch z⟩
    · exact ⟨_, e, fun v z => nomatch z⟩
  keep := fun i h h' st k => by
    have m : t ∈ [t] := List.mem_singleton.mpr rfl
    rcases st with ⟨xk, xv, e⟩ | ⟨xk, xv, a, f, e⟩
    · exact .inl ⟨xk, xv, k t m _ e⟩
    · exact .inr ⟨xk, xv, a, f, k t m _ e⟩
  item := by
    intro X eP ew eK calm i pins s σ H E I hf st go
    subst eP ew eK
    obtain ⟨hd, hi⟩ := go
    obtain ⟨hs, hgd, hx, es', ep', vs, hdt, hsz, kv, hm⟩ := I.frzK hd
    obtain ⟨rfl, rfl⟩ := dict_ep od hdt
    obtain ⟨⟨k, v⟩, hkv⟩ : ∃ p, kvs[i]? = some p := ⟨kvs[i], List.getElem?_eq_getElem hi⟩
    obtain ⟨u, hu, ru⟩ := kv_get kv hkv
    have hl : kvs.length = vs.length := Paired.length kv
    have fin : ∀ (key : Value) (h' : Heap) (xk xv : Value) (a : Addr) (f : Bool), keyIs k key = true → KdxIt h' t d (i + 1) vs.length ep' xk xv a f → h'.get? s.heap.objs.size = some ⟨.type "tuple", none, .seq #[key, u] 0, #[]⟩ →
        (∀ b ob, b ≠ t → s.heap.get? b = some ob → h'.get? b = some ob) → t < s.heap.objs.size →
        ∃ u', some (Value.ref s.heap.objs.size) = some u' ∧ wpAny (model X.prog X.w) X.A (letOwnedTupleGo (.Name nm np) (.ref t) u') (fun _ s2 => ∃ x H', Inv X pins σ H' s2 ∧ RelV x u' ∧ (Iti d o kvs).yld i H x H' ∧
          ((∃ xk xv, IsItemIter s2.heap t d (i + 1) kvs.length ep' xk xv) ∨ ∃ xk xv a f, KdxIt s2.heap t d (i + 1) kvs.length ep' xk xv a f) ∧ ∀ b ∈ [t], H' b = none) E { s with heap := h' } := by
      intro key h' xk xv a f hkey st' tup kp tlt
      have new : ObjOk X.prog X.w (upd H s.heap.objs.size (.tup [kV k, v])) h' s.heap.objs.size (.tup [kV k, v]) :=
        ⟨by show 2 ≤ sizeLine; decide, [key, u], .cons (relV_key hkey) (.cons ru .nil), ⟨_, tup, rfl, _, rfl⟩⟩
      have I1 : Inv X pins σ (upd H s.heap.objs.size (.tup [kV k, v])) { s with heap := h' } :=
        I.turnedNew (t' := s.toks) (ch := [t]) (fun b ob hb e => kp b ob (by simpa using hb) e) hf (Nat.le_refl _) new
      refine ⟨_, rfl, wpAny_pure ⟨.ref s.heap.objs.size, _, I1, rfl, ⟨_, k, v, hkv, rfl, I.hok.fresh (Nat.le_refl _), rfl⟩, .inr ⟨xk, xv, a, f, hl ▸ st'⟩, fun b hb => ?_⟩⟩
      obtain rfl := List.mem_singleton.mp hb
      rw [upd_ne (Nat.ne_of_lt tlt)]
      exact (hf b hb).1
    rcases st with ⟨xk, xv, he⟩ | ⟨xk, xv, a, f, he⟩
    · rw [hl] at he
      exact wpAny_pyNext_items_item he hm hu fun key h' hkey ho hT _ hk => fin key h' _ _ _ false hkey ho hT hk (Heap.lt_size he)
    · rw [hl] at he
      exact next_lent he hm hu fun key h' yk yv b g hkey ho hT _ hk => fin key h' _ _ _ _ hkey ho hT hk (Heap.lt_size he)
  done := by
    intro X eP ew eK calm i pins s σ H E I hf st go
    subst eP ew eK
    obtain ⟨hd, hi⟩ := go
    obtain ⟨f0, f1, f2, f3, f4, f5⟩ := hf t (by simp)
    obtain ⟨hs, hgd, hx, es', ep', vs, hdt, hsz, kv, hm⟩ := I.frzK hd
    obtain ⟨rfl, rfl⟩ := dict_ep od hdt
    have hl : kvs.length = vs.length := Paired.length kv
    have none' : vs[i]? = none := List.getElem?_eq_none (by omega)
    rcases st with ⟨xk, xv, he⟩ | ⟨xk, xv, a, f, he⟩
    · rw [hl] at he
      exact wpAny_pyNext_items_end (I.ok.hd calm) he hm none' fun h' eb => ⟨rfl, I.turned (t' := s.toks) (fun b ob hb e => eb b ob hb e) f0 f1 f3 f4 f5⟩
    · rw [hl] at he
      exact kdx_end_out (I.ok.hd calm) he hm none' fun h' eb => ⟨rfl, I.turned (t' := s.toks) (fun b ob hb e => eb b ob hb e) f0 f1 f3 f4 f5⟩
  self := fun A i s Q E st h => by
    rcases st with ⟨_, _, e⟩ | ⟨_, _, _, _, e⟩
    · exact self_held ⟨_, e, rfl⟩ h
    · exact self_held ⟨_, e, rfl⟩ h
end
section
variable {X : Cx} {e : Expr} {td : TE} {apos cpos : Pos} {nm : Str} {np : Pos}
theorem pi_held (he : PE X e td) (hbase : attributeBase e "items" X.env (eval e X.env) = eval e X.env := by rfl) (hline : (apos.endLine == cpos.line) = true := by rfl) :
    PI X (.Name nm np) (.Call (.Attribute e "items" apos) [] [] cpos) (iItems td) := by
  refine ⟨fun pins s σ H R I h => ?_⟩
  refine wpAny_Call_method (T := "dict") (id := "dict.items") hbase rfl hline F.plainAttrs_dict F.slot_dict_items F.type_dict_items (thn (he.run pins s σ H _ I h) fun u s1 ⟨x, H1, I1, rx, d, o, kvs, ex, hd, q⟩ => ?_)
  subst ex
  obtain rfl : u = Value.ref d := rx
  obtain ⟨hs, hgd, hx, es, ep, vs, hdt, hsz, kv, hm⟩ := I1.frzK hd
  have hl : kvs.length = vs.length := Paired.length kv
  refine ⟨hm.dictOf.typeIs, hm.dictOf.mapOf.noDict, ?_⟩
  have I2 : Inv X pins σ H1 { s1 with heap := s1.heap.push { cls := .type "dict_items", data := .fields #[.ref d] } } := I1.kept (t' := s1.toks) fun b ob q => Heap.get?_push_of_some _ q
  have fin : wpAny (model X.prog X.w) X.A (pyIter (.ref s1.heap.objs.size)) (PIE X pins σ (.Name nm np) R) X.xe { s1 with heap := s1.heap.push { cls := .type "dict_items", data := .fields #[.ref d] } } := by
    refine wpAny_pyIter_items (d := d) (knd := mixKind X.prog X.w) ⟨_, Heap.get?_push_size _ rfl, rfl, rfl⟩ (hm.push _) (pi_one (tk := s1.toks) I2 _ (turn_held _ hdt) (.inl ⟨.none, .none, ?_⟩) q)
    rw [hl]
    exact Heap.get?_push_size _ rfl
  show wpAny _ _ (callWith cpos (.builtin "dict.items") [.ref d] [] []) _ X.xe s1
  exact method_meetsIn F.slot_dict_items F.entry_dict_items rfl (PySem.evalArgs_none ⟨rfl, hm.dictOf.typeIs, F.args_dict_items_1 _, _, meets_dict_items (mixKind X.prog X.w) d hs, ⟨vs, hm.dictOf⟩, fin⟩)
end
end ItX
namespace Kx
open PySem PySem.Spec PyProof.Rows L2 SX LamX
/-- no positional value, four by name: d, c, b, a for a, b, c, d -/
def backH {α : Type} (us ws : List α) : List α := match us, ws with | [], [d, c, b, a] => [a, b, c, d] | _, _ => []
theorem kb_backH {K : PySem.W.Frag} {x qual : Str} {st : Stmt} {f : Addr} {fd : FuncData} {a b c d : Str} (F : Fun K x qual st f fd)
    (h : ∀ (kV doc pm : Value) (an : Option Addr) (cdv ct : Value) (t u v w : Value), bindArgs (PySem.W.fnOf x qual (defArgs st) (defBody st) (defScope st) .none kV doc pm an cdv ct) ⟨[], [(d, w), (c, v), (b, u), (a, t)]⟩ = pure [(a, t), (b, u), (c, v), (d, w)]) :
    KBinds K fd [a, b, c, d] [d, c, b, a] backH backH := by
  obtain ⟨oc, od, kV, doc, pm, an, cdv, ct, osl, rfl, lk, hcd⟩ := F.ex
  refine ⟨fun s us ws X l => ?_, fun {vs us zs ws} r1 r2 => ?_⟩
  · match us, ws, l with
    | [], [w, v, u, t], _ => exact .of_eq (h kV doc pm an cdv ct t u v w)
    | [], [], l => cases l
    | [], [_], l => cases l
    | [], [_, _], l => cases l
    | [], [_, _, _], l => cases l
    | [], _ :: _ :: _ :: _ :: _ :: _, l => cases l
    | _ :: _, _, l => cases l
  · cases r1 with
    | cons _ _ => exact .nil
    | nil =>
      cases r2 with
      | nil => exact .nil
      | cons h1 r2 =>
        cases r2 with
        | nil => exact .nil
        | cons h2 r2 =>
          cases r2 with
          | nil => exact .nil
          | cons h3 r2 =>
            cases r2 with
            | nil => exact .nil
            | cons h4 r2 =>
              cases r2 with
              | nil => exact .cons h4 (.cons h3 (.cons h2 (.cons h1 .nil)))
              | cons _ _ => exact .nil
end Kx
/-! super().__init__(..) as the first thing that an own __init__ does -/
namespace SupX
open PySem PySem.Spec PyProof.Rows L2 PySem.Calls
/-- what a def that says super() must have: its own place f, the class D it stands in, the cell that tells it -/
structure SupE (X : Cx) (D : Addr) (me : Str) : Prop where
  ks : X.env.kindOf "super" = some .globalImplicit
  kc : X.env.kindOf "__class__" = some .free
  ka : X.env.kindOf me = some .local
  n0 : X.N[0]? = some me
  fn : ∃ (f : Addr) (oc : Value) (od : Option Addr) (fd : FuncData) (osl : Array (Option Value)) (ar : Arg), X.env.func = some f ∧ X.K.lookup f = some ⟨oc, od, .func fd, osl⟩ ∧ (fd.params.posonlyargs ++ fd.params.args).head? = some ar ∧ ar.arg = me
  code : ∃ (cda : Addr) (oc : Value) (od : Option Addr) (vs : Array Value) (osl : Array (Option Value)) (file : Str) (tf : Tok), X.env.code = .ref cda ∧ X.K.lookup cda = some ⟨oc, od, .fields vs, osl⟩ ∧ vs[2]? = some (.str file tf) ∧ ((X.prog.main.file : Str) == file) = true
  cell : ∃ (cc : Addr) (oc : Value) (od : Option Addr) (osl : Array (Option Value)), X.env.cells.lookup ("__class__" : Str) = some cc ∧ X.K.lookup cc = some ⟨oc, od, .cell (some (.ref D)), osl⟩
  top : (X.prog.main.scope.names.lookup ("super" : Str)).isSome = false
  msup : X.mg "super" = none
  clsD : ∃ cdD, PySem.W.clsIn X.K D = some cdD
/-- the method of the classes above D that an instance of C has by super() -/
structure SupM (K : PySem.W.Frag) (C D g : Addr) : Prop where
  sub : PySem.W.mroIn K C (.ref D) = some true
  at_ : PySem.W.ks_superIn K C D "__init__" = some (some (.ref g))
  ty : PySem.W.typeIn K (.ref g) = some (.type "function")
  fi : PySem.W.fnIn K g = true
  no : PySem.W.nsIn K cStatics "thirdparty.any" = some none
theorem boot_super : bootBuiltins "super" = some (.type "super") := by first | rfl | kernel_rfl
section
variable {X : Cx} {pins : List (Addr × Obj)} {σ : L2.St} {H : Hp} {s : Shared}
theorem super_call {CX : CXT} {k : Nat} {a C D g dx : Addr} {fs : List (Str × V)} {me : Str} {sp : Sp} {E : XK} {Q : VK} {e : Expr} {es : List Expr} {t : TA} {p0 p1 apos pos : Pos} {body : List Stmt} (S : SupE X D me) (M : SupM X.K C D g) (I : Inv X pins σ H s)
    (h0 : σ[0]? = some (some (.ref a))) (ha : H a = some (.ins C dx fs)) (F : FnR X.prog X.w X.K X.mg X.base CX k g sp) (hr : Room k X.A) (hx : Passes CX X E) (hargs : PA X (e :: es) t) (h : t σ H fun vs H2 => sp (.ref a :: vs) H2 Q E)
    (hst : starEach (e :: es) X.env = (false, eval e X.env) :: starEach es X.env := by rfl) (hpl : (backTo pos (starEach es X.env)).any (·.1) = false := by rfl)
    {pl : Sem Bool}
    (ht : eval (.Call (.Attribute (.Call (.Name "super" p0) [] [] p1) "__init__" apos) (e :: es) [] pos) X.env = (do
      let ov ← attributeBase (.Call (.Name "super" p0) [] [] p1) "__init__" X.env (eval (.Call (.Name "super" p0) [] [] p1) X.env)
      standAt apos.atName
      let (f, first) ← holding [ov] (getMethod ov "__init__" pl)
      callWith pos f first (backTo pos (starEach (e :: es) X.env)) []) := by rfl) :
    _root_.PySem.wpAt (model X.prog X.w) X.A (.func body X.env) (eval (.Call (.Attribute (.Call (.Name "super" p0) [] [] p1) "__init__" apos) (e :: es) [] pos) X.env) (EP X pins σ Q) X.xe s := by
  have KX := I.kIn
  obtain ⟨f, oc, od, fd, osl, ar, hf1, hf2, hf3, rfl⟩ := S.fn
  obtain ⟨cda, oc2, od2, vs, osl2, file, tf, hc1, hc2, hc3, hc4⟩ := S.code
  obtain ⟨cc, oc3, od3, osl3, hl1, hl2⟩ := S.cell
  obtain ⟨cdD, hD⟩ := S.clsD
  obtain ⟨oD, hD1, hD2⟩ : ∃ oD, s.heap.get? D = some oD ∧ oD.data = .cls cdD := by
    unfold PySem.W.clsIn at hD
    split at hD
    · rename_i c d cd' sl ho
      cases hD
      exact ⟨_, KX _ _ ho, rfl⟩
    · cases hD
  obtain ⟨mA, O, _, _, _, _⟩ := ins_get I.hok ha
  obtain ⟨m, ns, hm⟩ := I.loc
  obtain ⟨u, ru, lk⟩ := hm 0 _ _ S.n0 h0 (.inl S.ka)
  obtain rfl : u = Value.ref a := ru
  have hv : m ar.arg = some (.ref a) := by
    rcases lk with ⟨_, z⟩ | ⟨z | z, _⟩
    · exact z
    · rw [S.ka] at z
      cases z
    · rw [S.ka] at z
      cases z
  obtain ⟨mb, b1, b2⟩ := I.mod.blt
  refine PySem.ks_wpAt_MethodCall (pl := pl) (PySem.ks_wpAt_super_base (env := X.env) S.ks S.kc (by decide) hf1 (KX _ _ hf2) rfl hf3 hc1 (KX _ _ hc2) rfl hc3 hc4 S.top ?_) ht
  refine PySem.W.ks_loadName_global I.ok.kind S.ks (Calls.loadGlobal_builtin (by rw [I.ok.glob]; exact I.mod.glob.keeps I.bk) S.msup (by rw [I.ok.blt]; exact b1.keeps I.bk) ((b2 "super" (by decide)).trans boot_super) ⟨rfl, ?_⟩)
  refine wpAny_loadName_free I.ok.kind S.kc hl1 ⟨_, KX _ _ hl2, rfl⟩ ?_
  refine wpAny_loadName_local I.ok.kind S.ka ns hv ?_
  refine PySem.ks_wpAny_isType_cls hD1 hD2 ⟨rfl, ?_⟩
  obtain ⟨hh, gg, dd, tt, os⟩ := s
  refine PySem.ks_wpAny_call_super hD1 hD2 O.obj rfl (fun c z => by cases z) (PySem.W.looks_mroIn KX M.sub) (fun h' e1 k1 => ?_)
  have I1 : Inv X pins σ H ⟨h', gg, dd, tt, os⟩ := I.kept (t' := tt) k1
  have KX1 := I1.kIn
  obtain ⟨of, hof, hofc⟩ : ∃ of, h'.get? g = some of ∧ of.cls = .type "function" := by
    have ht' : (X.K.lookup g).map (·.cls) = some (.type "function") := M.ty
    cases z : X.K.lookup g with
    | none => rw [z] at ht'; cases ht'
    | some of => rw [z] at ht'; exact ⟨of, KX1 _ _ z, Option.some.inj ht'⟩
  have hm' := M.at_
  unfold PySem.W.ks_superIn at hm'
  cases hc : PySem.W.clsIn X.K C with
  | none => rw [hc] at hm'; cases hm'
  | some cd =>
    rw [hc] at hm'
    have hxC : a ≠ C := by
      rintro rfl
      unfold PySem.W.clsIn at hc
      split at hc
      · rename_i c d cd' sl ho
        have e := KX _ _ ho
        rw [O.obj] at e
        cases e
      · cases hc
    refine PySem.ks_wpAny_getMethod_super e1 (PySem.W.looks_opaque KX1 M.no) (l₀ := cd.mro) ?_ rfl KX1 hm' hof hofc hxC (by decide) ?_
    · exact fun A Q E s k q => wpAny_bind ((PySem.W.looks_clsIn KX1 hc) A _ E s k (wpAny_pure q))
    have I2 : Inv X ((h'.objs.size, PySem.W.methodObj (.ref g) (.ref a)) :: pins) σ H ⟨h'.push (PySem.W.methodObj (.ref g) (.ref a)), gg, dd, tt + 1, os⟩ := ClX.pin_new I1 (fun _ _ z => Heap.get?_push_of_some _ z) (Nat.le_refl _) (Heap.get?_push_size h' rfl) (fun v z => nomatch z)
    refine ClX.callwith_cm I2 (ClX.base_none I1 (Nat.le_refl _)) M.fi (thn (hargs.run pos _ _ σ H _ I2 h) fun us s3 ⟨vs, H3, I3, rv, q2⟩ => ⟨⟨ClX.pin_at I3, I3.kIn⟩, ?_⟩) hst hpl
    exact ClX.run_cm F hr hx I3 rv q2
end
/-! ### the def -/
open NdefX
section
variable {CX CX2 : CXT} {P : Program} {w : World} {K : PySem.W.Frag} {mg : Str → Option Value} {base : Heap} {k k2 : Nat} {f cc cda D g : Addr} {name qual me : Str} {params : Arguments} {body rest : List Stmt} {scope : Scope} {dV kV doc pm ct oc : Value} {an od : Option Addr}
  {osl : Array (Option Value)} {N ps : List Str} {sp sp2 : Sp} {E2 : XK} {e : Expr} {es : List Expr} {p0 p1 apos pos pos2 : Pos}
theorem fn_super (lk : K.lookup f = some ⟨oc, od, .func (PySem.W.fnX name qual params body scope [("__class__", cc)] dV kV doc pm an (.ref cda) ct), osl⟩) (hcd : PySem.W.codeIn K (.ref cda) qual = true) (S : NScope N ps ["__class__"] scope)
    (hB : body = .Expr (.Call (.Attribute (.Call (.Name "super" p0) [] [] p1) "__init__" apos) (e :: es) [] pos) pos2 :: rest)
    (hc : ∃ (ocl : Value) (odl : Option Addr) (osl2 : Array (Option Value)), K.lookup cc = some ⟨ocl, odl, .cell (some (.ref D)), osl2⟩)
    (F : FnR P w K mg base CX2 k2 g sp2) (hk : k2 ≤ k) (len : ∀ vs H Q E, sp vs H Q E → vs.length = ps.length)
    (hbody : ∀ (A : Around) (outer : List Env) (s : Shared) (H : Hp) (vs : List V) (Q : VK) (E : XK), Room k (A.deeper (envF ⟨name, qual, params, body, scope, [("__class__", cc)], cda⟩ f s.heap.objs.size)) → sp vs H Q E →
      ∃ (a C dx : Addr) (fs : List (Str × V)) (t : TA) (u : TS), SupE (ncx CX P w K mg base N ⟨name, qual, params, body, scope, [("__class__", cc)], cda⟩ f A outer s H E) D me ∧ SupM K C D g ∧ Passes CX2 (ncx CX P w K mg base N ⟨name, qual, params, body, scope, [("__class__", cc)], cda⟩ f A outer s H E) E2 ∧
        (startF N vs [none])[0]? = some (some (.ref a)) ∧ H a = some (.ins C dx fs) ∧ PA (ncx CX P w K mg base N ⟨name, qual, params, body, scope, [("__class__", cc)], cda⟩ f A outer s H E) (e :: es) t ∧ PSs (ncx CX P w K mg base N ⟨name, qual, params, body, scope, [("__class__", cc)], cda⟩ f A outer s H E) rest u ∧
        t (startF N vs [none]) H fun ws H2 => sp2 (.ref a :: ws) H2 (fun _ H3 => u { nx := fun _ H' => Q .non H', rt := Q } (startF N vs [none]) H3) E2)
    (hst : ∀ env : Env, starEach (e :: es) env = (false, eval e env) :: starEach es env := by intros; rfl) (hpl : ∀ env : Env, (backTo pos (starEach es env)).any (·.1) = false := by intros; rfl)
    {pl : Env → Sem Bool}
    (ht : ∀ env : Env, eval (.Call (.Attribute (.Call (.Name "super" p0) [] [] p1) "__init__" apos) (e :: es) [] pos) env = (do
      let ov ← attributeBase (.Call (.Name "super" p0) [] [] p1) "__init__" env (eval (.Call (.Name "super" p0) [] [] p1) env)
      standAt apos.atName
      let (f, first) ← holding [ov] (getMethod ov "__init__" (pl env))
      callWith pos f first (backTo pos (starEach (e :: es) env)) []) := by intros; rfl)
    (hi : ∀ env : Env, env.scope.kind = .function → interactive env = false := by intros; rfl) (hs : ∀ env : Env, swapsWith (.Call (.Attribute (.Call (.Name "super" p0) [] [] p1) "__init__" apos) (e :: es) [] pos) none pos2.line env = pure false := by intros; rfl) :
    FnOk P w K mg base CX (k + 1) f (PySem.W.fnX name qual params body scope [("__class__", cc)] dV kV doc pm an (.ref cda) ct) ps sp := by
  refine ⟨len, fun A outer s H args us vs Q E hr e0 hbind r hsp => ?_⟩
  have KX : K.In s.heap := e0.mod.kin.keeps fun b o e => (e0.bs b o e).1
  have hl := len _ _ _ _ hsp
  have lim : s.heap.NoLimit := e0.mod.nolimit.keeps fun b o e => (e0.bs b o e).1
  obtain ⟨ocl, odl, osl2, hc⟩ := hc
  have C : CellsAt [(("__class__" : Str), cc)] ["__class__"] [none] s.heap H := by
    refine ⟨rfl, fun y c h => ?_, fun x y c h1 h2 => ?_, fun i y h => ?_⟩
    · have : c = cc := by
        simp only [List.lookup] at h
        split at h
        · exact (Option.some.inj h).symm
        · cases h
      subst this
      exact ⟨(e0.bs _ _ (e0.mod.kin _ _ hc)).2, _, _, KX _ _ hc, rfl⟩
    · simp only [List.lookup] at h1 h2
      split at h1
      · rename_i z1
        split at h2
        · rename_i z2
          exact (beq_iff_eq.mp z1).trans (beq_iff_eq.mp z2).symm
        · cases h2
      · cases h1
    · match i, h with
      | 0, h =>
        cases h
        exact ⟨cc, by simp [List.lookup], fun v z => by cases z⟩
  refine codeAny_call_function hr.depth (KX _ _ lk) rfl S.co S.gen rfl (PySem.W.codeRec_of KX hcd) ?_
  refine hbind _ _ _ _ ?_
  refine wpAny_newFunctionEnv S.nocell (fun ⟨n, _⟩ hy => S.par n (List.of_mem_zip hy).1) (fun h₁ hns hsb => ⟨lim.fresh _ hsb, ?_⟩) S.kind
  show codeAny _ _ (.func body (envF ⟨name, qual, params, body, scope, [("__class__", cc)], cda⟩ f s.heap.objs.size)) _ _
  have kp : ∀ b o, s.heap.get? b = some o → h₁.get? b = some o := fun b o e => hsb.extBut b o (Nat.ne_of_lt (Heap.lt_size e)) (Heap.get?_push_of_some _ e)
  obtain ⟨a, C', dx, fs, t, u, SE, SM, hx, h0, ha, hA, hu, hq⟩ := hbody A outer s H vs Q E (hr.deeper _) hsp
  have I : Inv (ncx CX P w K mg base N ⟨name, qual, params, body, scope, [("__class__", cc)], cda⟩ f A outer s H E) [] (startF N vs [none]) H { s with heap := h₁, toks := s.toks + (ps.zip us).length } := inv_startN S hr.hd e0 hl r C hns kp
  refine PySem.ks_codeAny_funcAt ?_
  have z := super_call (body := body) SE SM I h0 ha (F.mono hk) (hr.deeper _) hx hA hq (hst _) (hpl _) (ht _)
  rw [hB] at z ⊢
  refine PySem.ks_wpAt_execs_cons (PySem.ks_wpAt_Expr_any (PySem.ks_wpAt_mono z (fun v s' hs => ?_) fun e s' he => he) (hi _ S.kind) (hs _))
  obtain ⟨_, H', J, _, q⟩ := hs
  refine wpAt_of_wpAny (wpAny_mono (hu.run [] s' (startF N vs [none]) H' _ J q) (fun fl s2 hs => ?_) fun e s2 hs => hs)
  have fin : ∀ {σ' : L2.St} {H' : Hp} {v : V} {u : Value}, Inv (ncx CX P w K mg base N ⟨name, qual, params, body, scope, [("__class__", cc)], cda⟩ f A outer s H E) [] σ' H' s2 → L2.RelV v u → Q v H' → CE outer P w H s Q u s2 :=
    fun {σ' H' v u} J rv q => ⟨v, H', J.os, J.bare, J.base, J.hok, rv, q⟩
  cases fl with
  | ret u =>
    obtain ⟨v, σ', H', J, rv, q⟩ := hs
    exact fin J rv q
  | next =>
    obtain ⟨σ', H', J, q⟩ := hs
    exact fin (v := V.non) (u := Value.none) J rfl q
  | brk =>
    obtain ⟨_, _, _, q⟩ := hs
    exact False.elim q
  | cont =>
    obtain ⟨_, _, _, q⟩ := hs
    exact False.elim q
end
end SupX
/-! papers: own classes whose __init__ takes *parts, and those that call it by super() -/
namespace SupX
open PySem PySem.Spec PyProof.Rows L2 NdefX Kx SX
/-- a program whose text has no own `super` and stands in one file -/
class PaperP (P : Program) : Prop where
  file : ((P.main.file : Str) == ("/claim/cut.py" : Str)) = true
  top : (P.main.scope.names.lookup ("super" : Str)).isSome = false
/-- an __init__ that closes over __class__ -/
structure FunS (K : PySem.W.Frag) (x qual : Str) (st : Stmt) (f : Addr) (fd : FuncData) (D : Addr) : Prop where
  ex : ∃ (oc : Value) (od : Option Addr) (kV doc pm : Value) (an : Option Addr) (cda cc : Addr) (ct : Value) (osl : Array (Option Value)),
    fd = PySem.W.fnX x qual (defArgs st) (defBody st) (defScope st) [("__class__", cc)] .none kV doc pm an (.ref cda) ct ∧ K.lookup f = some ⟨oc, od, .func fd, osl⟩ ∧ PySem.W.codeIn K (.ref cda) qual = true ∧
    (∃ (ocl : Value) (odl : Option Addr) (osl2 : Array (Option Value)), K.lookup cc = some ⟨ocl, odl, .cell (some (.ref D)), osl2⟩) ∧
    ∃ (oc2 : Value) (od2 : Option Addr) (vs : Array Value) (osl3 : Array (Option Value)) (tf : Tok), K.lookup cda = some ⟨oc2, od2, .fields vs, osl3⟩ ∧ vs[2]? = some (.str "/claim/cut.py" tf)
  kp : PySem.W.keepIn K (.ref f) = true
section
variable {P : Program} {w : World} {K : PySem.W.Frag} {mg : Str → Option Value} {base : Heap}
theorem FunS.mk' {x qual : Str} {st : Stmt} {f cda cc D : Addr} {oc : Value} {od an : Option Addr} {osl : Array (Option Value)} {kV doc pm ct : Value} {ocl oc2 : Value} {odl od2 : Option Addr} {osl2 osl3 : Array (Option Value)} {vs : Array Value} {tf : Tok}
    (l : K.lookup f = some ⟨oc, od, .func (PySem.W.fnX x qual (defArgs st) (defBody st) (defScope st) [("__class__", cc)] .none kV doc pm an (.ref cda) ct), osl⟩) (c : PySem.W.codeIn K (.ref cda) qual = true) (k : PySem.W.keepIn K (.ref f) = true)
    (hc : K.lookup cc = some ⟨ocl, odl, .cell (some (.ref D)), osl2⟩) (hv : K.lookup cda = some ⟨oc2, od2, .fields vs, osl3⟩) (h2 : vs[2]? = some (.str "/claim/cut.py" tf)) :
    FunS K x qual st f (PySem.W.fnX x qual (defArgs st) (defBody st) (defScope st) [("__class__", cc)] .none kV doc pm an (.ref cda) ct) D :=
  ⟨⟨oc, od, kV, doc, pm, an, cda, cc, ct, osl, rfl, l, c, ⟨_, _, _, hc⟩, ⟨_, _, _, _, _, hv, h2⟩⟩, k⟩
theorem FunS.binds {x qual : Str} {st : Stmt} {f D : Addr} {fd : FuncData} {ps : List Str} (F : FunS K x qual st f fd D)
    (h : ∀ (cc cda : Addr) (kV doc pm : Value) (an : Option Addr) (ct : Value) (us : List Value), us.length = ps.length → bindArgs (PySem.W.fnX x qual (defArgs st) (defBody st) (defScope st) [("__class__", cc)] .none kV doc pm an (.ref cda) ct) ⟨us, []⟩ = pure (ps.zip us)) : Binds K fd ps [] := by
  obtain ⟨oc, od, kV, doc, pm, an, cda, cc, ct, osl, rfl, _⟩ := F.ex
  exact .all (h cc cda kV doc pm an ct)
/-- the rule for such an __init__ -/
theorem FunS.ok [PaperP P] {x qual me : Str} {st : Stmt} {f D g : Addr} {fd : FuncData} {N ps : List Str} {k k2 : Nat} {sp sp2 : Sp} {e : Expr} {es : List Expr} {p0 p1 apos pos pos2 : Pos} {rest : List Stmt} (F : FunS K x qual st f fd D) (S : NScope N ps ["__class__"] (defScope st))
    (hB : defBody st = .Expr (.Call (.Attribute (.Call (.Name "super" p0) [] [] p1) "__init__" apos) (e :: es) [] pos) pos2 :: rest)
    (hsu : (defScope st).names.lookup ("super" : Str) = some .globalImplicit) (hme : N[0]? = some me) (hlo : (defScope st).names.lookup me = some .local) (har : ∃ ar : Arg, ((defArgs st).posonlyargs ++ (defArgs st).args).head? = some ar ∧ ar.arg = me)
    (hms : mg "super" = none) (hD : ∃ cdD, PySem.W.clsIn K D = some cdD) (G : FnR P w K mg base CX0 k2 g sp2) (hk : k2 ≤ k) (len : ∀ vs H Q E, sp vs H Q E → vs.length = ps.length)
    (hbody : ∀ (cda cc : Addr) (A : Around) (outer : List Env) (s : Shared) (H : Hp) (vs : List V) (Q : VK) (E : XK), Room k (A.deeper (envF ⟨x, qual, defArgs st, defBody st, defScope st, [("__class__", cc)], cda⟩ f s.heap.objs.size)) → sp vs H Q E →
      ∃ (a C dx : Addr) (fs : List (Str × V)) (t : TA) (u : TS), SupM K C D g ∧ (startF N vs [none])[0]? = some (some (.ref a)) ∧ H a = some (.ins C dx fs) ∧ PA (ncx CX0 P w K mg base N ⟨x, qual, defArgs st, defBody st, defScope st, [("__class__", cc)], cda⟩ f A outer s H E) (e :: es) t ∧ PSs (ncx CX0 P w K mg base N ⟨x, qual, defArgs st, defBody st, defScope st, [("__class__", cc)], cda⟩ f A outer s H E) rest u ∧
        t (startF N vs [none]) H fun ws H2 => sp2 (.ref a :: ws) H2 (fun _ H3 => u { nx := fun _ H' => Q .non H', rt := Q } (startF N vs [none]) H3) E0)
    (hst : ∀ env : Env, starEach (e :: es) env = (false, eval e env) :: starEach es env := by intros; rfl) (hpl : ∀ env : Env, (backTo pos (starEach es env)).any (·.1) = false := by intros; rfl)
    {pl : Env → Sem Bool}
    (ht : ∀ env : Env, eval (.Call (.Attribute (.Call (.Name "super" p0) [] [] p1) "__init__" apos) (e :: es) [] pos) env = (do
      let ov ← attributeBase (.Call (.Name "super" p0) [] [] p1) "__init__" env (eval (.Call (.Name "super" p0) [] [] p1) env)
      standAt apos.atName
      let (f, first) ← holding [ov] (getMethod ov "__init__" (pl env))
      callWith pos f first (backTo pos (starEach (e :: es) env)) []) := by intros; rfl)
    (hs : ∀ env : Env, swapsWith (.Call (.Attribute (.Call (.Name "super" p0) [] [] p1) "__init__" apos) (e :: es) [] pos) none pos2.line env = pure false := by intros; rfl) :
    FnOk P w K mg base CX0 (k + 1) f fd ps sp := by
  obtain ⟨oc, od, kV, doc, pm, an, cda, cc, ct, osl, rfl, lk, hcd, hc, oc2, od2, vs2, osl3, tf, hv, h2⟩ := F.ex
  refine fn_super (me := me) (E2 := E0) lk hcd S hB hc G hk len (fun A outer s H vs Q E hr h => ?_) hst hpl ht (fun env hk => ?_) hs
  · obtain ⟨a, C, dx, fs, t, u, SM, h0, ha, hA, hu, hq⟩ := hbody cda cc A outer s H vs Q E hr h
    obtain ⟨ar, har1, har2⟩ := har
    refine ⟨a, C, dx, fs, t, u, ⟨hsu, S.frk _ (List.mem_singleton.mpr rfl), hlo, hme, ?_, ?_, ?_, PaperP.top (P := P), hms, hD⟩, SM, pass0, h0, ha, hA, hu, hq⟩
    · exact ⟨f, oc, od, _, osl, ar, rfl, lk, har1, har2⟩
    · exact ⟨cda, oc2, od2, vs2, osl3, _, tf, rfl, hv, h2, PaperP.file (P := P)⟩
    · obtain ⟨ocl, odl, osl2, hc⟩ := hc
      exact ⟨cc, ocl, odl, osl2, rfl, hc⟩
  · unfold interactive
    rw [hk]
    rfl
end
end SupX
/-! the truth of an instance with a __bool__ of its own -/
namespace SupX
open PySem PySem.Spec PyProof.Rows L2 Kx SX
section
variable {X : Cx}
theorem tru_own {C f : Addr} {fd : FuncData} {k : Nat} {sp : Sp} (hm : Meth X.K C "__bool__" f) (F : FnOk X.prog X.w X.K X.mg X.base CX0 k f fd ["self"] sp) (hr : Room k X.A) (hb : Binds X.K fd ["self"] []) :
    TruR X (fun x H Q => ∃ a dx fs, x = .ref a ∧ H a = some (.ins C dx fs) ∧ sp [.ref a] H (fun v H' => ∃ b, v = .bl b ∧ Q b H') E0) := by
  intro pins s σ H x u Q I rx h
  obtain ⟨a, dx, fs, rfl, ha, q⟩ := h
  obtain rfl : u = Value.ref a := rx
  obtain ⟨mA, O, _, _, _, _⟩ := ins_get I.hok ha
  obtain ⟨od, hod, _⟩ := lookIn_ns O.ns
  have J : PySem.W.InstAt s.heap a (PySem.W.instObj C dx) C (some od) := ⟨O.obj, rfl, rfl, hod⟩
  unfold truthy
  refine wpAny_bind (m := callSpecial? (.ref a) (Str.ofString "__bool__")) (PySem.W.special_fn I.kIn J hm.at_ (beq_iff_eq.mp hm.fn) (wpAny_mono (run_fn (us := [.ref a]) (vs := [.ref a]) F hr hb .nil pass0 I (.cons rfl .nil) q) (fun r s' hr => ?_) fun _ _ y => y))
  obtain ⟨v, H', I', rv, b, rfl, hq⟩ := hr
  cases rv
  exact wpAny_pure ⟨H', I', hq⟩
end
end SupX
/-! an own error, made as a value -/
namespace SX
open PySem PySem.Spec PyProof.Rows L2 Kx
section
variable {X : Cx} {pins : List (Addr × Obj)} {σ : L2.St} {H : Hp}
theorem inv_heap {s s' : Shared} (J : Inv X pins σ H s) (eh : s'.heap = s.heap) (os : s'.os = s.os) (ag : AllBare s'.gens) : Inv X pins σ H s' := by
  obtain ⟨h, g, d, t, o⟩ := s
  obtain ⟨h', g', d', t', o'⟩ := s'
  dsimp only at eh os
  subst eh os
  exact ⟨J.ok, J.os, ag, J.base, J.loc, J.cell, J.free, J.freeC, J.pin, J.hok, J.len⟩
theorem exT_ok {P : Program} {w : World} {h : Heap} {a : Addr} {cls : Value} {d : Option Addr} {oe : Obj} {vs : Array Value} (e : h.get? a = some oe) (z : Zc cls d oe) (hd : oe.data = .fields vs) : ObjOk P w H h a (exT a cls d) :=
  ⟨⟨oe, vs, e, z, hd⟩, ⟨oe, e⟩, fun _ _ ⟨o, v, q, r⟩ k => ⟨o, v, k o q, r⟩⟩
/-- what makes an exception to be raised makes one to be held -/
theorem pe_of_pmk {e : Expr} {t : L2.St → Hp → XK → Prop} (h : PMk X e t) : PE X e (fun σ H Q => t σ H fun cls d H1 => ∀ a, H1 a = none → Q (.ref a) (upd H1 a (exT a cls d))) := by
  refine ⟨fun pins s σ H Q I hq => ?_⟩
  refine wpAny_mono (h pins s σ H _ I hq) (fun u s1 hu => ?_) fun _ _ x => x
  obtain ⟨a, oe, vs, sI, H', cls, d, rfl, J, k, hne, ha, hz, hd, h1, na, os, ag, r, q⟩ := hu
  have J2 : L2.Inv X pins σ (upd H' a (exT a cls d)) { sI with heap := s1.heap, toks := sI.toks } := J.laidN k hne na (exT_ok ha hz hd)
  exact ⟨.ref a, _, inv_heap J2 rfl os ag, rfl, q a na⟩
/-- isinstance of a held error, of a tuple of classes -/
def rIsXT (K : PySem.W.Frag) : List V → Hp → VK → Prop := fun xs H Q => ∃ (a D dd tp : Addr) (fs : List (Str × V)) (cs : List V) (ws : List Value) (b : Bool), xs = [.ref a, .ref tp] ∧ H a = some (exT a (.ref D) (some dd)) ∧ H dd = some (.xd fs) ∧ ExcC K D ∧
  H tp = some (.tup cs) ∧ Paired ClsV cs ws ∧ PySem.W.kitAny K (.ref D) ws = some b ∧ Q (.bl b) H
theorem call_isXT : CallR X (.builtin "isinstance") (rIsXT X.K) := by
  intro pins s σ H xs us Q I r h
  obtain ⟨a, D, dd, tp, fs, cs, ws, b, rfl, e, ed, C, hT, k, hk, q⟩ := h
  obtain ⟨u1, u2, rfl, r1, r2⟩ := vals2 r
  obtain rfl : u1 = Value.ref a := r1
  cases (show u2 = Value.ref tp from r2)
  obtain ⟨oe, od, mA, J, _, _⟩ := inst_at I e ed
  have cls : (PySem.W.clsIn X.K D).isSome = true := by
    obtain ⟨cd, hcd, _⟩ := PySem.W.any_some C.hd
    rw [hcd]
    rfl
  obtain ⟨_, its, rv, o, h1, h2, n, h3⟩ := (show ObjOk X.prog X.w H s.heap tp (.tup cs) from I.hok tp _ hT)
  have e3 := ClsV.all k rv
  subst e3
  obtain ⟨oc, od2, dt, sl⟩ := o
  simp only at h2 h3
  subst h2 h3
  exact PySem.W.kia_tup (PySem.W.kitx_exc cls C.hg C.hk C.hs C.ha C.hn C.ht C.hm) I.kIn J h1 hk (fun z => nomatch z) fun tk => ⟨.bl b, H, I.kept (t' := tk) fun _ _ z => z, rfl, q⟩
end
end SX
/-! != of two lists of the very same values -/
namespace SX
open PySem PySem.Spec PyProof.Rows L2 Kx
section
variable {X : Cx}
theorem vals_both : ∀ {xs : List V} {us ws : List Value}, Vals xs us → Vals xs ws → ∀ (j : Nat) (h1 : j < us.length) (h2 : j < ws.length), ∃ x, x ∈ xs ∧ RelV x us[j] ∧ RelV x ws[j]
  | _, _, _, .cons a r, .cons b r', 0, _, _ => ⟨_, List.mem_cons_self, a, b⟩
  | _, _, _, .cons a r, .cons b r', j + 1, h1, h2 => by
    obtain ⟨x, hx, h⟩ := vals_both r r' j (by simpa using h1) (by simpa using h2)
    exact ⟨x, List.mem_cons_of_mem _ hx, h⟩
def rNeSame (K : PySem.W.Frag) : R2 := fun x y H Q => ∃ (p q : Addr) (xs : List V), x = .ref p ∧ y = .ref q ∧ SqL K H p xs ∧ SqL K H q xs ∧ (∀ v ∈ xs, flatB v = true ∨ ∃ a, v = .ref a) ∧ Q (.bl false) H
theorem op_neSame (hu : X.A.units + 64 < cLine) : OpR X (compareOp .NotEq) (rNeSame X.K) := by
  intro pins s σ H x y v u Q I rx ry h
  obtain ⟨p, q, xs, rfl, rfl, hp, hq, hs, qq⟩ := h
  cases (show v = Value.ref p from rx)
  cases (show u = Value.ref q from ry)
  obtain ⟨us, r1, p1, _⟩ := I.list hp
  obtain ⟨ws, r2, p2, _⟩ := I.list hq
  have hsz : us.toArray.size = ws.toArray.size := by
    rw [List.size_toArray, List.size_toArray, ← r1.length, ← r2.length]
  obtain ⟨⟨cls, dd, data, sl⟩, ho, hc, n, hd⟩ := id p1.isList
  obtain ⟨⟨cls2, dd2, data2, sl2⟩, ho2, hc2, n2, hd2⟩ := id p2.isList
  simp only at hc hd hc2 hd2
  subst hc hd hc2 hd2
  refine wpAny_richCompare_same_room (T := "list") (op := .NotEq) ⟨_, ho, rfl⟩ ⟨_, ho2, rfl⟩ F.slot_list_ne ?_ (by omega)
  refine call_meetsIn F.slot_list_ne ⟨_, ho, rfl⟩ F.entry_list_ne (F.args_list_ne_2 _ _) (fun A R s h => SeqAt.list_neAt p q us.toArray ws.toArray n n2 dd dd2 sl sl2 hsz (fun _ => true) _ _ A R s h) ⟨ho, ho2, fun j h1 h2 => ?_, ?_⟩
  · have h1' : j < us.length := by simpa using h1
    have h2' : j < ws.length := by simpa using h2
    obtain ⟨x, hx, ra, rb⟩ := vals_both r1 r2 j h1' h2'
    have ea : us.toArray[j] = us[j] := by simp
    have eb : ws.toArray[j] = ws[j] := by simp
    rw [ea, eb]
    rcases hs x hx with f | ⟨a, rfl⟩
    · exact eqAt_same ra rb f
    · rw [show us[j] = Value.ref a from ra, show ws[j] = Value.ref a from rb]
      exact SeqAt.EqAt.same _
  · rw [show ((List.range us.toArray.size).all fun _ => true) = true from List.all_eq_true.mpr fun _ _ => rfl]
    exact show Value.bool (!true) ≠ Value.notImplemented ∧ _ from ⟨(fun x => nomatch x), .bl false, H, I, rfl, qq⟩
end
end SX
/-! x.__class__.__name__, x an instance of a written class that has its name's object -/
namespace SupX
open PySem PySem.Spec PyProof.Rows L2 Kx SX
/-- what a class must have for its name to be read -/
structure CNm (K : PySem.W.Frag) (C : Addr) (nm : Str) : Prop where
  ic : PySem.W.isClsIn K C = true
  ca : PySem.W.findIn K (.ref C) "__class__" = some (some (.builtin "object.__class__"))
  cn : PySem.W.specialIn K (.builtin "object.__class__") "__get__" = some (some (.builtin "getset_descriptor.__get__"))
  ct : PySem.W.takesIn K (.builtin "object.__class__") = some true
  ob : PySem.W.mroIn K C (.type "object") = some true
  ty : PySem.W.typeIn K (.ref C) = some (.type "type")
  no : PySem.W.nsIn K cStatics "thirdparty.any" = some none
  sl : ∃ (oc : Value) (od : Option Addr) (cd : ClassData) (sl : Array (Option Value)) (tk : Tok), K.lookup C = some ⟨oc, od, .cls cd, sl⟩ ∧ sl[2]? = some (some (.str nm tk))
section
variable {prog : Program} {w : World} {A : Around} {s : Shared} {K : PySem.W.Frag} {R : Result → Shared → Prop} {C : Addr} {nm : Str}
theorem cname_get (X : K.In s.heap) (c : CNm K C nm) {tp : Value} (h : ∀ tk, R (.ok (.ret (.str nm tk))) s) :
    codeAny (model prog w) A (.call (.builtin "getset_descriptor.__get__") ⟨[.builtin "type.__name__", .ref C, tp], []⟩) R s := by
  obtain ⟨oc, od, cd, sl, tk, hl, h2⟩ := c.sl
  obtain ⟨hh, g, dr, t, os⟩ := s
  have hC := X _ _ hl
  have L0 : PySem.W.Looks (model prog w) hh (typeOf (.ref C)) (.type "type") := PySem.W.looks_typeIn X c.ty
  have L1 : PySem.W.Looks (model prog w) hh (isSubtype (.type "type") (.type "type")) true := PySem.W.Looks.of_pure (by rw [isSubtype_type]; kernel_rfl)
  refine codeAny_call_builtin PySem.W.KF.slot_gs.plain PySem.W.KF.entry_gs (PySem.W.KF.slot_gs.check _ _ _ _ _ _ _ _ PySem.W.ktyn_type (PySem.W.KF.args_gs _ _ _) ?_)
  unfold Builtin.«getset_descriptor.__get__» Builtin.Getset_descriptor.descrGet
  rw [PySem.W.dga_obj]
  refine wpAny_bind (wpAny_pure ?_)
  unfold Builtin.Getset_descriptor.descrGetter Builtin.Getset_descriptor.descrCheckInstance Builtin.Getset_descriptor.descrNameAndClass isInstance
  simp only [PySem.W.ktyn_owner]
  repeat lk
  refine ⟨Code.quiet_builtin _ (by decide +kernel), codeAny_builtin PySem.W.ktyn_entry ?_⟩
  unfold Builtin.«type.__name__» Builtin.keptObject PySem.slotAt
  repeat (first | (with_reducible refine wpAny_loadPart_at hC ?_) | wp_step | lk)
  dsimp only
  rw [h2]
  exact wpAny_pure (h tk)
theorem cname_attr (X : K.In s.heap) (c : CNm K C nm) {E : Value → Shared → Prop} {b : Bool} {Q : Value → Shared → Prop} (h : ∀ tk u, Q (.str nm tk) { s with toks := u }) : wpAny (model prog w) A (getAttr (.ref C) "__name__" b) Q E s := by
  have hg : PySem.W.findIn K (.type "type") "__getattribute__" = some (some (.builtin "type.__getattribute__")) := PySem.W.type_tga
  have e : PySem.W.findCls K (.ref C) (.type "type") "__name__" = some (.get (.builtin "getset_descriptor.__get__") (.builtin "type.__name__") (.ref C) (.type "type")) := by first | rfl | kernel_rfl
  refine PySem.W.cls_open X (PySem.W.looks_opaque X c.no) (PySem.W.looks_typeIn X c.ty) hg (PySem.W.looks_hook X (r := none) (by rfl)) (by show PySem.W.subIn K _ _ = _; rfl) e ?_
  show wpAny _ _ (do ret (← holding [Value.builtin "type.__name__"] (call (.builtin "getset_descriptor.__get__") [.builtin "type.__name__", .ref C, .type "type"]))) _ _ _
  refine wpAny_bind (wpAny_holding (wpAny_call (cname_get (s := { s with toks := s.toks + 1 }) X c fun tk => ?_)))
  exact wpAny_pure (PySem.W.handed_on rfl (h _ _))
theorem class_attr {x : Addr} {ox : Obj} {od : Obj} (X : K.In s.heap) (c : CNm K C nm) (hg : PySem.W.plainGet K C Str.empty = true) (I : PySem.W.InstAt s.heap x ox C (some od)) {E : Value → Shared → Prop} {b : Bool} {Q : Value → Shared → Prop} (h : ∀ u, Q (.ref C) { s with toks := u }) :
    wpAny (model prog w) A (getAttr (.ref x) "__class__" b) Q E s := by
  have hf : PySem.W.findObj K C (some od) "__class__" = some (.bind (.builtin "getset_descriptor.__get__") (.builtin "object.__class__")) := PySem.W.findObj_data c.ic c.ca c.cn c.ct
  refine PySem.W.get_bind X I (PySem.W.plainGet_of hg).1 hf (PySem.W.plainGet_of hg).2 ?_
  exact wpAny_call (PySem.W.class_get (s := { s with toks := s.toks + 1 }) (ox := ox) (od := some od) X I c.ob (PySem.W.handed_on rfl (h _)))end
section
variable {X : Cx} {ta : TE} {e : Expr} {pos : Pos}
theorem pe_class (he : PE X e ta) (hb : attributeBase e "__class__" X.env (eval e X.env) = eval e X.env := by rfl) :
    PE X (.Attribute e "__class__" pos) (fun σ H Q => ta σ H fun x H1 => ∃ (a C dx : Addr) (fs : List (Str × V)) (nm : Str), x = .ref a ∧ H1 a = some (.ins C dx fs) ∧ Cls X.K C ∧ CNm X.K C nm ∧ Q (.ref C) H1) := by
  refine ⟨fun pins s σ H Q I h => ?_⟩
  refine attr_of hb (thn (he.run pins s σ H _ I h) fun u s1 hh => ?_)
  obtain ⟨x, H1, I1, rx, a, C, dx, fs, nm, rfl, ha, cl, c, q⟩ := hh
  obtain rfl : u = Value.ref a := rx
  obtain ⟨mA, O, _, _, _, _⟩ := ins_get I1.hok ha
  obtain ⟨od, hod, _⟩ := lookIn_ns O.ns
  have J : PySem.W.InstAt s1.heap a (PySem.W.instObj C dx) C (some od) := ⟨O.obj, rfl, rfl, hod⟩
  exact class_attr I1.kIn c cl.pg J fun t => ⟨.ref C, H1, I1.kept (t' := t) fun _ _ z => z, rfl, q⟩
theorem pe_cname (he : PE X e ta) (hb : attributeBase e "__name__" X.env (eval e X.env) = eval e X.env := by rfl) :
    PE X (.Attribute e "__name__" pos) (fun σ H Q => ta σ H fun x H1 => ∃ (C : Addr) (nm : Str), x = .ref C ∧ CNm X.K C nm ∧ Q (.str nm) H1) := by
  refine ⟨fun pins s σ H Q I h => ?_⟩
  refine attr_of hb (thn (he.run pins s σ H _ I h) fun u s1 hh => ?_)
  obtain ⟨x, H1, I1, rx, C, nm, rfl, c, q⟩ := hh
  obtain rfl : u = Value.ref C := rx
  exact cname_attr I1.kIn c fun tk t => ⟨.str nm, H1, I1.kept (t' := t) fun _ _ z => z, ⟨tk, rfl⟩, q⟩
end
end SupX
/-! an __init__ that calls super: its values by keyword, backwards -/
namespace SupX
open PySem PySem.Spec PyProof.Rows L2 Kx SX
def selfBackG {α : Type} (us ws : List α) : List α := match us, ws with | [s], [c, b, a] => [s, a, b, c] | _, _ => []
theorem kbn_selfBack {K : PySem.W.Frag} {x qual : Str} {st : Stmt} {f D : Addr} {fd : FuncData} {z a b c : Str} (F : FunS K x qual st f fd D)
    (h : ∀ (kV doc pm : Value) (an : Option Addr) (cda cc : Addr) (ct : Value) (s u v w : Value), bindArgs (PySem.W.fnX x qual (defArgs st) (defBody st) (defScope st) [("__class__", cc)] .none kV doc pm an (.ref cda) ct) ⟨[s], [(c, w), (b, v), (a, u)]⟩ = pure [(z, s), (a, u), (b, v), (c, w)]) :
    KBn K fd [z, a, b, c] 1 [c, b, a] selfBackG selfBackG := by
  obtain ⟨oc, od, kV, doc, pm, an, cda, cc, ct, osl, rfl, _⟩ := F.ex
  refine ⟨fun s us ws X l1 l2 => ?_, fun {vs us zs ws} r1 r2 => ?_⟩
  · match us, ws, l1, l2 with
    | [s0], [w, v, u], _, _ => exact .of_eq (h kV doc pm an cda cc ct s0 u v w)
  · cases r1 with
    | nil => exact .nil
    | cons h0 r1 =>
      cases r1 with
      | cons _ _ => exact .nil
      | nil =>
        cases r2 with
        | nil => exact .nil
        | cons h1 r2 =>
          cases r2 with
          | nil => exact .nil
          | cons h2 r2 =>
            cases r2 with
            | nil => exact .nil
            | cons h3 r2 =>
              cases r2 with
              | nil => exact .cons h0 (.cons h3 (.cons h2 (.cons h1 .nil)))
              | cons _ _ => exact .nil
end SupX
/-! least ways between texts -/
namespace Lev
/-- one list is led to another by so many edits, side by side -/
inductive Aln : List Nat → List Nat → Nat → Prop
  | nil : Aln [] [] 0
  | lost {a b : List Nat} {x n : Nat} : Aln a b n → Aln (x :: a) b (n + 1)
  | put {a b : List Nat} {y n : Nat} : Aln a b n → Aln a (y :: b) (n + 1)
  | both {a b : List Nat} {x y n : Nat} : Aln a b n → Aln (x :: a) (y :: b) (n + if x = y then 0 else 1)
theorem Aln.refl : ∀ a : List Nat, Aln a a 0
  | [] => .nil
  | x :: a => by
    have := Aln.both (x := x) (y := x) (Aln.refl a)
    rw [if_pos rfl] at this
    exact this
theorem Aln.symm {a b : List Nat} {n : Nat} (h : Aln a b n) : Aln b a n := by
  induction h with
  | nil => exact .nil
  | lost _ ih => exact .put ih
  | put _ ih => exact .lost ih
  | @both a b x y n _ ih =>
    have := Aln.both (x := y) (y := x) ih
    by_cases e : x = y
    · subst e; exact this
    · rw [if_neg e]; rw [if_neg (Ne.symm e)] at this; exact this
theorem Aln.lens {a b : List Nat} {n : Nat} (h : Aln a b n) : a.length ≤ b.length + n ∧ b.length ≤ a.length + n := by
  induction h with
  | nil => simp
  | lost _ ih => simp only [List.length_cons]; omega
  | put _ ih => simp only [List.length_cons]; omega
  | both _ ih => simp only [List.length_cons]; split <;> omega
theorem Aln.trans : ∀ (k : Nat) (a b c : List Nat) (n m : Nat), a.length + b.length + c.length ≤ k → Aln a b n → Aln b c m → ∃ r, r ≤ n + m ∧ Aln a c r := by
  intro k
  induction k with
  | zero =>
    intro a b c n m hk h1 h2
    have ha : a = [] := List.eq_nil_of_length_eq_zero (by omega)
    have hc : c = [] := List.eq_nil_of_length_eq_zero (by omega)
    subst ha hc
    exact ⟨0, Nat.zero_le _, .nil⟩
  | succ k ih =>
    intro a b c n m hk h1 h2
    cases h1 with
    | nil => exact ⟨m, by omega, h2⟩
    | @lost a b x n h1 =>
      simp only [List.length_cons] at hk
      obtain ⟨r, hr, h⟩ := ih a b c n m (by omega) h1 h2
      exact ⟨r + 1, by omega, .lost h⟩
    | @put a b y n h1 =>
      cases h2 with
      | @lost _ c _ m h2 =>
        simp only [List.length_cons] at hk
        obtain ⟨r, hr, h⟩ := ih a b c n m (by omega) h1 h2
        exact ⟨r, by omega, h⟩
      | @put _ c z m h2 =>
        simp only [List.length_cons] at hk
        obtain ⟨r, hr, h⟩ := ih a (y :: b) c (n + 1) m (by simp only [List.length_cons]; omega) (.put h1) h2
        exact ⟨r + 1, by omega, .put h⟩
      | @both _ c _ z m h2 =>
        simp only [List.length_cons] at hk
        obtain ⟨r, hr, h⟩ := ih a b c n m (by omega) h1 h2
        exact ⟨r + 1, by omega, .put h⟩
    | @both a b x y n h1 =>
      cases h2 with
      | @lost _ c _ m h2 =>
        simp only [List.length_cons] at hk
        obtain ⟨r, hr, h⟩ := ih a b c n m (by omega) h1 h2
        exact ⟨r + 1, by omega, .lost h⟩
      | @put _ c z m h2 =>
        simp only [List.length_cons] at hk
        obtain ⟨r, hr, h⟩ := ih (x :: a) (y :: b) c _ m (by simp only [List.length_cons]; omega) (.both h1) h2
        exact ⟨r + 1, by omega, .put h⟩
      | @both _ c _ z m h2 =>
        simp only [List.length_cons] at hk
        obtain ⟨r, hr, h⟩ := ih a b c n m (by omega) h1 h2
        refine ⟨r + if x = z then 0 else 1, ?_, .both h⟩
        by_cases e1 : x = y
        · subst e1
          rw [if_pos rfl]
          omega
        · rw [if_neg e1]
          split <;> split <;> omega
/-- how many edits a least way has -/
def lev : List Nat → List Nat → Nat
  | [], b => b.length
  | _ :: a, [] => a.length + 1
  | x :: a, y :: b => min (min (lev a (y :: b) + 1) (lev (x :: a) b + 1)) (lev a b + if x = y then 0 else 1)
termination_by a b => a.length + b.length
theorem lev_nil (b : List Nat) : lev [] b = b.length := by rw [lev]
theorem lev_nil2 (a : List Nat) : lev a [] = a.length := by
  cases a with
  | nil => rw [lev]
  | cons x a => rw [lev]; rfl
theorem lev_cons (x y : Nat) (a b : List Nat) : lev (x :: a) (y :: b) = min (min (lev a (y :: b) + 1) (lev (x :: a) b + 1)) (lev a b + if x = y then 0 else 1) := by rw [lev]
theorem aln_nil : ∀ b : List Nat, Aln [] b b.length
  | [] => .nil
  | _ :: b => .put (aln_nil b)
theorem aln_nil2 : ∀ a : List Nat, Aln a [] a.length
  | [] => .nil
  | _ :: a => .lost (aln_nil2 a)
theorem lev_aln : ∀ (k : Nat) (a b : List Nat), a.length + b.length ≤ k → Aln a b (lev a b) := by
  intro k
  induction k with
  | zero =>
    intro a b hk
    have ha : a = [] := List.eq_nil_of_length_eq_zero (by omega)
    have hb : b = [] := List.eq_nil_of_length_eq_zero (by omega)
    subst ha hb
    rw [lev_nil]
    exact .nil
  | succ k ih =>
    intro a b hk
    cases a with
    | nil => rw [lev_nil]; exact aln_nil b
    | cons x a =>
      cases b with
      | nil => rw [lev_nil2]; exact aln_nil2 _
      | cons y b =>
        simp only [List.length_cons] at hk
        have h1 := ih a (y :: b) (by simp only [List.length_cons]; omega)
        have h2 := ih (x :: a) b (by simp only [List.length_cons]; omega)
        have h3 := ih a b (by omega)
        rw [lev_cons]
        rcases Nat.le_total (min (lev a (y :: b) + 1) (lev (x :: a) b + 1)) (lev a b + if x = y then 0 else 1) with e | e
        · rw [Nat.min_eq_left e]
          rcases Nat.le_total (lev a (y :: b) + 1) (lev (x :: a) b + 1) with e2 | e2
          · rw [Nat.min_eq_left e2]; exact .lost h1
          · rw [Nat.min_eq_right e2]; exact .put h2
        · rw [Nat.min_eq_right e]; exact .both h3
theorem lev_is (a b : List Nat) : Aln a b (lev a b) := lev_aln _ a b (Nat.le_refl _)
theorem lev_le {a b : List Nat} {n : Nat} (h : Aln a b n) : lev a b ≤ n := by
  induction h with
  | nil => rw [lev_nil]; exact Nat.le_refl _
  | @lost a b x n _ ih =>
    cases b with
    | nil => rw [lev_nil2] at ih ⊢; simp only [List.length_cons]; omega
    | cons y b => rw [lev_cons]; omega
  | @put a b y n _ ih =>
    cases a with
    | nil => rw [lev_nil] at ih ⊢; simp only [List.length_cons]; omega
    | cons x a => rw [lev_cons]; omega
  | @both a b x y n _ ih => rw [lev_cons]; omega
theorem lev_comm (a b : List Nat) : lev a b = lev b a := Nat.le_antisymm (lev_le (lev_is b a).symm) (lev_le (lev_is a b).symm)
theorem lev_tri (a b c : List Nat) : lev a c ≤ lev a b + lev b c := by
  obtain ⟨r, hr, h⟩ := Aln.trans _ a b c _ _ (Nat.le_refl _) (lev_is a b) (lev_is b c)
  exact Nat.le_trans (lev_le h) hr
theorem lev_self (a : List Nat) : lev a a = 0 := Nat.le_zero.mp (lev_le (Aln.refl a))
theorem aln_zero {a b : List Nat} {n : Nat} (h : Aln a b n) : n = 0 → a = b := by
  induction h with
  | nil => exact fun _ => rfl
  | lost _ _ => exact fun z => by omega
  | put _ _ => exact fun z => by omega
  | @both a b x y n _ ih =>
    intro z
    by_cases e : x = y
    · rw [if_pos e] at z
      rw [e, ih (by omega)]
    · rw [if_neg e] at z
      omega
theorem lev_zero {a b : List Nat} : lev a b = 0 ↔ a = b := ⟨fun z => aln_zero (lev_is a b) z, fun e => e ▸ lev_self a⟩
theorem lev_cut (x : Nat) (a b : List Nat) : lev (x :: a) b ≤ lev a b + 1 := lev_le (.lost (lev_is a b))
theorem lev_cut2 (x : Nat) (a b : List Nat) : lev a (x :: b) ≤ lev a b + 1 := lev_le (.put (lev_is a b))
theorem lev_add (x : Nat) (a b : List Nat) : lev a b ≤ lev (x :: a) b + 1 := by
  obtain ⟨r, hr, h⟩ := Aln.trans _ a (x :: a) b 1 _ (Nat.le_refl _) (.put (Aln.refl a)) (lev_is (x :: a) b)
  have := lev_le h
  omega
theorem lev_add2 (x : Nat) (a b : List Nat) : lev a b ≤ lev a (x :: b) + 1 := by
  rw [lev_comm a b, lev_comm a]
  exact lev_add x b a
/-- where both begin alike -/
theorem lev_eq (x : Nat) (a b : List Nat) : lev (x :: a) (x :: b) = lev a b := by
  have h1 := lev_add2 x a b
  have h2 := lev_add x a b
  rw [lev_cons, if_pos rfl]
  omega
theorem lev_ne {x y : Nat} (h : x ≠ y) (a b : List Nat) : lev (x :: a) (y :: b) = 1 + min (min (lev a b) (lev a (y :: b))) (lev (x :: a) b) := by
  rw [lev_cons, if_neg h]
  omega
theorem lev_top (a b : List Nat) : lev a b ≤ a.length + b.length := by
  have h1 := lev_tri a [] b
  rw [lev_nil, lev_nil2] at h1
  exact h1
/-- the numbers of the reckoning: the first i signs of one, the first j of the other -/
def D (one other : List Nat) (i j : Nat) : Nat := lev (one.take i).reverse (other.take j).reverse
theorem take_rev {l : List Nat} {i c : Nat} (h : l[i]? = some c) : (l.take (i + 1)).reverse = c :: (l.take i).reverse := by
  rw [List.take_add_one, h, List.reverse_append]
  rfl
theorem D_zero (one other : List Nat) {j : Nat} (h : j ≤ other.length) : D one other 0 j = j := by
  unfold D
  rw [List.take_zero, List.reverse_nil, lev_nil, List.length_reverse, List.length_take]
  omega
theorem D_zero2 (one other : List Nat) {i : Nat} (h : i ≤ one.length) : D one other i 0 = i := by
  unfold D
  rw [List.take_zero, List.reverse_nil, lev_nil2, List.length_reverse, List.length_take]
  omega
theorem D_eq {one other : List Nat} {i j c : Nat} (h1 : one[i]? = some c) (h2 : other[j]? = some c) : D one other (i + 1) (j + 1) = D one other i j := by
  unfold D
  rw [take_rev h1, take_rev h2, lev_eq]
theorem D_ne {one other : List Nat} {i j c d : Nat} (h1 : one[i]? = some c) (h2 : other[j]? = some d) (h : c ≠ d) : D one other (i + 1) (j + 1) = 1 + min (min (D one other i j) (D one other i (j + 1))) (D one other (i + 1) j) := by
  unfold D
  rw [take_rev h1, take_rev h2, lev_ne h]
theorem D_both {one other : List Nat} {i j c d : Nat} (h1 : one[i]? = some c) (h2 : other[j]? = some d) : D one other (i + 1) (j + 1) = min (min (D one other i (j + 1) + 1) (D one other (i + 1) j + 1)) (D one other i j + if c = d then 0 else 1) := by
  unfold D
  rw [take_rev h1, take_rev h2, lev_cons]
theorem D_top (one other : List Nat) (i j : Nat) : D one other i j ≤ i + j := by
  unfold D
  refine Nat.le_trans (lev_top _ _) ?_
  rw [List.length_reverse, List.length_reverse, List.length_take, List.length_take]
  omega
/-- how far apart two texts are -/
def far (one other : List Nat) : Nat := lev one.reverse other.reverse
theorem D_far (one other : List Nat) : D one other one.length other.length = far one other := by
  unfold D far
  rw [List.take_length, List.take_length]
theorem far_comm (a b : List Nat) : far a b = far b a := lev_comm _ _
theorem far_tri (a b c : List Nat) : far a c ≤ far a b + far b c := lev_tri _ _ _
theorem far_zero {a b : List Nat} : far a b = 0 ↔ a = b := by
  unfold far
  rw [lev_zero]
  exact ⟨fun h => by rw [← List.reverse_reverse a, h, List.reverse_reverse], fun h => by rw [h]⟩
theorem far_top (a b : List Nat) : far a b ≤ a.length + b.length := by
  unfold far
  refine Nat.le_trans (lev_top _ _) ?_
  rw [List.length_reverse, List.length_reverse]
  exact Nat.le_refl _
/-- side by side, with something in front that both have -/
theorem Aln.front (p : List Nat) {a b : List Nat} {n : Nat} (h : Aln a b n) : Aln (p ++ a) (p ++ b) n := by
  induction p with
  | nil => exact h
  | cons x p ih =>
    have := Aln.both (x := x) (y := x) ih
    rw [if_pos rfl] at this
    exact this
/-- one edit -/
theorem far_put (l r : List Nat) (c : Nat) : far (l ++ r) (l ++ [c] ++ r) ≤ 1 := by
  unfold far
  rw [List.reverse_append, List.reverse_append, List.reverse_append]
  exact lev_le (Aln.front _ (.put (Aln.refl _)))
theorem far_lost (l r : List Nat) (c : Nat) : far (l ++ [c] ++ r) (l ++ r) ≤ 1 := by
  rw [far_comm]
  exact far_put l r c
theorem far_chg (l r : List Nat) (c d : Nat) : far (l ++ [c] ++ r) (l ++ [d] ++ r) ≤ 1 := by
  unfold far
  rw [List.reverse_append, List.reverse_append, List.reverse_append, List.reverse_append]
  refine Nat.le_trans (lev_le (Aln.front _ (.both (x := c) (y := d) (Aln.refl l.reverse)))) ?_
  split <;> omega
end Lev
namespace K06
open PySem PySem.Spec PyProof.Rows L2 Kx SX LamX Ms
def topS (i : Nat) : Stmt := PySem.Challenge.pw_anyletter_k06_whole_least_ways.main.body.getD i (.Pass ⟨0, 0, 0, 0⟩)
abbrev s_are_letters : Stmt := topS 2
theorem sc_are_letters : FnScope ["text"] ["text"] (defScope s_are_letters) := ⟨rfl, rfl, rfl, by decide +kernel, rfl, by decide +kernel, by decide +kernel⟩
abbrev s_is_text : Stmt := topS 3
theorem sc_is_text : FnScope ["value", "letters"] ["value"] (defScope s_is_text) := ⟨rfl, rfl, rfl, by decide +kernel, rfl, by decide +kernel, by decide +kernel⟩
abbrev s_fixed : Stmt := topS 15
theorem sc_fixed : FnScope ["value", "part"] ["value"] (defScope s_fixed) := ⟨rfl, rfl, rfl, by decide +kernel, rfl, by decide +kernel, by decide +kernel⟩
abbrev s_are_alike : Stmt := topS 16
theorem sc_are_alike : FnScope ["paper", "other"] ["paper", "other"] (defScope s_are_alike) := ⟨rfl, rfl, rfl, by decide +kernel, rfl, by decide +kernel, by decide +kernel⟩
abbrev s_Paper_init : Stmt := inClass (topS 17) 0
theorem sc_Paper_init : FnScope ["self", "word", "parts"] ["self", "word", "parts"] (defScope s_Paper_init) := ⟨rfl, rfl, rfl, by decide +kernel, rfl, by decide +kernel, by decide +kernel⟩
abbrev s_Paper_eq : Stmt := inClass (topS 17) 1
theorem sc_Paper_eq : FnScope ["self", "other"] ["self", "other"] (defScope s_Paper_eq) := ⟨rfl, rfl, rfl, by decide +kernel, rfl, by decide +kernel, by decide +kernel⟩
abbrev s_Paper_bool : Stmt := inClass (topS 17) 2
theorem sc_Paper_bool : FnScope ["self"] ["self"] (defScope s_Paper_bool) := ⟨rfl, rfl, rfl, by decide +kernel, rfl, by decide +kernel, by decide +kernel⟩
abbrev s_Ways_init : Stmt := inClass (topS 21) 0
theorem sc_Ways_init : NdefX.NScope ["self", "edits", "__class__"] ["self", "edits"] ["__class__"] (defScope s_Ways_init) := NdefX.nscope_by (by decide +kernel)
abbrev s_check_pair : Stmt := topS 22
theorem sc_check_pair : FnScope ["one", "other"] ["one", "other"] (defScope s_check_pair) := ⟨rfl, rfl, rfl, by decide +kernel, rfl, by decide +kernel, by decide +kernel⟩
abbrev s_next_numbers : Stmt := topS 23
theorem sc_next_numbers : FnScope ["above", "first", "sign", "wanted", "row", "column", "letter"] ["above", "first", "sign", "wanted"] (defScope s_next_numbers) := ⟨rfl, rfl, rfl, by decide +kernel, rfl, by decide +kernel, by decide +kernel⟩
abbrev s_least_numbers : Stmt := topS 24
theorem sc_least_numbers : FnScope ["one", "other", "rows", "sign"] ["one", "other"] (defScope s_least_numbers) := ⟨rfl, rfl, rfl, by decide +kernel, rfl, by decide +kernel, by decide +kernel⟩
abbrev s_edits_between : Stmt := topS 25
theorem sc_edits_between : FnScope ["one", "other"] ["one", "other"] (defScope s_edits_between) := ⟨rfl, rfl, rfl, by decide +kernel, rfl, by decide +kernel, by decide +kernel⟩
abbrev s_least_edits : Stmt := topS 26
theorem sc_least_edits : FnScope ["one", "other", "rows", "edits", "at", "column"] ["one", "other"] (defScope s_least_edits) := ⟨rfl, rfl, rfl, by decide +kernel, rfl, by decide +kernel, by decide +kernel⟩
abbrev s_law_ferry : Stmt := topS 28
theorem sc_law_ferry : FnScope ["script", "cell"] ["script"] (defScope s_law_ferry) := ⟨rfl, rfl, rfl, by decide +kernel, rfl, by decide +kernel, by decide +kernel⟩
abbrev s_law_row : Stmt := topS 29
theorem sc_law_row : FnScope ["ferry", "many", "rest", "turn", "cell", "mixed"] ["ferry", "many"] (defScope s_law_row) := ⟨rfl, rfl, rfl, by decide +kernel, rfl, by decide +kernel, by decide +kernel⟩
abbrev s_law_one : Stmt := topS 30
theorem sc_law_one : FnScope ["ferry", "some"] ["ferry", "some"] (defScope s_law_one) := ⟨rfl, rfl, rfl, by decide +kernel, rfl, by decide +kernel, by decide +kernel⟩
abbrev s_law_done : Stmt := topS 31
theorem sc_law_done : FnScope ["text", "edit", "at"] ["text", "edit"] (defScope s_law_done) := ⟨rfl, rfl, rfl, by decide +kernel, rfl, by decide +kernel, by decide +kernel⟩
abbrev s_law_edit : Stmt := topS 32
theorem sc_law_edit : FnScope ["ferry", "text", "signs", "way", "sign", "at"] ["ferry", "text", "signs"] (defScope s_law_edit) := ⟨rfl, rfl, rfl, by decide +kernel, rfl, by decide +kernel, by decide +kernel⟩
abbrev s_law_damage : Stmt := topS 33
theorem sc_law_damage : FnScope ["ferry", "text", "many", "signs", "found", "turn", "edit"] ["ferry", "text", "many", "signs"] (defScope s_law_damage) := ⟨rfl, rfl, rfl, by decide +kernel, rfl, by decide +kernel, by decide +kernel⟩
abbrev s_law_text : Stmt := topS 34
theorem sc_law_text : FnScope ["ferry", "most", "signs", "turn"] ["ferry", "most"] (defScope s_law_text) := ⟨rfl, rfl, rfl, by decide +kernel, rfl, by decide +kernel, by decide +kernel⟩
abbrev s_law_apart : Stmt := topS 35
theorem sc_law_apart : FnScope ["one", "other", "row", "many", "sign", "last", "at", "its", "here"] ["one", "other"] (defScope s_law_apart) := ⟨rfl, rfl, rfl, by decide +kernel, rfl, by decide +kernel, by decide +kernel⟩
abbrev s_law_heard : Stmt := topS 36
theorem sc_law_heard : FnScope ["ask", "caught", "error", "kinds"] ["ask"] (defScope s_law_heard) := ⟨rfl, rfl, rfl, by decide +kernel, rfl, by decide +kernel, by decide +kernel⟩
abbrev s_law_way_right : Stmt := topS 37
theorem sc_law_way_right : FnScope ["one", "other", "due", "told", "text", "edit"] ["one", "other"] (defScope s_law_way_right) := ⟨rfl, rfl, rfl, by decide +kernel, rfl, by decide +kernel, by decide +kernel⟩
abbrev s_law_bounds_right : Stmt := topS 38
theorem sc_law_bounds_right : FnScope ["ferry", "none", "far", "heard", "ask"] ["ferry"] (defScope s_law_bounds_right) := ⟨rfl, rfl, rfl, by decide +kernel, rfl, by decide +kernel, by decide +kernel⟩
abbrev s_law : Stmt := topS 39
theorem sc_law : FnScope ["script", "ferry", "turn", "one", "most", "edits", "near", "some", "its", "mine", "far", "row", "at", "spot"] ["script"] (defScope s_law) := ⟨rfl, rfl, rfl, by decide +kernel, rfl, by decide +kernel, by decide +kernel⟩
abbrev s_BadText_init : Stmt := inClass (topS 7) 0
theorem sc_BadText_init : FnScope ["self", "part"] ["self", "part"] (defScope s_BadText_init) := ⟨rfl, rfl, rfl, by decide +kernel, rfl, by decide +kernel, by decide +kernel⟩
theorem in_BadText : IsInit s_BadText_init := ⟨_, _, _, _, rfl, sc_BadText_init, rfl, rfl⟩
abbrev s_TooMany_init : Stmt := inClass (topS 13) 0
theorem sc_TooMany_init : FnScope ["self", "what", "most"] ["self", "what", "most"] (defScope s_TooMany_init) := ⟨rfl, rfl, rfl, by decide +kernel, rfl, by decide +kernel, by decide +kernel⟩
theorem in_TooMany : IsInit2 s_TooMany_init "what" "most" := ⟨_, _, _, _, _, _, _, _, rfl, sc_TooMany_init, rfl, rfl, rfl, by decide, by decide, by decide, by decide⟩
structure Tx (K : PySem.W.Frag) (mg : Str → Option Value) where
  f_are_letters : Addr
  fd_are_letters : FuncData
  F_are_letters : Fun K "are_letters" "are_letters" s_are_letters f_are_letters fd_are_letters
  g_are_letters : mg "are_letters" = some (.ref f_are_letters)
  b_are_letters : Binds K fd_are_letters ["text"] []
  f_is_text : Addr
  fd_is_text : FuncData
  F_is_text : Fun K "is_text" "is_text" s_is_text f_is_text fd_is_text
  g_is_text : mg "is_text" = some (.ref f_is_text)
  b_is_text : Binds K fd_is_text ["value"] []
  f_fixed : Addr
  fd_fixed : FuncData
  F_fixed : Fun K "fixed" "fixed" s_fixed f_fixed fd_fixed
  g_fixed : mg "fixed" = some (.ref f_fixed)
  b_fixed : Binds K fd_fixed ["value"] []
  f_are_alike : Addr
  fd_are_alike : FuncData
  F_are_alike : Fun K "are_alike" "are_alike" s_are_alike f_are_alike fd_are_alike
  g_are_alike : mg "are_alike" = some (.ref f_are_alike)
  b_are_alike : Binds K fd_are_alike ["paper", "other"] []
  f_check_pair : Addr
  fd_check_pair : FuncData
  F_check_pair : Fun K "check_pair" "check_pair" s_check_pair f_check_pair fd_check_pair
  g_check_pair : mg "check_pair" = some (.ref f_check_pair)
  b_check_pair : Binds K fd_check_pair ["one", "other"] []
  f_next_numbers : Addr
  fd_next_numbers : FuncData
  F_next_numbers : Fun K "next_numbers" "next_numbers" s_next_numbers f_next_numbers fd_next_numbers
  g_next_numbers : mg "next_numbers" = some (.ref f_next_numbers)
  b_next_numbers : Binds K fd_next_numbers ["above", "first", "sign", "wanted"] []
  f_least_numbers : Addr
  fd_least_numbers : FuncData
  F_least_numbers : Fun K "least_numbers" "least_numbers" s_least_numbers f_least_numbers fd_least_numbers
  g_least_numbers : mg "least_numbers" = some (.ref f_least_numbers)
  b_least_numbers : Binds K fd_least_numbers ["one", "other"] []
  f_edits_between : Addr
  fd_edits_between : FuncData
  F_edits_between : Fun K "edits_between" "edits_between" s_edits_between f_edits_between fd_edits_between
  g_edits_between : mg "edits_between" = some (.ref f_edits_between)
  b_edits_between : Binds K fd_edits_between ["one", "other"] []
  f_least_edits : Addr
  fd_least_edits : FuncData
  F_least_edits : Fun K "least_edits" "least_edits" s_least_edits f_least_edits fd_least_edits
  g_least_edits : mg "least_edits" = some (.ref f_least_edits)
  b_least_edits : Binds K fd_least_edits ["one", "other"] []
  f_law_ferry : Addr
  fd_law_ferry : FuncData
  F_law_ferry : Fun K "_law_ferry" "_law_ferry" s_law_ferry f_law_ferry fd_law_ferry
  g_law_ferry : mg "_law_ferry" = some (.ref f_law_ferry)
  b_law_ferry : Binds K fd_law_ferry ["script"] []
  f_law_row : Addr
  fd_law_row : FuncData
  F_law_row : Fun K "_law_row" "_law_row" s_law_row f_law_row fd_law_row
  g_law_row : mg "_law_row" = some (.ref f_law_row)
  b_law_row : Binds K fd_law_row ["ferry", "many"] []
  f_law_one : Addr
  fd_law_one : FuncData
  F_law_one : Fun K "_law_one" "_law_one" s_law_one f_law_one fd_law_one
  g_law_one : mg "_law_one" = some (.ref f_law_one)
  b_law_one : Binds K fd_law_one ["ferry", "some"] []
  f_law_done : Addr
  fd_law_done : FuncData
  F_law_done : Fun K "_law_done" "_law_done" s_law_done f_law_done fd_law_done
  g_law_done : mg "_law_done" = some (.ref f_law_done)
  b_law_done : Binds K fd_law_done ["text", "edit"] []
  f_law_edit : Addr
  fd_law_edit : FuncData
  F_law_edit : Fun K "_law_edit" "_law_edit" s_law_edit f_law_edit fd_law_edit
  g_law_edit : mg "_law_edit" = some (.ref f_law_edit)
  b_law_edit : Binds K fd_law_edit ["ferry", "text", "signs"] []
  f_law_damage : Addr
  fd_law_damage : FuncData
  F_law_damage : Fun K "_law_damage" "_law_damage" s_law_damage f_law_damage fd_law_damage
  g_law_damage : mg "_law_damage" = some (.ref f_law_damage)
  b_law_damage : Binds K fd_law_damage ["ferry", "text", "many", "signs"] []
  f_law_text : Addr
  fd_law_text : FuncData
  F_law_text : Fun K "_law_text" "_law_text" s_law_text f_law_text fd_law_text
  g_law_text : mg "_law_text" = some (.ref f_law_text)
  b_law_text : Binds K fd_law_text ["ferry", "most"] []
  f_law_apart : Addr
  fd_law_apart : FuncData
  F_law_apart : Fun K "_law_apart" "_law_apart" s_law_apart f_law_apart fd_law_apart
  g_law_apart : mg "_law_apart" = some (.ref f_law_apart)
  b_law_apart : Binds K fd_law_apart ["one", "other"] []
  f_law_heard : Addr
  fd_law_heard : FuncData
  F_law_heard : Fun K "_law_heard" "_law_heard" s_law_heard f_law_heard fd_law_heard
  g_law_heard : mg "_law_heard" = some (.ref f_law_heard)
  b_law_heard : Binds K fd_law_heard ["ask"] []
  f_law_way_right : Addr
  fd_law_way_right : FuncData
  F_law_way_right : Fun K "_law_way_right" "_law_way_right" s_law_way_right f_law_way_right fd_law_way_right
  g_law_way_right : mg "_law_way_right" = some (.ref f_law_way_right)
  b_law_way_right : Binds K fd_law_way_right ["one", "other"] []
  f_law_bounds_right : Addr
  fd_law_bounds_right : FuncData
  F_law_bounds_right : Fun K "_law_bounds_right" "_law_bounds_right" s_law_bounds_right f_law_bounds_right fd_law_bounds_right
  g_law_bounds_right : mg "_law_bounds_right" = some (.ref f_law_bounds_right)
  b_law_bounds_right : Binds K fd_law_bounds_right ["ferry"] []
  n_law_bounds_right : PySem.W.nsIn K mainGlobals "_law_bounds_right" = some (some (.ref f_law_bounds_right))
  f_law : Addr
  fd_law : FuncData
  F_law : Fun K "law" "law" s_law f_law fd_law
  g_law : mg "law" = some (.ref f_law)
  b_law : Binds K fd_law ["script"] []
  f_Paper_init : Addr
  fd_Paper_init : FuncData
  F_Paper_init : Fun K "__init__" "Paper.__init__" s_Paper_init f_Paper_init fd_Paper_init
  f_Paper_eq : Addr
  fd_Paper_eq : FuncData
  F_Paper_eq : Fun K "__eq__" "Paper.__eq__" s_Paper_eq f_Paper_eq fd_Paper_eq
  b_Paper_eq : Binds K fd_Paper_eq ["self", "other"] []
  f_Paper_bool : Addr
  fd_Paper_bool : FuncData
  F_Paper_bool : Fun K "__bool__" "Paper.__bool__" s_Paper_bool f_Paper_bool fd_Paper_bool
  b_Paper_bool : Binds K fd_Paper_bool ["self"] []
  f_Ways_init : Addr
  fd_Ways_init : FuncData
  D_Ways_init : Addr
  F_Ways_init : SupX.FunS K "__init__" "Ways.__init__" s_Ways_init f_Ways_init fd_Ways_init D_Ways_init
  kD_Ways_init : ∃ cdD, PySem.W.clsIn K D_Ways_init = some cdD
  b_Ways_init : Binds K fd_Ways_init ["self", "edits"] []
  C_Paper : Addr
  gC_Paper : mg "Paper" = some (.ref C_Paper)
  cl_Paper : Cls K C_Paper
  mk_Paper : Mk K C_Paper f_Paper_init
  ob_Paper : PySem.W.mroIn K C_Paper (.type "object") = some true
  ne_Paper : PySem.W.findIn K (.ref C_Paper) "__ne__" = some (some (.builtin "object.__ne__"))
  oc_Paper : PySem.W.findIn K (.ref C_Paper) "__class__" = some (some (.builtin "object.__class__"))
  on_Paper : PySem.W.specialIn K (.builtin "object.__class__") "__get__" = some (some (.builtin "getset_descriptor.__get__"))
  ot_Paper : PySem.W.takesIn K (.builtin "object.__class__") = some true
  kc_Paper : PySem.W.isClsIn K C_Paper = true
  kt_Paper : PySem.W.typeIn K (.ref C_Paper) = some (.type "type")
  na_Paper_word : NoAttr K C_Paper "word"
  na_Paper_parts : NoAttr K C_Paper "parts"
  C_Ways : Addr
  gC_Ways : mg "Ways" = some (.ref C_Ways)
  cl_Ways : Cls K C_Ways
  mk_Ways : Mk K C_Ways f_Ways_init
  ob_Ways : PySem.W.mroIn K C_Ways (.type "object") = some true
  ne_Ways : PySem.W.findIn K (.ref C_Ways) "__ne__" = some (some (.builtin "object.__ne__"))
  oc_Ways : PySem.W.findIn K (.ref C_Ways) "__class__" = some (some (.builtin "object.__class__"))
  on_Ways : PySem.W.specialIn K (.builtin "object.__class__") "__get__" = some (some (.builtin "getset_descriptor.__get__"))
  ot_Ways : PySem.W.takesIn K (.builtin "object.__class__") = some true
  kc_Ways : PySem.W.isClsIn K C_Ways = true
  kt_Ways : PySem.W.typeIn K (.ref C_Ways) = some (.type "type")
  sm_Ways : SupX.SupM K C_Ways D_Ways_init f_Paper_init
  na_Ways_word : NoAttr K C_Ways "word"
  na_Ways_parts : NoAttr K C_Ways "parts"
  na_Ways_edits : NoAttr K C_Ways "edits"
  mi_Ways_eq : Meth K C_Ways "__eq__" f_Paper_eq
  cn_Ways : SupX.CNm K C_Ways "Ways"
  me_Paper_eq : Meth K C_Paper "__eq__" f_Paper_eq
  me_Paper_bool : Meth K C_Paper "__bool__" f_Paper_bool
  k_TooMany : Addr
  gk_TooMany : mg "TooMany" = some (.ref k_TooMany)
  kc_TooMany : PySem.W.isClsIn K k_TooMany = true
  kt_TooMany : PySem.W.typeIn K (.ref k_TooMany) = some (.type "type")
  k_BadText : Addr
  gk_BadText : mg "BadText" = some (.ref k_BadText)
  kc_BadText : PySem.W.isClsIn K k_BadText = true
  kt_BadText : PySem.W.typeIn K (.ref k_BadText) = some (.type "type")
  k_BadEdits : Addr
  gk_BadEdits : mg "BadEdits" = some (.ref k_BadEdits)
  kc_BadEdits : PySem.W.isClsIn K k_BadEdits = true
  kt_BadEdits : PySem.W.typeIn K (.ref k_BadEdits) = some (.type "type")
  k_BadNumber : Addr
  gk_BadNumber : mg "BadNumber" = some (.ref k_BadNumber)
  kc_BadNumber : PySem.W.isClsIn K k_BadNumber = true
  kt_BadNumber : PySem.W.typeIn K (.ref k_BadNumber) = some (.type "type")
  k_BadBook : Addr
  gk_BadBook : mg "BadBook" = some (.ref k_BadBook)
  kc_BadBook : PySem.W.isClsIn K k_BadBook = true
  kt_BadBook : PySem.W.typeIn K (.ref k_BadBook) = some (.type "type")
  k_BadMachine : Addr
  gk_BadMachine : mg "BadMachine" = some (.ref k_BadMachine)
  kc_BadMachine : PySem.W.isClsIn K k_BadMachine = true
  kt_BadMachine : PySem.W.typeIn K (.ref k_BadMachine) = some (.type "type")
  k_BadRow : Addr
  gk_BadRow : mg "BadRow" = some (.ref k_BadRow)
  kc_BadRow : PySem.W.isClsIn K k_BadRow = true
  kt_BadRow : PySem.W.typeIn K (.ref k_BadRow) = some (.type "type")
  k_Misfit : Addr
  gk_Misfit : mg "Misfit" = some (.ref k_Misfit)
  kc_Misfit : PySem.W.isClsIn K k_Misfit = true
  kt_Misfit : PySem.W.typeIn K (.ref k_Misfit) = some (.type "type")
  k_Denial : Addr
  gk_Denial : mg "Denial" = some (.ref k_Denial)
  kc_Denial : PySem.W.isClsIn K k_Denial = true
  kt_Denial : PySem.W.typeIn K (.ref k_Denial) = some (.type "type")
  su_BadText_TooMany : PySem.W.subIn K (.ref k_BadText) (.ref k_TooMany) = some false
  su_BadText_BadText : PySem.W.subIn K (.ref k_BadText) (.ref k_BadText) = some true
  su_BadText_BadEdits : PySem.W.subIn K (.ref k_BadText) (.ref k_BadEdits) = some false
  su_BadText_BadNumber : PySem.W.subIn K (.ref k_BadText) (.ref k_BadNumber) = some false
  su_BadText_BadBook : PySem.W.subIn K (.ref k_BadText) (.ref k_BadBook) = some false
  su_BadText_BadMachine : PySem.W.subIn K (.ref k_BadText) (.ref k_BadMachine) = some false
  su_BadText_BadRow : PySem.W.subIn K (.ref k_BadText) (.ref k_BadRow) = some false
  su_BadText_Misfit : PySem.W.subIn K (.ref k_BadText) (.ref k_Misfit) = some false
  su_TooMany_TooMany : PySem.W.subIn K (.ref k_TooMany) (.ref k_TooMany) = some true
  su_TooMany_BadText : PySem.W.subIn K (.ref k_TooMany) (.ref k_BadText) = some false
  su_TooMany_BadEdits : PySem.W.subIn K (.ref k_TooMany) (.ref k_BadEdits) = some false
  su_TooMany_BadNumber : PySem.W.subIn K (.ref k_TooMany) (.ref k_BadNumber) = some false
  su_TooMany_BadBook : PySem.W.subIn K (.ref k_TooMany) (.ref k_BadBook) = some false
  su_TooMany_BadMachine : PySem.W.subIn K (.ref k_TooMany) (.ref k_BadMachine) = some false
  su_TooMany_BadRow : PySem.W.subIn K (.ref k_TooMany) (.ref k_BadRow) = some false
  su_TooMany_Misfit : PySem.W.subIn K (.ref k_TooMany) (.ref k_Misfit) = some false
  su_Ways_Ways : PySem.W.subIn K (.ref C_Ways) (.ref C_Ways) = some true
  su_Ways_Denial : PySem.W.subIn K (.ref C_Ways) (.ref k_Denial) = some false
  su_Ways_Paper : PySem.W.subIn K (.ref C_Ways) (.ref C_Paper) = some true
  m_isinstance : mg "isinstance" = none
  m_str : mg "str" = none
  m_len : mg "len" = none
  m_list : mg "list" = none
  m_tuple : mg "tuple" = none
  m_max : mg "max" = none
  m_enumerate : mg "enumerate" = none
  m_min : mg "min" = none
  m_range : mg "range" = none
  m_int : mg "int" = none
  m_abs : mg "abs" = none
  m_repr : mg "repr" = none
  m_super : mg "super" = none
  e_BadText : Er K mg "BadText" "BadText.__init__" s_BadText_init "LetterError"
  e_TooMany : Er2 K mg "TooMany" "TooMany.__init__" s_TooMany_init "LetterError" "what" "most"
  t_MOST_SIGNS : Tok
  c_MOST_SIGNS : mg "MOST_SIGNS" = some (.int 200000 t_MOST_SIGNS)
  t_MOST_WAY_SIGNS : Tok
  c_MOST_WAY_SIGNS : mg "MOST_WAY_SIGNS" = some (.int 300 t_MOST_WAY_SIGNS)
section
variable {P : Program} {w : World} {K : PySem.W.Frag} {mg : Str → Option Value} {base : Heap} (T : Tx K mg)
/-! ### words, signs, texts -/
def sp_are_letters (K : PySem.W.Frag) : Sp := fun vs H Q _ => ∃ (l : List Nat), vs = [.str (S l)] ∧ Q (.bl (lowB l)) H
theorem ok_are_letters : FnOk P w K mg base CX0 1 T.f_are_letters T.fd_are_letters ["text"] (sp_are_letters K) := by
  refine T.F_are_letters.ok sc_are_letters (fun vs H Q E h => ?_) (fun cdv A outer s H vs Q E hr h => ?_)
  · obtain ⟨l, rfl, _⟩ := h
    rfl
  · obtain ⟨l, rfl, q⟩ := h
    rw [← letters_S] at q
    refine ⟨_, (pss_one (ps_ret (pe_and (pe_m0 PySem.F.slot_str_isascii PySem.F.type_str_isascii mt_isascii (pv 0)) (pe_and (pe_m0 PySem.F.slot_str_isalpha PySem.F.type_str_isalpha mt_isalpha (pv 0)) (pe_one (pe_m0 PySem.F.slot_str_islower PySem.F.type_str_islower mt_islower (pv 0))))))), ?_⟩
    refine ⟨_, rfl, ⟨_, rfl⟩, S l, rfl, rfl, trivial, _, rfl, iteC (fun e => ?_) (fun e => ?_)⟩
    · rw [e] at q
      refine ⟨_, rfl, ⟨_, rfl⟩, S l, rfl, rfl, trivial, _, rfl, iteC (fun e => ?_) (fun e => ?_)⟩
      · rw [e] at q
        exact ⟨_, rfl, ⟨_, rfl⟩, S l, rfl, rfl, trivial, q⟩
      · rw [e] at q
        exact q
    · rw [e] at q
      exact q
/-- a text, or what is none -/
def StrIs (K : PySem.W.Frag) (H : Hp) (x : V) (o : Option (List Nat)) : Prop := match o with
  | some l => x = .str (S l) ∧ l.length ≤ 1000000
  | none => ∃ n, TyX K H x (.type n) ∧ kitB n "str" = some false
theorem StrIs.same {K : PySem.W.Frag} {H H' : Hp} {x : V} {o : Option (List Nat)} (e : Same H H') (h : StrIs K H x o) : StrIs K H' x o := by
  cases o with
  | some l => exact h
  | none =>
    obtain ⟨n, h1, h2⟩ := h
    exact ⟨n, tyx_same e h1, h2⟩
theorem kit_str : kitB "str" "str" = some true := by decide +kernel
def signB (l : List Nat) : Bool := decide (l.length = 1) && l.all sg
def sp_is_text (K : PySem.W.Frag) : Sp := fun vs H Q _ => ∃ (x : V) (o : Option (List Nat)), vs = [x] ∧ StrIs K H x o ∧ Q (.bl (o.elim false textB)) H
theorem ok_is_text : FnOk P w K mg base CX0 2 T.f_is_text T.fd_is_text ["value"] (sp_is_text K) := by
  refine okT T.F_is_text sc_is_text (by decide +kernel) (by decide) (fun vs H Q E h => ?_) (fun cdv A outer s H vs Q E hr h => ?_)
  · obtain ⟨x, o, rfl, _⟩ := h
    rfl
  · obtain ⟨x, o, rfl, hx, q⟩ := h
    refine ⟨_, (psst_cons (PST.of (ps_if (PW.pt (pw_or (pt_not (pt_val (pe_callB call_isi (by rfl) T.m_isinstance (by decide +kernel) (pa_cons (pv 0) (pa_cons (pe_bltn (v := .ty "str") (by rfl) T.m_str (by decide +kernel) rfl) pa_nil))))) (pw_or1 (pt_cmpR op_gt (pe_callB call_len_str (by rfl) T.m_len PySem.boot_len (pa_cons (pv 0) pa_nil)) (pe_glob (v := .int 200000) (by rfl) T.c_MOST_SIGNS ⟨_, rfl⟩) (nomark _)))))
      (pss_one (ps_ret pe_bl))
      pss_nil))
    (psst_cons (pst_set (i := 1) sc_is_text.nd rfl (.inl rfl) (CwR.pet_replC (pv 0)))
    (PSsT.of (pss_one (ps_ret (pe_or (pe_cmpR op_eq (pv 1) pe_str (nomark _)) (pe_one (pe_call (ok_are_letters T) (hr.mono (by decide)) (by rfl) T.g_are_letters T.F_are_letters.kp T.b_are_letters .nil pass0 (pa_cons (pv 1) pa_nil))))))))), ?_⟩
    cases o with
    | none =>
      obtain ⟨n, h1, h2⟩ := hx
      refine ⟨x, rfl, x, _, _, _, false, rfl, .ty _, h1, kit_ty h2, _, rfl, ?_⟩
      refine iteT (B := _) ?_
      refine iteT (B := _) ?_
      exact q
    | some l =>
      obtain ⟨rfl, hl⟩ := hx
      refine ⟨_, rfl, _, _, _, _, true, rfl, .ty _, .base (.str (S l)), kit_ty kit_str, _, rfl, ?_⟩
      refine iteF (A := _) ?_
      have q' : Q (.bl (decide (l.length ≤ 200000) && l.all sg)) H := q
      have e1 : decide ((200000 : Int) < ((S l).length : Int)) = !decide (l.length ≤ 200000) := by
        rw [S_len]
        by_cases h : l.length ≤ 200000
        · rw [decide_eq_true h, decide_eq_false (by omega)]
          rfl
        · rw [decide_eq_false h, decide_eq_true (by omega)]
          rfl
      refine ⟨_, rfl, S l, rfl, by rw [S_len]; exact Nat.le_trans hl (by decide), _, _, rfl, rfl, _, rfl, ?_⟩
      rw [e1]
      cases h : decide (l.length ≤ 200000) with
      | false =>
        rw [h] at q'
        refine iteT (B := _) ?_
        exact q'
      | true =>
        rw [h] at q'
        have h' : l.length ≤ 200000 := of_decide_eq_true h
        refine iteF (A := _) ?_
        refine ⟨_, rfl, S l, rfl, by rw [S_len]; show l.length + (l.length + 1) * 0 ≤ 16777216; omega, ?_⟩
        have eR : Txt.replace (S l) " " "" = S (l.filter (· != 32)) := replace_S l
        rw [eR]
        have q2 : Q (.bl ((l.filter (· != 32)).isEmpty || lowB (l.filter (· != 32)))) H := by
          rw [text_filter]
          exact q'
        refine ⟨_, rfl, rfl, _, rfl, ?_⟩
        rw [S_nil]
        cases hE : (l.filter (· != 32)).isEmpty with
        | true =>
          rw [hE] at q2
          refine iteT (B := _) ?_
          exact q2
        | false =>
          rw [hE] at q2
          refine iteF (A := _) ?_
          exact ⟨_, rfl, _, rfl, q2⟩
end
end K06
namespace K06
open PySem PySem.Spec PyProof.Rows L2 Kx SX LamX Ms PnX
section
variable {P : Program} {w : World} {K : PySem.W.Frag} {mg : Str → Option Value} {base : Heap} (T : Tx K mg)
/-! ### fixed -/
mutual
def fixD : PyData → PyData
  | .list ds => .tuple (fixDs ds)
  | .tuple ds => .tuple (fixDs ds)
  | d => d
def fixDs : List PyData → List PyData
  | [] => []
  | d :: ds => fixD d :: fixDs ds
end
theorem fixDs_app : ∀ (a b : List PyData), fixDs (a ++ b) = fixDs a ++ fixDs b
  | [], _ => rfl
  | d :: a, b => by
    show fixD d :: fixDs (a ++ b) = fixD d :: (fixDs a ++ fixDs b)
    rw [fixDs_app a b]
theorem dpAll_app {H : Hp} : ∀ {xs : List V} {ds : List PyData} {v : V} {d : PyData}, DpAll K H xs ds → Dp K H v d → DpAll K H (xs ++ [v]) (ds ++ [d])
  | _, _, _, _, .nil, h => .cons h .nil
  | _, _, _, _, .cons a b, h => .cons a (dpAll_app b h)
theorem dpAll_same {H H' : Hp} (e : Same H H') : ∀ {xs : List V} {ds : List PyData}, DpAll K H xs ds → DpAll K H' xs ds
  | _, _, .nil => .nil
  | _, _, .cons a b => .cons (dp_same e _ _ a) (dpAll_same e b)
theorem none_of_same {H H' : Hp} {b : Addr} (e : Same H H') (n : H' b = none) : H b = none := by
  cases z : H b with
  | none => rfl
  | some o =>
    rw [e _ _ z] at n
    cases n
theorem sqq_same {H H' : Hp} {a : Addr} {xs : List V} (e : Same H H') (h : SqQ K H a xs) : SqQ K H' a xs := h.elim (fun h => .inl (e.seq h)) fun h => .inr (Same.t e h)
theorem dpAll_at {H : Hp} : ∀ {xs : List V} {ds : List PyData} {i : Nat} {v : V}, DpAll K H xs ds → xs[i]? = some v → ∃ d, ds[i]? = some d ∧ Dp K H v d
  | _, _, _, _, .nil, h => by cases h
  | _, _, 0, _, .cons a _, h => by
    cases h
    exact ⟨_, rfl, a⟩
  | _, _, i + 1, _, .cons _ b, h => dpAll_at (i := i) b h
theorem dpAll_len {H : Hp} : ∀ {xs : List V} {ds : List PyData}, DpAll K H xs ds → xs.length = ds.length
  | _, _, .nil => rfl
  | _, _, .cons _ b => by rw [List.length_cons, List.length_cons, dpAll_len b]
theorem bulk_len : ∀ ds : List PyData, ds.length ≤ PyData.bulkAll ds
  | [] => Nat.zero_le _
  | d :: ds => by
    have := bulk_len ds
    simp only [PyData.bulkAll, List.length_cons]
    omega
theorem bulk_at : ∀ {ds : List PyData} {i : Nat} {d : PyData}, ds[i]? = some d → d.bulk ≤ PyData.bulkAll ds
  | d :: ds, 0, _, h => by
    cases h
    simp only [PyData.bulkAll]
    omega
  | d :: ds, i + 1, e, h => by
    have := bulk_at (ds := ds) (i := i) h
    simp only [PyData.bulkAll]
    omega
theorem depth_at : ∀ {ds : List PyData} {i : Nat} {d : PyData}, ds[i]? = some d → d.depth ≤ PyData.depthAll ds
  | d :: ds, 0, _, h => by
    cases h
    simp only [PyData.depthAll]
    exact Nat.le_max_left _ _
  | d :: ds, i + 1, e, h => by
    have := depth_at (ds := ds) (i := i) h
    simp only [PyData.depthAll]
    exact Nat.le_trans this (Nat.le_max_right _ _)
/-- what fixed gives: scalars and new tuples alone -/
def FxO (K : PySem.W.Frag) (H H' : Hp) (v : V) (d : PyData) : Prop := ∀ G : Hp, (∀ b o, H b = none → H' b = some o → G b = some o) → Dp K G v d
def sp_fixed (K : PySem.W.Frag) (n : Nat) : Sp := fun vs H Q _ => ∃ (v : V) (d : PyData), vs = [v] ∧ Dp K H v d ∧ d.depth ≤ n ∧ d.bulk ≤ 1000000 ∧ ∀ v' H', Same H H' → FxO K H H' v' (fixD d) → Q v' H'
theorem go_yes {σ : L2.St} {H : Hp} {Q : Bool → Hp → Prop} (h : Q true H) : tYes σ H Q := h
theorem fixDs_take {ds : List PyData} {i : Nat} {d : PyData} (h : ds[i]? = some d) : fixDs (ds.take (i + 1)) = fixDs (ds.take i) ++ [fixD d] := by
  rw [List.take_add_one, h, fixDs_app]
  rfl
theorem fixed_seq {sp0 : Sp} {H : Hp} {a : Addr} {o1 : Option V} {xs : List V} {ds : List PyData} {Q : VK} (hq : SqQ K H a xs) (hd : DpAll K H xs ds) (hb : PyData.bulkAll ds ≤ 1000000)
    (h0 : ∀ (i : Nat) (x : V) (d : PyData) (Hc : Hp) (Q' : VK), ds[i]? = some d → Dp K Hc x d → (∀ v' H', Same Hc H' → FxO K Hc H' v' (fixD d) → Q' v' H') → sp0 [x] Hc Q' E0)
    (q : ∀ D ys H1, H1 D = some (.lst ys) → H D = none → Same H H1 → (∀ G : Hp, (∀ b o, b ≠ D → H b = none → H1 b = some o → G b = some o) → DpAll K G ys (fixDs ds)) → Q (.ref D) H1) :
    tLc (fun σ H R => iList K (tVar 0) σ H R ∨ iTup K (tVar 0) σ H R) (gName 1) tYes (tCall sp0 [] E0 (tCons (tVar 1) tNil)) [1] [some (.ref a), o1] H Q := by
  refine lc_seqit (fun D i Hc => ∃ ys, Hc D = some (.lst ys) ∧ ys.length = i ∧ Same H Hc ∧ ∀ G : Hp, (∀ b o, b ≠ D → H b = none → Hc b = some o → G b = some o) → DpAll K G ys (fixDs (ds.take i))) rfl hq (fun D nD => ⟨[], upd_same, rfl, same_new nD, fun G _ => .nil⟩) (fun D i Hc _ h => h.choose_spec.2.2.1) (fun D i x Hc nD hx h => ?_) (fun D Hc nD h => ?_)
  · obtain ⟨ys, hD, ly, e, hG⟩ := h
    obtain ⟨d, hdi, hdx⟩ := dpAll_at hd hx
    have hi : i < ds.length := (List.getElem?_eq_some_iff.mp hdi).1
    have hbl := bulk_len ds
    refine ⟨rfl, ?_⟩
    refine go_yes ?_
    refine iteT (A := tCall _ _ _ _ _ _ _) ?_
    refine go_call (go_cons (go_var rfl (go_nil ?_)))
    refine h0 i x d Hc _ hdi (dp_same e d x hdx) fun v' H4 e4 hv' => ?_
    refine ⟨ys, e4 _ _ hD, Nat.lt_of_lt_of_le (show ys.length < 1000000 by omega) (by decide), ys ++ [v'], upd_same, by rw [List.length_append, ly]; rfl, fun b o hb => ?_, fun G hg => ?_⟩
    · rw [upd_ne (ne_of_none hb nD)]
      exact e4 _ _ (e _ _ hb)
    · rw [fixDs_take hdi]
      refine dpAll_app (hG G fun b o nb hn hb => hg b o nb hn ?_) (hv' G fun b o hn hb => ?_)
      · rw [upd_ne nb]
        exact e4 _ _ hb
      · have nb : b ≠ D := by
          rintro rfl
          rw [hD] at hn
          cases hn
        refine hg b o nb ?_ ?_
        · cases z : H b with
          | none => rfl
          | some u =>
            rw [e _ _ z] at hn
            cases hn
        · rw [upd_ne nb]
          exact hb
  · obtain ⟨ys, hD, ly, e, hG⟩ := h
    rw [dpAll_len hd, List.take_length] at hG
    exact q D ys Hc hD nD e hG
theorem dp_islist {H : Hp} {v : V} {d : PyData} (h : Dp K H v d) : ∃ n b, TyX K H v (.type n) ∧ PySem.W.kitAny K (.type n) [.type "list", .type "tuple"] = some b ∧ ((b = false ∧ fixD d = d ∧ ∀ G, Dp K G v d) ∨ (b = true ∧ ∃ a xs ds, v = .ref a ∧ SqQ K H a xs ∧ DpAll K H xs ds ∧ fixD d = .tuple (fixDs ds) ∧ d.depth = PyData.depthAll ds + 1 ∧ PyData.bulkAll ds = d.bulk)) := by
  cases h with
  | non => exact ⟨"NoneType", false, .base .non, kit_at (a := false) (b := false) (by decide +kernel) (by decide +kernel), .inl ⟨rfl, rfl, fun _ => .non⟩⟩
  | bl b => exact ⟨"bool", false, .base (.bl b), kit_at (a := false) (b := false) (by decide +kernel) (by decide +kernel), .inl ⟨rfl, rfl, fun _ => .bl b⟩⟩
  | int i => exact ⟨"int", false, .base (.int i), kit_at (a := false) (b := false) (by decide +kernel) (by decide +kernel), .inl ⟨rfl, rfl, fun _ => .int i⟩⟩
  | str x => exact ⟨"str", false, .base (.str x), kit_at (a := false) (b := false) (by decide +kernel) (by decide +kernel), .inl ⟨rfl, rfl, fun _ => .str x⟩⟩
  | lst h1 h2 => exact ⟨"list", true, tyL h1, kit_at (a := true) (b := false) (by decide +kernel) (by decide +kernel), .inr ⟨rfl, _, _, _, rfl, .inl h1, h2, rfl, rfl, rfl⟩⟩
  | tup h1 h2 => exact ⟨"tuple", true, tyT h1, kit_at (a := false) (b := true) (by decide +kernel) (by decide +kernel), .inr ⟨rfl, _, _, _, rfl, .inr h1, h2, rfl, rfl, rfl⟩⟩
theorem fixed_step {k : Nat} {sp0 : Sp} (n : Nat) (F0 : FnOk P w K mg base CX0 k T.f_fixed T.fd_fixed ["value"] sp0)
    (h0 : ∀ (x : V) (d : PyData) (Hc : Hp) (Q' : VK), d.depth + 1 ≤ n → d.bulk ≤ 1000000 → Dp K Hc x d → (∀ v' H', Same Hc H' → FxO K Hc H' v' (fixD d) → Q' v' H') → sp0 [x] Hc Q' E0) : FnOk P w K mg base CX0 (k + 1) T.f_fixed T.fd_fixed ["value"] (sp_fixed K n) := by
  refine T.F_fixed.ok sc_fixed (fun vs H Q E h => ?_) (fun cdv A outer s H vs Q E hr h => ?_)
  · obtain ⟨v, d, rfl, _⟩ := h
    rfl
  · obtain ⟨v, d, rfl, hv, hn, hb, q⟩ := h
    refine ⟨_, (pss_cons (ps_if (pt_val (pe_callB call_isiT (by rfl) T.m_isinstance (by decide +kernel) (pa_cons (pv 0) (pa_cons (pe_tup (pa_cons (pe_bltn (v := .ty "list") (by rfl) T.m_list (by decide +kernel) rfl) (pa_cons (pe_bltn (v := .ty "tuple") (by rfl) T.m_tuple (by decide +kernel) rfl) pa_nil))) pa_nil))))
      (pss_one (ps_ret (pe_callTy call_tuple_of (by rfl) T.m_tuple (by decide +kernel) (pa_cons (pe_lc (own := [("part", 1)]) rfl sc_fixed.nd (pi_seq (pv 0)) (blkOk_by (own := [("part", 1)]) (N := ["value", "part"]) (sc := defScope s_fixed) (by decide +kernel)) (fun _ _ _ _ _ => (pg_name (i := 1) sc_fixed.nd rfl (.inl rfl))) (fun _ _ _ _ _ => pts_nil) (fun _ _ _ _ _ => (pe_call F0 hr (by rfl) T.g_fixed T.F_fixed.kp T.b_fixed .nil pass0 (pa_cons (pv 1) pa_nil)))) pa_nil))))
      pss_nil)
    (pss_one (ps_ret (pv 0)))), ?_⟩
    obtain ⟨m, b, hty, hk, hc⟩ := dp_islist hv
    refine go_seq (go_if (go_test (go_cb (go_cons (go_var rfl (go_cons (go_tup ?_)))))))
    refine go_cons (go_c (go_cons (go_c (go_nil ⟨sz2, fun p np => go_nil ?_⟩))))
    have e1 := same_new (o := HO.tup [V.ty "list", V.ty "tuple"]) np
    refine ⟨v, p, _, _, _, b, rfl, upd_same, .cons (.ty _) (.cons (.ty _) .nil), tyx_same e1 hty, hk, ?_⟩
    refine ⟨_, rfl, iteC (fun hb2 => ?_) (fun hb2 => ?_)⟩
    · rcases hc with ⟨z, _⟩ | ⟨_, a, xs, ds, rfl, hq, hda, hfx, hdep, hbk⟩
      · rw [z] at hb2
        cases hb2
      refine go_ret (go_cb (go_cons (fixed_seq (sqq_same e1 hq) (dpAll_same e1 hda) (by omega) (fun i x dx Hc Q' hi hx hQ => h0 x dx Hc Q' ?_ ?_ hx hQ) (fun D ys H1 hD nD e hG => ?_))))
      · have := depth_at hi
        omega
      · have := bulk_at hi
        omega
      refine go_nil ⟨D, ys, rfl, .inl ⟨.inl (.inl hD), fun t nt => ?_⟩⟩
      have nDp := nD
      refine q _ _ (e1.trans (e.trans (same_new nt))) fun G hg => ?_
      rw [hfx]
      have tn : H t = none := none_of_same (e1.trans e) nt
      refine .tup (.inl (.inl (hg t _ tn upd_same))) (hG G fun b o nb hn' hb' => hg b o (none_of_same e1 hn') ?_)
      rw [upd_ne (ne_of_none hb' nt)]
      exact hb'
    · rcases hc with ⟨_, hfx, hG⟩ | ⟨z, _⟩
      · refine go_next ?_
        refine go_ret (go_var rfl (q _ _ e1 fun G _ => ?_))
        rw [hfx]
        exact hG G
      · rw [z] at hb2
        cases hb2
theorem ok_fixed : ∀ n, FnOk P w K mg base CX0 (n + 1) T.f_fixed T.fd_fixed ["value"] (sp_fixed K n)
  | 0 => fixed_step T 0 (k := 0) (sp0 := fun _ _ _ _ => False) ⟨fun _ _ _ _ h => h.elim, fun _ _ _ _ _ _ _ _ _ _ _ _ _ h => h.elim⟩ fun x d Hc Q' h => absurd h (by omega)
  | n + 1 => fixed_step T (n + 1) (ok_fixed n) fun x d Hc Q' hd hb hx hQ => ⟨x, d, rfl, hx, by omega, hb, hQ⟩
/-! ### Paper -/
theorem sql_upd {H : Hp} {a b C dx : Addr} {fs : List (Str × V)} {o : HO} {xs : List V} (ha : H a = some (.ins C dx fs)) (h : SqL K H b xs) : SqL K (upd H a o) b xs := by
  rcases h with (h | ⟨ob, h⟩) | h
  · exact .inl (.inl (by rw [upd_ne (ne_of_two h ha (fun z => by cases z))]; exact h))
  · exact .inl (.inr ⟨ob, by rw [upd_ne (ne_of_two h ha (fun z => by cases z))]; exact h⟩)
  · exact .inr h
theorem sqt_upd {H : Hp} {a b C dx : Addr} {fs : List (Str × V)} {o : HO} {xs : List V} (ha : H a = some (.ins C dx fs)) (h : SqT K H b xs) : SqT K (upd H a o) b xs := by
  rcases h with (h | ⟨ob, h⟩) | h
  · exact .inl (.inl (by rw [upd_ne (ne_of_two h ha (fun z => by cases z))]; exact h))
  · exact .inl (.inr ⟨ob, by rw [upd_ne (ne_of_two h ha (fun z => by cases z))]; exact h⟩)
  · exact .inr h
theorem dp_upd {H : Hp} {a C dx : Addr} {fs : List (Str × V)} {o : HO} (ha : H a = some (.ins C dx fs)) {d : PyData} {v : V} (h : Dp K H v d) : Dp K (upd H a o) v d :=
  Dp.rec (motive_1 := fun v d _ => Dp K (upd H a o) v d) (motive_2 := fun vs ds _ => DpAll K (upd H a o) vs ds) .non .bl .int .str (fun h _ i => .lst (sql_upd ha h) i) (fun h _ i => .tup (sqt_upd ha h) i) .nil (fun _ _ a b => .cons a b) h
theorem dpAll_upd {H : Hp} {a C dx : Addr} {fs : List (Str × V)} {o : HO} (ha : H a = some (.ins C dx fs)) : ∀ {xs : List V} {ds : List PyData}, DpAll K H xs ds → DpAll K (upd H a o) xs ds
  | _, _, .nil => .nil
  | _, _, .cons h t => .cons (dp_upd ha h) (dpAll_upd ha t)
/-- what stands in a paper's first two attributes -/
def PapO (K : PySem.W.Frag) (a : Addr) (H H' : Hp) (w p : V) (wd : PyData) (ds : List PyData) : Prop := ∀ G : Hp, (∀ b o, b ≠ a → H b = none → H' b = some o → G b = some o) → Dp K G w (fixD wd) ∧ Dp K G p (.tuple (fixDs ds))
def sp_paper0 (K : PySem.W.Frag) : Sp := fun vs H Q _ => ∃ (a C dx : Addr) (wv : V) (wd : PyData) (pt : Addr) (ps : List V) (ds : List PyData), vs = [.ref a, wv, .ref pt] ∧ H a = some (.ins C dx []) ∧ Cls K C ∧ NoAttr K C "word" ∧ NoAttr K C "parts" ∧ H pt = some (.tup ps) ∧ Dp K H wv wd ∧ DpAll K H ps ds ∧
  wd.depth ≤ 6 ∧ wd.bulk ≤ 1000000 ∧ PyData.depthAll ds + 1 ≤ 6 ∧ PyData.bulkAll ds ≤ 1000000 ∧
  ∀ w' p' H', Mv a H H' → H' a = some (.ins C dx [("word", w'), ("parts", p')]) → PapO K a H H' w' p' wd ds → Q .non H'
def sp_paper (K : PySem.W.Frag) : Sp := fun vs H Q E => ∃ ws rest, vs = ws ++ rest ∧ ws.length = 2 ∧ rest.length ≤ sizeLine ∧ ∀ p, H p = none → sp_paper0 K (ws ++ [V.ref p]) (upd H p (.tup rest)) Q E
theorem ok_Paper_init : FnR P w K mg base CX0 8 T.f_Paper_init (sp_paper K) := by
  obtain ⟨oc, od, kV, doc, pm, an, cdv, ct, osl, efd, lk, hcd⟩ := T.F_Paper_init.ex
  rw [efd] at lk
  refine StX.fn_star (ps := ["self", "word"]) (pv := "parts") lk hcd sc_Paper_init StX.cxUp_none (fun us rest hl => match us, hl, rest with | [_, _], _, [] => rfl | [_, _], _, _ :: _ => rfl) (fun A outer s H vs Q E hr h => ?_)
  obtain ⟨a, C, dx, wv, wd, pt, ps, ds, rfl, ha, hC, n1, n2, hp, hw, hd, d1, d2, d3, d4, q⟩ := h
  refine ⟨_, (pss_cons (ps_fld (pv 0) (pe_call (ok_fixed T 6) (hr.mono (by decide)) (by rfl) T.g_fixed T.F_fixed.kp T.b_fixed .nil pass0 (pa_cons (pv 1) pa_nil)) rfl)
    (pss_one (ps_fld (pv 0) (pe_call (ok_fixed T 6) (hr.mono (by decide)) (by rfl) T.g_fixed T.F_fixed.kp T.b_fixed .nil pass0 (pa_cons (pv 2) pa_nil)) rfl))), ?_⟩
  have hpa : pt ≠ a := ne_of_two hp ha (fun z => by cases z)
  refine go_seq (go_sfld (go_call (go_cons (go_var rfl (go_nil ⟨wv, wd, rfl, hw, d1, d2, fun w' H1 e1 hw' => ?_⟩)))))
  have ha1 := e1 _ _ ha
  refine go_var rfl ⟨a, C, dx, [], rfl, ha1, hC, n1, by decide, ?_⟩
  have hp1 : upd H1 a (.ins C dx (putF "word" w' [])) pt = some (.tup ps) := by
    rw [upd_ne hpa]
    exact e1 _ _ hp
  have hd1 : DpAll K (upd H1 a (.ins C dx (putF "word" w' []))) ps ds := dpAll_upd ha1 (dpAll_same e1 hd)
  refine go_sfld (go_call (go_cons (go_var rfl (go_nil ⟨.ref pt, .tuple ds, rfl, .tup (.inl (.inl hp1)) hd1, d3, d4, fun p' H2 e2 hp' => ?_⟩))))
  refine go_var rfl ⟨a, C, dx, _, rfl, e2 _ _ upd_same, hC, n2, (show 1 < 1000 by decide), ?_⟩
  have nba : ∀ {b : Addr}, H b = none → b ≠ a := fun hn z => by
    rw [z, ha] at hn
    cases hn
  have up : ∀ (b : Addr) (o : HO), b ≠ a → H1 b = some o → upd H2 a (.ins C dx (putF "parts" p' (putF "word" w' []))) b = some o := fun b o nb h => by
    rw [upd_ne nb]
    exact e2 _ _ (by rw [upd_ne nb]; exact h)
  refine q w' p' _ (fun b o nb h => up b o nb (e1 _ _ h)) upd_same fun G hg => ⟨hw' G fun b o hn hb => hg b o (nba hn) hn (up b o (nba hn) hb), hp' G fun b o hn hb => ?_⟩
  have nb : b ≠ a := fun z => by
    rw [z, upd_same] at hn
    cases hn
  rw [upd_ne nb] at hn
  refine hg b o nb (none_of_same e1 hn) ?_
  rw [upd_ne nb]
  exact hb
end
end K06
namespace K06
open PySem PySem.Spec PyProof.Rows L2 Kx SX LamX Ms PnX
inductive Ed where
  | put (a c : Nat)
  | lost (a : Nat)
  | chg (a c : Nat)
deriving DecidableEq
def Ed.vs : Ed → List V
  | .put a c => [.str "put", .int (a : Nat), .str (S [c])]
  | .lost a => [.str "lost", .int (a : Nat)]
  | .chg a c => [.str "changed", .int (a : Nat), .str (S [c])]
def Ed.ok : Ed → Bool
  | .put _ c => sg c
  | .lost _ => true
  | .chg _ c => sg c
/-- the text behind an edit -/
def doE (t : List Nat) : Ed → Option (List Nat)
  | .put a c => if a ≤ t.length ∧ t.length < 200000 then some (t.take a ++ [c] ++ t.drop a) else none
  | .lost a => if a < t.length then some (t.take a ++ t.drop (a + 1)) else none
  | .chg a c => if a < t.length ∧ t.getD a 0 ≠ c then some (t.take a ++ [c] ++ t.drop (a + 1)) else none
def optS : Option (List Nat) → V
  | some l => .str (S l)
  | none => .non
theorem S_app (a b : List Nat) : (S a ++ S b : Str) = S (a ++ b) := by
  show (⟨_⟩ : Str) = _
  simp [S]
theorem cut2 {a b c : List Nat} {r : Str} (h : r = S (a ++ b ++ c)) : r = S (a ++ b ++ c) := h
theorem sgetD {l : List Nat} {a : Nat} (h : a < l.length) : atI (S l).cps.toList (a : Int) = some (l.getD a 0) := by
  have e0 : (S l).cps.toList = l := by simp [S]
  rw [e0, at_nat h, List.getD_eq_getElem?_getD, List.getElem?_eq_getElem h]
  rfl
theorem len_le {l : List Nat} (h : l.length ≤ 200000) : (S l).length ≤ sizeLine := by
  rw [S_len]
  exact Nat.le_trans h (by decide)
theorem app_le {a b : List Nat} (h : a.length + b.length ≤ 400000) : (S a).length + (S b).length ≤ sizeLine := by
  rw [S_len, S_len]
  exact Nat.le_trans h (by decide)
theorem cut_toN (l : List Nat) (a : Nat) : Txt.slice (S l) none (some (a : Int)) = S (l.take a) := slice_toS l a
theorem cut_fromN (l : List Nat) (a : Nat) : Txt.slice (S l) (some (a : Int)) none = S (l.drop a) := slice_fromS l a
theorem cut_fromN1 (l : List Nat) (a : Nat) : Txt.slice (S l) (some ((a : Int) + 1)) none = S (l.drop (a + 1)) := slice_fromS l (a + 1)
def tx (l : List Nat) : V := .str (S l)
/-- edits done one behind another -/
inductive Path : List Nat → List Ed → List Nat → Prop
  | nil (t : List Nat) : Path t [] t
  | cons {t t' u : List Nat} {e : Ed} {r : List Ed} : doE t e = some t' → Path t' r u → Path t (e :: r) u
theorem Path.app {t c u : List Nat} {a b : List Ed} (h : Path t a c) (k : Path c b u) : Path t (a ++ b) u := by
  induction h with
  | nil => exact k
  | cons d _ ih => exact .cons d (ih k)
theorem Path.snoc {t c u : List Nat} {a : List Ed} {e : Ed} (h : Path t a c) (d : doE c e = some u) : Path t (a ++ [e]) u := h.app (.cons d (.nil u))
theorem Path.split {t u : List Nat} {es : List Ed} (i : Nat) (h : Path t es u) : ∃ c, Path t (es.take i) c ∧ Path c (es.drop i) u := by
  induction h generalizing i with
  | nil t => exact ⟨t, by rw [List.take_nil]; exact .nil t, by rw [List.drop_nil]; exact .nil t⟩
  | @cons t t' u e r d k ih =>
    cases i with
    | zero => exact ⟨t, .nil t, .cons d k⟩
    | succ i =>
      obtain ⟨c, h1, h2⟩ := ih i
      exact ⟨c, .cons d h1, h2⟩
theorem Path.det {t u v : List Nat} {es : List Ed} (h : Path t es u) (k : Path t es v) : u = v := by
  induction h with
  | nil =>
    cases k
    rfl
  | cons d _ ih =>
    cases k with
    | cons d' k' =>
      rw [d] at d'
      cases d'
      exact ih k'
theorem inv_put {t u : List Nat} {a c : Nat} (d : doE t (.put a c) = some u) : (a ≤ t.length ∧ t.length < 200000) ∧ u = t.take a ++ [c] ++ t.drop a := by
  by_cases h : a ≤ t.length ∧ t.length < 200000
  · have e : doE t (.put a c) = some _ := if_pos h
    rw [e] at d
    exact ⟨h, (Option.some.inj d).symm⟩
  · have e : doE t (.put a c) = none := if_neg h
    rw [e] at d
    cases d
theorem inv_lost {t u : List Nat} {a : Nat} (d : doE t (.lost a) = some u) : a < t.length ∧ u = t.take a ++ t.drop (a + 1) := by
  by_cases h : a < t.length
  · have e : doE t (.lost a) = some _ := if_pos h
    rw [e] at d
    exact ⟨h, (Option.some.inj d).symm⟩
  · have e : doE t (.lost a) = none := if_neg h
    rw [e] at d
    cases d
theorem inv_chg {t u : List Nat} {a c : Nat} (d : doE t (.chg a c) = some u) : (a < t.length ∧ t.getD a 0 ≠ c) ∧ u = t.take a ++ [c] ++ t.drop (a + 1) := by
  by_cases h : a < t.length ∧ t.getD a 0 ≠ c
  · have e : doE t (.chg a c) = some _ := if_pos h
    rw [e] at d
    exact ⟨h, (Option.some.inj d).symm⟩
  · have e : doE t (.chg a c) = none := if_neg h
    rw [e] at d
    cases d
theorem doE_len {t u : List Nat} {e : Ed} (d : doE t e = some u) : u.length ≤ t.length + 1 ∧ (t.length ≤ 200000 → u.length ≤ 200000) := by
  cases e with
  | put a c =>
    obtain ⟨h, rfl⟩ := inv_put d
    have : (t.take a ++ [c] ++ t.drop a).length = t.length + 1 := by simp; omega
    omega
  | lost a =>
    obtain ⟨h, rfl⟩ := inv_lost d
    have : (t.take a ++ t.drop (a + 1)).length = t.length - 1 := by simp; omega
    omega
  | chg a c =>
    obtain ⟨h, rfl⟩ := inv_chg d
    have : (t.take a ++ [c] ++ t.drop (a + 1)).length = t.length := by simp; omega
    omega
theorem Path.len {t u : List Nat} {es : List Ed} (h : Path t es u) : u.length ≤ t.length + es.length ∧ (t.length ≤ 200000 → u.length ≤ 200000) := by
  induction h with
  | nil t => exact ⟨Nat.le_refl _, fun h => h⟩
  | cons d _ ih =>
    have := doE_len d
    rw [List.length_cons]
    omega
def nxt (t : List Nat) (e : Ed) : List Nat := (doE t e).getD t
/-- the text and what each edit leaves -/
def trail (t : List Nat) : List Ed → List (List Nat)
  | [] => [t]
  | e :: r => t :: trail (nxt t e) r
theorem trail_len (t : List Nat) (es : List Ed) : (trail t es).length = es.length + 1 := by
  induction es generalizing t with
  | nil => rfl
  | cons e r ih =>
    show (trail (nxt t e) r).length + 1 = _
    rw [ih]
    rfl
theorem trail_snoc {t c : List Nat} {es : List Ed} (e : Ed) (h : Path t es c) : trail t (es ++ [e]) = trail t es ++ [nxt c e] := by
  induction h with
  | nil t => rfl
  | @cons t t' u f r d _ ih =>
    have : nxt t f = t' := by unfold nxt; rw [d]; rfl
    show t :: trail (nxt t f) (r ++ [e]) = t :: trail (nxt t f) r ++ [nxt u e]
    rw [this, ih]
    rfl
theorem trail_last {t c : List Nat} {es : List Ed} (h : Path t es c) : ∃ ini, trail t es = ini ++ [c] := by
  induction h with
  | nil t => exact ⟨[], rfl⟩
  | @cons t t' u f r d _ ih =>
    obtain ⟨ini, hi⟩ := ih
    have : nxt t f = t' := by unfold nxt; rw [d]; rfl
    exact ⟨t :: ini, by show t :: trail (nxt t f) r = _; rw [this, hi]; rfl⟩
theorem trail_at {t u : List Nat} {es : List Ed} {i : Nat} (hi : i ≤ es.length) (h : Path t es u) : ∃ c, (trail t es)[i]? = some c ∧ Path t (es.take i) c := by
  induction h generalizing i with
  | nil t =>
    obtain rfl : i = 0 := by simpa using hi
    exact ⟨t, rfl, .nil t⟩
  | @cons t t' u f r d _ ih =>
    cases i with
    | zero => exact ⟨t, rfl, .nil t⟩
    | succ i =>
      obtain ⟨c, h1, h2⟩ := ih (i := i) (by simpa using hi)
      have : nxt t f = t' := by unfold nxt; rw [d]; rfl
      refine ⟨c, ?_, .cons d h2⟩
      show (trail (nxt t f) r)[i]? = _
      rw [this]
      exact h1
def Stuck (t : List Nat) (es : List Ed) : Prop := ∃ i e c, es[i]? = some e ∧ Path t (es.take i) c ∧ doE c e = none
theorem Path.not {t u : List Nat} {es : List Ed} (h : Path t es u) (k : Stuck t es) : False := by
  obtain ⟨i, e, c, he, hp, hd⟩ := k
  obtain ⟨c', h1, h2⟩ := h.split i
  have hi := (List.getElem?_eq_some_iff.mp he).1
  rw [List.drop_eq_getElem_cons hi] at h2
  have : es[i] = e := (List.getElem?_eq_some_iff.mp he).2
  rw [this, ← hp.det h1] at h2
  cases h2 with
  | cons d _ =>
    rw [hd] at d
    cases d
def un (t : List Nat) : Ed → Ed
  | .put a _ => .lost a
  | .lost a => .put a (t.getD a 0)
  | .chg a _ => .chg a (t.getD a 0)
/-- the edits that lead back, the first one first -/
def backs (t : List Nat) : List Ed → List Ed
  | [] => []
  | e :: r => un t e :: backs (nxt t e) r
theorem backs_len (t : List Nat) (es : List Ed) : (backs t es).length = es.length := by
  induction es generalizing t with
  | nil => rfl
  | cons e r ih =>
    show (backs (nxt t e) r).length + 1 = _
    rw [ih]
    rfl
theorem backs_snoc {t c : List Nat} {es : List Ed} (e : Ed) (h : Path t es c) : backs t (es ++ [e]) = backs t es ++ [un c e] := by
  induction h with
  | nil t => rfl
  | @cons t t' u f r d _ ih =>
    have : nxt t f = t' := by unfold nxt; rw [d]; rfl
    show un t f :: backs (nxt t f) (r ++ [e]) = un t f :: backs (nxt t f) r ++ [un u e]
    rw [this, ih]
    rfl
theorem backs_at {t u c : List Nat} {es : List Ed} {i : Nat} {e : Ed} (h : Path t es u) (he : es[i]? = some e) (hc : Path t (es.take i) c) : (backs t es)[i]? = some (un c e) := by
  induction h generalizing i with
  | nil t => cases he
  | @cons t t' u f r d _ ih =>
    cases i with
    | zero =>
      cases he
      cases hc
      rfl
    | succ i =>
      have : nxt t f = t' := by unfold nxt; rw [d]; rfl
      cases hc with
      | cons d' hc' =>
        rw [d] at d'
        cases d'
        show (backs (nxt t f) r)[i]? = _
        rw [this]
        exact ih he hc'
/-- what is undone is there again -/
theorem undo_one {t u : List Nat} {e : Ed} (hl : t.length ≤ 200000) (d : doE t e = some u) : doE u (un t e) = some t ∧ un u (un t e) = e := by
  cases e with
  | put a c =>
    obtain ⟨h, rfl⟩ := inv_put d
    have h1 : (t.take a).length = a := by rw [List.length_take]; omega
    have e1 : (t.take a ++ [c] ++ t.drop a).take a = t.take a := by
      rw [List.append_assoc, List.take_append_of_le_length (by omega), List.take_of_length_le (by omega)]
    have e2 : (t.take a ++ [c] ++ t.drop a).drop (a + 1) = t.drop a := by
      rw [List.drop_append_of_le_length (by simp; omega)]
      rw [List.drop_of_length_le (by simp; omega)]
      rfl
    have e3 : (t.take a ++ [c] ++ t.drop a).getD a 0 = c := by
      rw [List.getD_eq_getElem?_getD, List.append_assoc, List.getElem?_append_right (by omega), h1, Nat.sub_self]
      rfl
    constructor
    · show (if a < (t.take a ++ [c] ++ t.drop a).length then _ else _) = _
      rw [if_pos (by simp; omega), e1, e2, List.take_append_drop]
    · show Ed.put a _ = _
      rw [e3]
  | lost a =>
    obtain ⟨h, rfl⟩ := inv_lost d
    have h1 : (t.take a).length = a := by rw [List.length_take]; omega
    have e1 : (t.take a ++ t.drop (a + 1)).take a = t.take a := by
      rw [List.take_append_of_le_length (by omega), List.take_of_length_le (by omega)]
    have e2 : (t.take a ++ t.drop (a + 1)).drop a = t.drop (a + 1) := by
      rw [List.drop_append_of_le_length (by omega), List.drop_of_length_le (by omega)]
      rfl
    have e3 : t.take a ++ [t.getD a 0] ++ t.drop (a + 1) = t := by
      have : t.getD a 0 = t[a] := by rw [List.getD_eq_getElem?_getD, List.getElem?_eq_getElem h]; rfl
      rw [this, List.append_assoc]
      show t.take a ++ (t[a] :: t.drop (a + 1)) = t
      rw [← List.drop_eq_getElem_cons h, List.take_append_drop]
    constructor
    · show (if a ≤ (t.take a ++ t.drop (a + 1)).length ∧ (t.take a ++ t.drop (a + 1)).length < 200000 then _ else _) = _
      rw [if_pos (by simp; omega), e1, e2, e3]
    · rfl
  | chg a c =>
    obtain ⟨h, rfl⟩ := inv_chg d
    have h1 : (t.take a).length = a := by rw [List.length_take]; omega
    have e1 : (t.take a ++ [c] ++ t.drop (a + 1)).take a = t.take a := by
      rw [List.append_assoc, List.take_append_of_le_length (by omega), List.take_of_length_le (by omega)]
    have e2 : (t.take a ++ [c] ++ t.drop (a + 1)).drop (a + 1) = t.drop (a + 1) := by
      rw [List.drop_append_of_le_length (by simp; omega)]
      rw [List.drop_of_length_le (by simp; omega)]
      rfl
    have e4 : (t.take a ++ [c] ++ t.drop (a + 1)).getD a 0 = c := by
      rw [List.getD_eq_getElem?_getD, List.append_assoc, List.getElem?_append_right (by omega), h1, Nat.sub_self]
      rfl
    have e3 : t.take a ++ [t.getD a 0] ++ t.drop (a + 1) = t := by
      have : t.getD a 0 = t[a] := by rw [List.getD_eq_getElem?_getD, List.getElem?_eq_getElem h.1]; rfl
      rw [this, List.append_assoc]
      show t.take a ++ (t[a] :: t.drop (a + 1)) = t
      rw [← List.drop_eq_getElem_cons h.1, List.take_append_drop]
    constructor
    · show (if a < (t.take a ++ [c] ++ t.drop (a + 1)).length ∧ (t.take a ++ [c] ++ t.drop (a + 1)).getD a 0 ≠ t.getD a 0 then _ else _) = _
      rw [e4, if_pos ⟨by simp; omega, fun z => h.2 z.symm⟩, e1, e2, e3]
    · show Ed.chg a _ = _
      rw [e4]
theorem undo_all {t u : List Nat} {es : List Ed} (hl : t.length ≤ 200000) (h : Path t es u) : Path u (backs t es).reverse t ∧ (backs u (backs t es).reverse).reverse = es := by
  induction h with
  | nil t => exact ⟨.nil t, rfl⟩
  | @cons t t' u f r d k ih =>
    have hl' := (doE_len d).2 hl
    obtain ⟨h1, h2⟩ := ih hl'
    obtain ⟨g1, g2⟩ := undo_one hl d
    have : nxt t f = t' := by unfold nxt; rw [d]; rfl
    have eb : (backs t (f :: r)).reverse = (backs t' r).reverse ++ [un t f] := by
      show (un t f :: backs (nxt t f) r).reverse = _
      rw [this, List.reverse_cons]
    rw [eb]
    refine ⟨h1.snoc g1, ?_⟩
    rw [backs_snoc _ h1, List.reverse_append, h2, g2]
    rfl
theorem doE_sg {t u : List Nat} {e : Ed} (hs : ∀ c ∈ t, sg c = true) (he : e.ok = true) (d : doE t e = some u) : (∀ c ∈ u, sg c = true) ∧ (un t e).ok = true := by
  have hg : ∀ a, a < t.length → sg (t.getD a 0) = true := fun a ha => by
    rw [List.getD_eq_getElem?_getD, List.getElem?_eq_getElem ha]
    exact hs _ (List.getElem_mem ..)
  cases e with
  | put a c =>
    obtain ⟨h, rfl⟩ := inv_put d
    refine ⟨fun x hx => ?_, rfl⟩
    simp only [List.mem_append, List.mem_singleton] at hx
    rcases hx with (hx | rfl) | hx
    · exact hs _ (List.mem_of_mem_take hx)
    · exact he
    · exact hs _ (List.mem_of_mem_drop hx)
  | lost a =>
    obtain ⟨h, rfl⟩ := inv_lost d
    refine ⟨fun x hx => ?_, hg a h⟩
    simp only [List.mem_append] at hx
    rcases hx with hx | hx
    · exact hs _ (List.mem_of_mem_take hx)
    · exact hs _ (List.mem_of_mem_drop hx)
  | chg a c =>
    obtain ⟨h, rfl⟩ := inv_chg d
    refine ⟨fun x hx => ?_, hg a h.1⟩
    simp only [List.mem_append, List.mem_singleton] at hx
    rcases hx with (hx | rfl) | hx
    · exact hs _ (List.mem_of_mem_take hx)
    · exact he
    · exact hs _ (List.mem_of_mem_drop hx)
theorem path_sg {t u : List Nat} {es : List Ed} (hs : ∀ c ∈ t, sg c = true) (he : ∀ e ∈ es, e.ok = true) (h : Path t es u) : (∀ c ∈ u, sg c = true) ∧ ∀ e ∈ backs t es, e.ok = true := by
  induction h with
  | nil t => exact ⟨hs, fun e m => by cases m⟩
  | @cons t t' u f r d k ih =>
    obtain ⟨g1, g2⟩ := doE_sg hs (he f List.mem_cons_self) d
    obtain ⟨h1, h2⟩ := ih g1 (fun e m => he e (List.mem_cons_of_mem _ m))
    have : nxt t f = t' := by unfold nxt; rw [d]; rfl
    refine ⟨h1, fun e m => ?_⟩
    rcases List.mem_cons.mp m with rfl | m
    · exact g2
    · rw [this] at m
      exact h2 e m
section
variable {P : Program} {w : World} {K : PySem.W.Frag} {mg : Str → Option Value} {base : Heap} (T : Tx K mg)
def EdsQ (K : PySem.W.Frag) (H : Hp) (p : Addr) (es : List Ed) : Prop := ∃ ps : List Addr, SqQ K H p (ps.map V.ref) ∧ ps.length = es.length ∧ ∀ (i : Nat) (q : Addr) (e : Ed), ps[i]? = some q → es[i]? = some e → SqQ K H q e.vs
theorem EdsQ.same {H H' : Hp} {p : Addr} {es : List Ed} (e : Same H H') (h : EdsQ K H p es) : EdsQ K H' p es := by
  obtain ⟨ps, h1, h2, h3⟩ := h
  exact ⟨ps, Same.q e h1, h2, fun i q d a b => Same.q e (h3 i q d a b)⟩
theorem ref_get {ps : List Addr} {i : Nat} {x : V} (h : (ps.map V.ref)[i]? = some x) : ∃ q, ps[i]? = some q ∧ x = .ref q := by
  obtain ⟨q, h1, h2⟩ := map_at h
  exact ⟨q, h1, h2⟩
theorem ed_of {ps : List Addr} {es : List Ed} {i : Nat} {q : Addr} (l : ps.length = es.length) (h : ps[i]? = some q) : ∃ e, es[i]? = some e := by
  have := (List.getElem?_eq_some_iff.mp h).1
  exact ⟨_, List.getElem?_eq_getElem (by omega)⟩
theorem take_snoc {es : List Ed} {i : Nat} {e : Ed} (h : es[i]? = some e) : es.take (i + 1) = es.take i ++ [e] := by
  rw [List.take_add_one, h]
  rfl
/-- edits, a tuple of tuples -/
def EdsT (H : Hp) (D : Addr) (es : List Ed) : Prop := ∃ ps : List Addr, H D = some (.tup (ps.map V.ref)) ∧ ps.length = es.length ∧ ∀ (i : Nat) (q : Addr) (e : Ed), ps[i]? = some q → es[i]? = some e → H q = some (.tup e.vs)
theorem EdsT.same {H H' : Hp} {p : Addr} {es : List Ed} (e : Same H H') (h : EdsT H p es) : EdsT H' p es := by
  obtain ⟨ps, h1, h2, h3⟩ := h
  exact ⟨ps, e _ _ h1, h2, fun i q d a b => e _ _ (h3 i q d a b)⟩
theorem EdsT.q {H : Hp} {p : Addr} {es : List Ed} (h : EdsT H p es) : EdsQ K H p es := by
  obtain ⟨ps, h1, h2, h3⟩ := h
  exact ⟨ps, .inr (.inl (.inl h1)), h2, fun i q e a b => .inr (.inl (.inl (h3 i q e a b)))⟩
/-- edits, a list of tuples -/
def EdsL (H : Hp) (D : Addr) (es : List Ed) : Prop := ∃ ps : List Addr, H D = some (.lst (ps.map V.ref)) ∧ ps.length = es.length ∧ ∀ (i : Nat) (q : Addr) (e : Ed), ps[i]? = some q → es[i]? = some e → H q = some (.tup e.vs)
theorem EdsL.same {H H' : Hp} {p : Addr} {es : List Ed} (e : Same H H') (h : EdsL H p es) : EdsL H' p es := by
  obtain ⟨ps, h1, h2, h3⟩ := h
  exact ⟨ps, e _ _ h1, h2, fun i q d a b => e _ _ (h3 i q d a b)⟩
theorem EdsL.q {H : Hp} {p : Addr} {es : List Ed} (h : EdsL H p es) : EdsQ K H p es := by
  obtain ⟨ps, h1, h2, h3⟩ := h
  exact ⟨ps, .inl (.inl (.inl h1)), h2, fun i q e a b => .inr (.inl (.inl (h3 i q e a b)))⟩
/-- one edit more -/
theorem EdsL.add {H H' : Hp} {D t : Addr} {es : List Ed} {e : Ed} (h : EdsL H D es) (m : Mv D H H') (ht : H' t = some (.tup e.vs)) (hD : ∀ ps : List Addr, H D = some (.lst (ps.map V.ref)) → H' D = some (.lst (ps.map V.ref ++ [.ref t]))) : EdsL H' D (es ++ [e]) := by
  obtain ⟨ps, h1, h2, h3⟩ := h
  refine ⟨ps ++ [t], by rw [hD ps h1, List.map_append]; rfl, by rw [List.length_append, List.length_append, h2]; rfl, fun i q d a b => ?_⟩
  by_cases hi : i < ps.length
  · rw [List.getElem?_append_left hi] at a
    rw [List.getElem?_append_left (by omega)] at b
    have := h3 i q d a b
    exact m _ _ (fun z => by rw [z, h1] at this; cases this) this
  · have : i = ps.length := by
      have := (List.getElem?_eq_some_iff.mp a).1
      rw [List.length_append] at this
      have h1 : ([t] : List Addr).length = 1 := rfl
      omega
    subst this
    rw [List.getElem?_append_right (by omega), Nat.sub_self] at a
    rw [h2, List.getElem?_append_right (by omega), Nat.sub_self] at b
    cases a
    cases b
    exact ht
theorem EdsL.rev {H H' : Hp} {D D' : Addr} {es : List Ed} (e : Same H H') (h : EdsL H D es) (hD : ∀ ps : List Addr, H D = some (.lst (ps.map V.ref)) → H' D' = some (.tup (ps.map V.ref).reverse)) : EdsT H' D' es.reverse := by
  obtain ⟨ps, h1, h2, h3⟩ := h
  refine ⟨ps.reverse, by rw [hD ps h1, List.map_reverse], by rw [List.length_reverse, List.length_reverse, h2], fun i q d a b => ?_⟩
  have hi := (List.getElem?_eq_some_iff.mp a).1
  rw [List.length_reverse] at hi
  rw [List.getElem?_reverse (by omega)] at a b
  rw [← h2] at b
  exact e _ _ (h3 _ q d a b)
/-! ### edits as data -/
def Ed.ds : Ed → List PyData
  | .put a c => [.str "put", .int (a : Nat), .str (S [c])]
  | .lost a => [.str "lost", .int (a : Nat)]
  | .chg a c => [.str "changed", .int (a : Nat), .str (S [c])]
def Ed.pl : Ed → Nat
  | .put a _ => a
  | .lost a => a
  | .chg a _ => a
def Ed.fine (e : Ed) : Prop := e.ok = true ∧ e.pl < 1000000
theorem ed_dp {H : Hp} (e : Ed) : DpAll K H e.vs e.ds := by
  cases e with
  | put a c => exact .cons (.str _) (.cons (.int _) (.cons (.str _) .nil))
  | lost a => exact .cons (.str _) (.cons (.int _) .nil)
  | chg a c => exact .cons (.str _) (.cons (.int _) (.cons (.str _) .nil))
theorem sg_cd {c : Nat} (h : sg c = true) : cdC [c] := by
  have hc : c < 1114112 := by
    unfold sg low at h
    simp only [Bool.or_eq_true, Bool.and_eq_true, decide_eq_true_eq] at h
    omega
  unfold cdC
  simp [hc]
theorem ed_sh {e : Ed} (h : e.fine) : ∃ m, m ≤ 11 ∧ ShA 0 m e.ds := by
  obtain ⟨h1, h2⟩ := h
  cases e with
  | put a c =>
    have := ShA.cons (sh_str (x := "put") (l := [112, 117, 116]) rfl (by unfold cdC; decide)) (.cons (sh_int (i := (a : Nat)) (by have : a < 1000000 := h2; omega)) (.cons (sh_str (x := S [c]) rfl (sg_cd h1)) .nil))
    exact ⟨_, by simp, this⟩
  | lost a =>
    have := ShA.cons (sh_str (x := "lost") (l := [108, 111, 115, 116]) rfl (by unfold cdC; decide)) (.cons (sh_int (i := (a : Nat)) (by have : a < 1000000 := h2; omega)) .nil)
    exact ⟨_, by simp, this⟩
  | chg a c =>
    have := ShA.cons (sh_str (x := "changed") (l := [99, 104, 97, 110, 103, 101, 100]) rfl (by unfold cdC; decide)) (.cons (sh_int (i := (a : Nat)) (by have : a < 1000000 := h2; omega)) (.cons (sh_str (x := S [c]) rfl (sg_cd h1)) .nil))
    exact ⟨_, by simp, this⟩
/-- one edit, a tuple or a list -/
def edD (b : Bool) (e : Ed) : PyData := if b = true then .tuple e.ds else .list e.ds
theorem edD_sh {b : Bool} {e : Ed} (h : e.fine) : Sh 1 11 (edD b e) := by
  obtain ⟨m, hm, g⟩ := ed_sh h
  cases b with
  | true => exact g.tup.up (Nat.le_refl _) hm
  | false => exact g.lst.up (Nat.le_refl _) hm
theorem eds_sh {b : Bool} : ∀ {es : List Ed}, (∀ e ∈ es, e.fine) → ShA 1 (12 * es.length) (es.map (edD b))
  | [], _ => .nil
  | e :: r, h => by
    have := ShA.cons (edD_sh (b := b) (h e List.mem_cons_self)) (eds_sh (b := b) fun x m => h x (List.mem_cons_of_mem _ m))
    have e2 : 11 + 1 + 12 * r.length = 12 * (e :: r).length := by rw [List.length_cons]; omega
    rw [e2] at this
    exact this
theorem eds_dp {H : Hp} {b : Bool} : ∀ (ps : List Addr) (es : List Ed), ps.length = es.length → (∀ (i : Nat) (q : Addr) (e : Ed), ps[i]? = some q → es[i]? = some e → if b = true then SqT K H q e.vs else SqL K H q e.vs) → DpAll K H (ps.map V.ref) (es.map (edD b))
  | [], [], _, _ => .nil
  | [], _ :: _, h, _ => by cases h
  | _ :: _, [], h, _ => by cases h
  | q :: ps, e :: es, h, g => .cons (by
      have h0 := g 0 q e rfl rfl
      cases b with
      | true => exact .tup h0 (ed_dp e)
      | false => exact .lst h0 (ed_dp e)) (eds_dp ps es (by simpa using h) fun i q' d' a b => g (i + 1) q' d' a b)
theorem edsT_dp {H : Hp} {D : Addr} {es : List Ed} (h : EdsT H D es) : Dp K H (.ref D) (.tuple (es.map (edD true))) := by
  obtain ⟨ps, h1, h2, h3⟩ := h
  exact .tup (.inl (.inl h1)) (eds_dp ps es h2 fun i q e a b => .inl (.inl (h3 i q e a b)))
theorem edsL_dp {H : Hp} {D : Addr} {es : List Ed} (h : EdsL H D es) : Dp K H (.ref D) (.list (es.map (edD true))) := by
  obtain ⟨ps, h1, h2, h3⟩ := h
  exact .lst (.inl (.inl h1)) (eds_dp ps es h2 fun i q e a b => .inl (.inl (h3 i q e a b)))
theorem ed_plain {e : Ed} (h : e.ok = true) (b : Bool) : Pl 1 (edD b e) := by
  have kd : ∀ l : List Nat, l.all (fun c => decide (c < 1114112)) = true → Pl 0 (.str (S l)) := fun l h => pl_text h
  have : ∀ d ∈ e.ds, Pl 0 d := by
    intro d m
    cases e with
    | put a c =>
      simp only [Ed.ds, List.mem_cons, List.not_mem_nil, or_false] at m
      rcases m with rfl | rfl | rfl
      · exact kd [112, 117, 116] (by decide)
      · exact pl_int 0 _
      · exact pl_text (sg_cd h)
    | lost a =>
      simp only [Ed.ds, List.mem_cons, List.not_mem_nil, or_false] at m
      rcases m with rfl | rfl
      · exact kd [108, 111, 115, 116] (by decide)
      · exact pl_int 0 _
    | chg a c =>
      simp only [Ed.ds, List.mem_cons, List.not_mem_nil, or_false] at m
      rcases m with rfl | rfl | rfl
      · exact kd [99, 104, 97, 110, 103, 101, 100] (by decide)
      · exact pl_int 0 _
      · exact pl_text (sg_cd h)
  cases b with
  | true => exact Pl.tup this
  | false => exact Pl.lst this
theorem eds_plain {es : List Ed} (h : ∀ e ∈ es, e.ok = true) : Pl 2 (.tuple (es.map (edD true))) := Pl.tup fun d m => by
  obtain ⟨e, he, rfl⟩ := List.mem_map.mp m
  exact ed_plain (h e he) true
theorem eqvAll_same : ∀ ds : List PyData, (∀ d ∈ ds, PyData.eqv d d = true) → PyData.eqvAll ds ds = true
  | [], _ => rfl
  | d :: r, h => by
    show (PyData.eqv d d && PyData.eqvAll r r) = true
    rw [h d List.mem_cons_self, eqvAll_same r fun x m => h x (List.mem_cons_of_mem _ m)]
    rfl
theorem eqv_edsT (es : List Ed) : PyData.eqv (.tuple (es.map (edD true))) (.tuple (es.map (edD true))) = true := by
  refine eqvAll_same _ fun d m => ?_
  obtain ⟨e, _, rfl⟩ := List.mem_map.mp m
  refine eqvAll_same e.ds fun x hx => ?_
  have t : ∀ s : Str, PyData.eqv (.str s) (.str s) = true := fun s => by simp [PyData.eqv]
  have n : ∀ i : Int, PyData.eqv (.int i) (.int i) = true := fun i => by rw [eqv_int]; exact decide_eq_true rfl
  cases e with
  | put a c => simp only [Ed.ds, List.mem_cons, List.not_mem_nil, or_false] at hx; rcases hx with rfl | rfl | rfl <;> first | exact t _ | exact n _
  | lost a => simp only [Ed.ds, List.mem_cons, List.not_mem_nil, or_false] at hx; rcases hx with rfl | rfl <;> first | exact t _ | exact n _
  | chg a c => simp only [Ed.ds, List.mem_cons, List.not_mem_nil, or_false] at hx; rcases hx with rfl | rfl | rfl <;> first | exact t _ | exact n _
/-- the same edits are no others -/
theorem ne_edsT {H : Hp} {a b : Addr} {es : List Ed} {Q : VK} (ho : ∀ e ∈ es, e.ok = true) (h1 : EdsT H a es) (h2 : EdsT H b es) (q : Q (.bl false) H) : rNeD K (.ref a) (.ref b) H Q :=
  ⟨_, _, edsT_dp h1, edsT_dp h2, (eds_plain ho).shaped (by decide), (eds_plain ho).shaped (by decide), by rw [eqv_edsT]; exact q⟩
theorem fine_path {t u : List Nat} {es : List Ed} (ht : t.length + es.length < 1000000) (ho : ∀ e ∈ es, e.ok = true) (h : Path t es u) : ∀ e ∈ es, e.fine := by
  induction h with
  | nil t => exact fun e m => by cases m
  | @cons t t' u f r d _ ih =>
    have := (doE_len d).1
    rw [List.length_cons] at ht
    intro e m
    rcases List.mem_cons.mp m with rfl | m
    · refine ⟨ho _ List.mem_cons_self, ?_⟩
      cases e with
      | put a c =>
        obtain ⟨⟨h, _⟩, _⟩ := inv_put d
        show a < 1000000
        omega
      | lost a =>
        obtain ⟨h, _⟩ := inv_lost d
        show a < 1000000
        omega
      | chg a c =>
        obtain ⟨⟨h, _⟩, _⟩ := inv_chg d
        show a < 1000000
        omega
    · exact ih (by omega) (fun x m => ho x (List.mem_cons_of_mem _ m)) e m
end
end K06
namespace K06
open PySem PySem.Spec PyProof.Rows L2 Kx SX LamX Ms PnX
theorem cutTr {b : Bool} {A B : Prop} (h : b = true) (k : A) : if b = true then A else B := by
  rw [h]
  exact iteT (B := _) k
theorem cutIf {b : Bool} {A B : Prop} (h : b = false) (k : B) : if b = true then A else B := by
  rw [h]
  exact iteF (A := _) k
section
variable {P : Program} {w : World} {K : PySem.W.Frag} {mg : Str → Option Value} {base : Heap} (T : Tx K mg)
/-! ### draws -/
def sp_law_row (K : PySem.W.Frag) : Sp := fun vs H Q _ => ∃ (a c : Addr) (m : Int) (n : Nat), vs = [.ref a, .int m] ∧ 0 < m ∧ m ≤ 1000000 ∧ Wh H a c n ∧ n < 1000000 ∧ ∀ (r : Int) (H' : Hp), 0 ≤ r → r < m → Mv a H H' → Wh H' a c (n + 1) → Q (.int r) H'
theorem ok_law_row : FnOk P w K mg base CX0 1 T.f_law_row T.fd_law_row ["ferry", "many"] (sp_law_row K) := by
  refine T.F_law_row.ok sc_law_row (fun vs H Q E h => ?_) (fun cdv A outer s H vs Q E hr h => ?_)
  · obtain ⟨a, c, m, n, rfl, _⟩ := h
    rfl
  · obtain ⟨a, c, m, n, rfl, hm, hM, ⟨cs, t, l, h1, h2, h3, h4, h5⟩, hn, q⟩ := h
    refine ⟨_, (pss_cons (ps_if (pt_cmpR op_gt (pe_ix ix_list (pv 0) pe_int (fun _ _ => rfl)) pe_int (nomark _))
      (pss_cons (ps_set (i := 2) sc_law_row.nd rfl (.inl rfl) (pe_callTy call_int1 (by rfl) T.m_int (by decide +kernel) (pa_cons (pe_ix ix_list (pv 0) pe_int (fun _ _ => rfl)) pa_nil)))
      (pss_cons (ps_asg (pe_op op_fdivN (pv 2) (pv 1)) (pg_sub (pv 0) pe_int set_list))
      (pss_one (ps_ret (pe_op op_modN (pe_callTy call_int1 (by rfl) T.m_int (by decide +kernel) (pa_cons (pv 2) pa_nil)) (pv 1))))))
      pss_nil)
    (pss_cons (ps_set (i := 3) sc_law_row.nd rfl (.inl rfl) (pe_ix ix_list (pv 0) pe_int (fun _ _ => rfl)))
    (pss_cons (ps_asg (pe_op op_add (pv 3) pe_int) (pg_sub (pv 0) pe_int set_list))
    (pss_cons (ps_if (pt_cmpR (op_eqE hr.units) (pe_ix ix_list (pv 0) pe_int (fun _ _ => rfl)) (pe_lst pa_nil) (nomark _))
      (pss_one (ps_ret pe_int))
      pss_nil)
    (pss_cons (ps_set (i := 4) sc_law_row.nd rfl (.inl rfl) (pe_ix ix_list (pe_ix ix_list (pv 0) pe_int (fun _ _ => rfl)) (pe_op op_modN (pe_callTy call_int1 (by rfl) T.m_int (by decide +kernel) (pa_cons (pv 3) pa_nil)) (pe_callB call_len_seq (by rfl) T.m_len PySem.boot_len (pa_cons (pe_ix ix_list (pv 0) pe_int (fun _ _ => rfl)) pa_nil))) (fun _ _ => rfl)))
    (pss_cons (ps_if (PW.pt (pw_and (pt_cmpR op_lt (pv 3) (pe_callB call_len_seq (by rfl) T.m_len PySem.boot_len (pa_cons (pe_ix ix_list (pv 0) pe_int (fun _ _ => rfl)) pa_nil)) (nomark _)) (pw_and1 (pt_cmpR op_ge (pe_callB call_abs (by rfl) T.m_abs (by decide +kernel) (pa_cons (pv 4) pa_nil)) (pe_op op_pow pe_int pe_int) (nomark _)))))
      (pss_cons (ps_set (i := 2) sc_law_row.nd rfl (.inl rfl) (pe_op op_add (pe_op op_mul pe_int (pe_op op_sub (pe_callB call_abs (by rfl) T.m_abs (by decide +kernel) (pa_cons (pv 4) pa_nil)) (pe_op op_pow pe_int pe_int))) (pe_callTy call_int1 (by rfl) T.m_int (by decide +kernel) (pa_cons (pe_cmpR op_lt (pv 4) pe_int (nomark _)) pa_nil))))
      (pss_cons (ps_asg (pe_op op_fdivN (pv 2) (pv 1)) (pg_sub (pv 0) pe_int set_list))
      (pss_one (ps_ret (pe_op op_modN (pe_callTy call_int1 (by rfl) T.m_int (by decide +kernel) (pa_cons (pv 2) pa_nil)) (pv 1))))))
      pss_nil)
    (pss_cons (ps_set (i := 5) sc_law_row.nd rfl (.inl rfl) (pe_op op_modN (pe_callTy call_int1 (by rfl) T.m_int (by decide +kernel) (pa_cons (pe_op op_pow (pe_op op_add (pe_op op_add (pe_op op_modN (pe_callTy call_int1 (by rfl) T.m_int (by decide +kernel) (pa_cons (pv 4) pa_nil)) pe_int) (pe_op op_mul pe_int (pv 3))) pe_int) pe_int) pa_nil)) pe_int))
    (pss_cons (ps_set (i := 5) sc_law_row.nd rfl (.inl rfl) (pe_op op_modN (pe_callTy call_int1 (by rfl) T.m_int (by decide +kernel) (pa_cons (pe_op op_pow (pe_op op_add (pe_op op_add (pe_op op_mul (pv 5) (pe_op op_add (pe_op op_mul pe_int (pv 3)) pe_int)) (pe_op op_mul (pe_op op_mul pe_int (pv 3)) (pv 3))) pe_int) pe_int) pa_nil)) pe_int))
    (pss_one (ps_ret (pe_op op_modN (pe_callTy call_int1 (by rfl) T.m_int (by decide +kernel) (pa_cons (pe_op op_fdivN (pv 5) pe_int) pa_nil)) (pv 1)))))))))))), ?_⟩
    have hac := wh_ac h1 h2
    have m0 : m ≠ 0 := by omega
    have mS : m.natAbs < 1073741824 := by omega
    have fin : ∀ (x y z : Int) (H' : Hp), Mv a H H' → H' a = some (.lst [.ref c, .int y, .int z]) → 0 ≤ y → y ≤ n + 1 → Q (.int (x.fmod m)) H' := fun x y z H' mv ha y0 y1 =>
      q _ _ (Int.fmod_nonneg_of_pos _ hm) (Int.fmod_lt_of_pos _ hm) mv ⟨cs, y, z, ha, mv c _ (fun e => hac e.symm) h2, h3, y0, by omega⟩
    refine ⟨_, rfl, a, _, 2, .int l, rfl, rfl, .inl (.inl h1), rfl, _, _, rfl, rfl, _, rfl, iteC (fun e => ?_) (fun e => ?_)⟩
    · refine ⟨_, rfl, a, _, 2, .int l, rfl, rfl, .inl (.inl h1), rfl, .inl ⟨l, rfl, ?_⟩⟩
      refine ⟨_, rfl, _, rfl, l, m, rfl, rfl, ⟨m0, mS⟩, _, rfl, a, _, 2, 2, rfl, rfl, h1, rfl, ?_⟩
      refine ⟨_, rfl, .inl ⟨l, rfl, _, rfl, l, m, rfl, rfl, m0, ?_⟩⟩
      exact fin _ t (l.fdiv m) _ (Mv.upd _ _ _) upd_same h4 (by omega)
    clear e
    refine ⟨_, rfl, a, _, 1, .int t, rfl, rfl, .inl (.inl h1), rfl, ?_⟩
    refine ⟨_, rfl, t, 1, rfl, rfl, _, rfl, a, _, 1, 1, rfl, rfl, h1, rfl, ?_⟩
    generalize hH1 : upd H a (HO.lst ([V.ref c, .int t, .int l].set 1 (.int (t + 1)))) = H1
    have a1 : H1 a = some (.lst [.ref c, .int (t + 1), .int l]) := by rw [← hH1]; exact upd_same
    have c1 : H1 c = some (.lst (cs.map V.int)) := by rw [← hH1, upd_ne (fun e => hac e.symm)]; exact h2
    have mv1 : Mv a H H1 := by rw [← hH1]; exact Mv.upd _ _ _
    refine ⟨_, rfl, a, _, 0, .ref c, rfl, rfl, .inl (.inl a1), rfl, Nat.zero_le _, fun p np => ⟨c, p, _, rfl, rfl, same_new np _ _ c1, upd_same, _, rfl, iteC (fun e => ?_) (fun e => ?_)⟩⟩
    · exact q 0 _ (Int.le_refl _) hm (mv1.trans (Mv.of (same_new np))) ⟨cs, t + 1, l, same_new np _ _ a1, same_new np _ _ c1, h3, by omega, by omega⟩
    have cs0 : cs ≠ [] := fun z => by
      rw [z] at e
      cases e
    have s0 := same_new (o := HO.lst []) np
    have a2 := s0 _ _ a1
    have c2 := s0 _ _ c1
    have mv2 := mv1.trans (Mv.of s0)
    generalize upd H1 p (HO.lst []) = H2 at a2 c2 mv2 ⊢
    clear e s0 np
    dsimp only [tNext]
    have z0 : (0 : Int) < (cs.map V.int).length := by
      cases cs with
      | nil => exact absurd rfl cs0
      | cons x xs => simp
    obtain ⟨v, hv, ev⟩ : ∃ v, v ∈ cs.map V.int ∧ atI (cs.map V.int) (t.fmod ((cs.map V.int).length : Int)) = some v := at_lt (Int.fmod_nonneg_of_pos _ z0) (Int.fmod_lt_of_pos _ z0)
    obtain ⟨i, _, rfl⟩ := List.mem_map.mp hv
    have z : ((cs.map V.int).length : Int) ≠ 0 := by omega
    refine ⟨_, rfl, a, _, 0, .ref c, rfl, rfl, .inl (.inl a2), rfl, ?_⟩
    refine ⟨_, rfl, .inl ⟨t, rfl, ?_⟩⟩
    refine ⟨_, rfl, a, _, 0, .ref c, rfl, rfl, .inl (.inl a2), rfl, c, _, rfl, .inl (.inl (.inl c2)), ?_⟩
    refine ⟨t, _, rfl, rfl, z, c, _, _, _, rfl, rfl, .inl (.inl c2), ev, ?_⟩
    refine genI (P := fun v => gName 4 v _ _ _) (fun cell => ?_)
    refine ⟨_, rfl, _, rfl, a, _, 0, .ref c, rfl, rfl, .inl (.inl a2), rfl, c, _, rfl, .inl (.inl (.inl c2)), _, _, rfl, rfl, _, rfl, cutP (fun _ r => iteF r) (fun r e => ?_) ?_⟩
    · refine ⟨_, rfl, cell, rfl, _, _, rfl, rfl, ⟨by decide, by decide, by decide⟩, _, _, rfl, rfl, _, rfl, iteC (fun e2 => ?_) (fun e2 => r)⟩
      refine ⟨_, rfl, cell, rfl, _, _, rfl, rfl, ⟨by decide, by decide, by decide⟩, _, _, rfl, rfl, _, _, rfl, rfl, .inl ⟨by decide, by decide⟩, _, rfl, _, _, rfl, rfl, .inr ⟨_, rfl, _, _, rfl, rfl, ?_⟩⟩
      refine genI (P := fun v => gName 2 v _ _ _) (fun rest => ?_)
      refine ⟨_, rfl, _, rfl, _, _, rfl, rfl, ⟨m0, mS⟩, _, rfl, a, _, 2, 2, rfl, rfl, a2, rfl, ?_⟩
      refine ⟨_, rfl, .inl ⟨rest, rfl, _, rfl, _, _, rfl, rfl, m0, ?_⟩⟩
      exact fin _ (t + 1) _ _ (mv2.trans (Mv.upd _ _ _)) upd_same (by omega) (by omega)
    · refine ⟨_, rfl, .inl ⟨cell, rfl, _, _, rfl, rfl, (by show (_ : Int) ≠ 0; decide), _, rfl, _, _, rfl, rfl, .inl ⟨by decide, by decide⟩, _, _, rfl, rfl, _, _, rfl, rfl, _, _, rfl, rfl, ⟨by decide, by decide, bnd5 (by decide) (by decide) h4 (by omega) (by decide) (by decide) (by decide) (by decide)⟩, .inl ⟨_, rfl, _, _, rfl, rfl, (by show (_ : Int) ≠ 0; decide), ?_⟩⟩⟩
      refine genIB (P := fun v => gName 5 v _ _ _) (by decide) (fun m1 m1a m1b => ?_)
      have m1c : m1 ≤ 4294967296 := Int.le_trans (Int.le_of_lt m1b) (by decide)
      refine ⟨_, rfl, _, rfl, _, _, rfl, rfl, .inl ⟨by decide, by decide⟩, _, _, rfl, rfl, _, _, rfl, rfl, .inl ⟨by omega, by omega⟩, _, rfl, _, _, rfl, rfl, .inl ⟨by decide, by decide⟩, _, rfl, _, _, rfl, rfl, .inr ⟨by omega, by omega⟩, _, _, rfl, rfl, _, _, rfl, rfl, _, _, rfl, rfl, ⟨by decide, by decide, bnd3 m1a m1c h4 (by omega) (by decide) (by decide) (by decide) (by decide) (by decide) (by decide)⟩, .inl ⟨_, rfl, _, _, rfl, rfl, (by show (_ : Int) ≠ 0; decide), ?_⟩⟩
      refine genI (P := fun v => gName 5 v _ _ _) (fun m2 => ?_)
      refine ⟨_, rfl, _, _, rfl, rfl, ⟨by decide, by decide⟩, .inl ⟨_, rfl, _, rfl, _, _, rfl, rfl, m0, ?_⟩⟩
      exact fin _ (t + 1) _ _ mv2 a2 (by omega) (by omega)
/-- one of some things -/
def sp_law_one (K : PySem.W.Frag) : Sp := fun vs H Q _ => ∃ (a b c : Addr) (xs : List V) (n : Nat), vs = [.ref a, .ref b] ∧ SqL K H b xs ∧ xs ≠ [] ∧ xs.length ≤ 1000000 ∧ Wh H a c n ∧ n < 1000000 ∧ (∀ H', Mv a H H' → SqL K H' b xs) ∧ ∀ (v : V) (H' : Hp), v ∈ xs → Mv a H H' → Wh H' a c (n + 1) → Q v H'
theorem ok_law_one : FnOk P w K mg base CX0 2 T.f_law_one T.fd_law_one ["ferry", "some"] (sp_law_one K) := by
  refine T.F_law_one.ok sc_law_one (fun vs H Q E h => ?_) (fun cdv A outer s H vs Q E hr h => ?_)
  · obtain ⟨a, b, c, xs, n, rfl, _⟩ := h
    rfl
  · obtain ⟨a, b, c, xs, n, rfl, hs, hx, hl, hw, hn, hm, q⟩ := h
    refine ⟨_, (pss_one (ps_ret (pe_ix ix_list (pv 1) (pe_call (ok_law_row T) (hr.mono (by decide)) (by rfl) T.g_law_row T.F_law_row.kp T.b_law_row .nil pass0 (pa_cons (pv 0) (pa_cons (pe_callB call_len_seq (by rfl) T.m_len PySem.boot_len (pa_cons (pv 1) pa_nil)) pa_nil))) (fun _ _ => rfl)))), ?_⟩
    have z : 0 < xs.length := by
      cases xs with
      | nil => exact absurd rfl hx
      | cons x t => simp
    refine ⟨_, rfl, _, rfl, _, rfl, b, xs, rfl, .inl hs, a, c, _, n, rfl, by omega, by omega, hw, hn, fun r H' r0 r1 mv w' => ?_⟩
    obtain ⟨v, hv, ev⟩ := at_lt r0 r1
    exact ⟨b, xs, r, v, rfl, rfl, hm _ mv, ev, q v H' hv mv w'⟩
def sp_law_ferry (K : PySem.W.Frag) : Sp := fun vs H Q _ => ∃ (b : Addr) (xs : List Int), vs = [.ref b] ∧ SqL K H b (xs.map V.int) ∧ ∀ (a c : Addr) (H' : Hp), H a = none → Same H H' → Wh H' a c 0 → Q (.ref a) H'
theorem ok_law_ferry : FnOk P w K mg base CX0 1 T.f_law_ferry T.fd_law_ferry ["script"] (sp_law_ferry K) := by
  refine T.F_law_ferry.ok sc_law_ferry (fun vs H Q E h => ?_) (fun cdv A outer s H vs Q E hr h => ?_)
  · obtain ⟨b, xs, rfl, _⟩ := h
    rfl
  · obtain ⟨b, xs, rfl, hs, q⟩ := h
    refine ⟨_, (pss_one (ps_ret (pe_lst (pa_cons (pe_lc (own := [("cell", 1)]) rfl sc_law_ferry.nd (pi_list (pe_slice sl_list (pv 0) po_none (po_some pe_int))) (blkOk_by (own := [("cell", 1)]) (N := ["script", "cell"]) (sc := defScope s_law_ferry) (by decide +kernel)) (fun _ _ _ _ _ => (pg_name (i := 1) sc_law_ferry.nd rfl (.inl rfl))) (fun _ _ _ _ _ => pts_nil) (fun _ _ _ _ _ => (pe_callTy call_int1 (by rfl) T.m_int (by decide +kernel) (pa_cons (pv 1) pa_nil)))) (pa_cons pe_int (pa_cons pe_int pa_nil)))))), ?_⟩
    refine ⟨_, rfl, _, rfl, b, _, rfl, hs, fun p np => ?_⟩
    have hc : cutV (xs.map V.int) none (some 60) = (xs.take 60).map V.int := by
      rw [List.map_take]
      exact cut_to _ 60
    rw [hc]
    refine ⟨p, rfl, ⟨_, .inl (.inl upd_same)⟩, fun D nD => lc_mapL id (.inl (.inl upd_same)) nD (by rw [List.length_map, List.length_take]; omega) (fun i x Hc Q' R' hx e1 q' => ?_) (fun Hc e1 hD => ?_)⟩
    · obtain ⟨j, _, rfl⟩ := List.mem_map.mp (List.mem_of_getElem? hx)
      refine ⟨rfl, ?_⟩
      refine iteT (B := True) ?_
      exact ⟨_, rfl, .inl ⟨j, rfl, q' Hc (Same.refl _)⟩⟩
    · rw [List.map_id] at hD
      have s0 := (same_new np).trans e1
      refine ⟨by show 3 ≤ sizeLine; decide, fun a na => q a D _ (s0.free na) (s0.trans (same_new na)) ⟨xs.take 60, 0, 0, upd_same, (same_new na) _ _ hD, ?_, by omega, by omega⟩⟩
      rw [List.length_take]
      omega
theorem lenS {t : List Nat} : ((S t).length : Int) = (t.length : Int) := by rw [S_len]
def sp_law_done (K : PySem.W.Frag) : Sp := fun vs H Q _ => ∃ (t u : List Nat) (p : Addr) (e : Ed), vs = [.str (S t), .ref p] ∧ t.length ≤ 200000 ∧ SqQ K H p e.vs ∧ doE t e = some u ∧ Q (.str (S u)) H
theorem ok_law_done : FnOk P w K mg base CX0 1 T.f_law_done T.fd_law_done ["text", "edit"] (sp_law_done K) := by
  refine T.F_law_done.ok sc_law_done (fun vs H Q E h => ?_) (fun cdv A outer s H vs Q E hr h => ?_)
  · obtain ⟨t, u, p, e, rfl, _⟩ := h
    rfl
  · obtain ⟨t, u, p, e, rfl, hl, hq, hd, q⟩ := h
    refine ⟨_, (pss_cons (ps_set (i := 2) sc_law_done.nd rfl (.inl rfl) (pe_ix ix_seq (pv 1) pe_int (fun _ _ => rfl)))
    (pss_cons (ps_if (pt_cmpR op_eq (pe_ix ix_seq (pv 1) pe_int (fun _ _ => rfl)) pe_str (nomark _))
      (pss_one (ps_ret (pe_ifExp (pt_chain op_le op_le pe_int (pv 2) (pe_callB call_len_str (by rfl) T.m_len PySem.boot_len (pa_cons (pv 0) pa_nil))) (pe_op op_add_str (pe_op op_add_str (pe_slice C8.sl_txt (pv 0) po_none (po_some (pv 2))) (pe_ix ix_seq (pv 1) pe_int (fun _ _ => rfl))) (pe_slice C8.sl_txt (pv 0) (po_some (pv 2)) po_none)) pe_non)))
      pss_nil)
    (pss_cons (ps_if (PW.pt (pw_or (pt_not (pt_chain op_le op_lt pe_int (pv 2) (pe_callB call_len_str (by rfl) T.m_len PySem.boot_len (pa_cons (pv 0) pa_nil)))) (pw_or1 (PW.pt (pw_and (pt_cmpR op_eq (pe_ix ix_seq (pv 1) pe_int (fun _ _ => rfl)) pe_str (nomark _)) (pw_and1 (pt_cmpR op_eq (pe_ix ix_seq (pv 1) pe_int (fun _ _ => rfl)) (pe_ix ix_str (pv 0) (pv 2) (fun _ _ => rfl)) (nomark _))))))))
      (pss_one (ps_ret pe_non))
      pss_nil)
    (pss_one (ps_ret (pe_op op_add_str (pe_op op_add_str (pe_slice C8.sl_txt (pv 0) po_none (po_some (pv 2))) (pe_ifExp (pt_cmpR op_eq (pe_ix ix_seq (pv 1) pe_int (fun _ _ => rfl)) pe_str (nomark _)) (pe_ix ix_seq (pv 1) pe_int (fun _ _ => rfl)) pe_str)) (pe_slice C8.sl_txt (pv 0) (po_some (pe_op op_add (pv 2) pe_int)) po_none))))))), ?_⟩
    have a0 : ∀ a : Nat, decide ((0 : Int) ≤ (a : Int)) = true := fun a => decide_eq_true (by omega)
    cases e with
    | put a c =>
      obtain ⟨⟨h1, h2⟩, rfl⟩ := inv_put hd
      refine go_seq (go_asg ⟨_, rfl, ix_q hq (v := .int (a : Nat)) rfl ?_⟩)
      dsimp only [gName]
      refine go_seq (go_if (go_test ⟨_, rfl, ix_q hq (v := .str "put") rfl ⟨rfl, _, rfl, iteT (B := _) ?_⟩⟩))
      refine go_ret ⟨_, rfl, _, _, rfl, rfl, _, rfl, cutTr (a0 a) ⟨_, rfl, S t, rfl, len_le hl, _, _, rfl, rfl, _, rfl, cutTr (by rw [lenS]; exact decide_eq_true (by omega)) ?_⟩⟩
      refine go_op (go_op ⟨_, rfl, _, rfl, (a : Int), rfl, S t, rfl, len_le hl, ?_⟩)
      rw [cut_toN]
      refine ⟨_, rfl, ix_q hq (v := .str (S [c])) rfl ⟨_, _, rfl, rfl, app_le (by rw [List.length_take]; show _ + 1 ≤ _; omega), ?_⟩⟩
      rw [S_app]
      refine ⟨_, rfl, _, rfl, (a : Int), rfl, S t, rfl, len_le hl, ?_⟩
      rw [cut_fromN]
      refine ⟨_, _, rfl, rfl, app_le (by rw [List.length_append, List.length_take, List.length_drop]; show _ + 1 + _ ≤ _; omega), ?_⟩
      rw [S_app]
      exact q
    | lost a =>
      obtain ⟨h1, rfl⟩ := inv_lost hd
      refine go_seq (go_asg ⟨_, rfl, ix_q hq (v := .int (a : Nat)) rfl ?_⟩)
      dsimp only [gName]
      refine go_seq (go_if (go_test ⟨_, rfl, ix_q hq (v := .str "lost") rfl ⟨rfl, _, rfl, iteF (A := _) ?_⟩⟩))
      dsimp only [tNext]
      refine go_seq (go_if (go_or2 (go_not ⟨_, rfl, _, _, rfl, rfl, _, rfl, cutTr (a0 a) ⟨_, rfl, S t, rfl, len_le hl, _, _, rfl, rfl, _, rfl, ?_⟩⟩)))
      have : decide ((a : Int) < ((S t).length : Int)) = true := by rw [lenS]; exact decide_eq_true (by omega)
      rw [this]
      refine iteF (A := _) (go_and2 (go_test ⟨_, rfl, ix_q hq (v := .str "lost") rfl ⟨rfl, _, rfl, iteF (A := _) (iteF (A := _) ?_)⟩⟩))
      dsimp only [tNext]
      refine go_ret (go_op (go_op ⟨_, rfl, _, rfl, (a : Int), rfl, S t, rfl, len_le hl, ?_⟩))
      rw [cut_toN]
      refine ⟨_, rfl, ix_q hq (v := .str "lost") rfl ⟨rfl, _, rfl, iteF (A := _) ?_⟩⟩
      refine ⟨_, S [], rfl, rfl, app_le (by rw [List.length_take]; show _ + 0 ≤ _; omega), ?_⟩
      rw [S_app]
      refine ⟨_, rfl, _, rfl, (a : Int), 1, rfl, rfl, (a : Int) + 1, rfl, S t, rfl, len_le hl, ?_⟩
      rw [cut_fromN1]
      refine ⟨_, _, rfl, rfl, app_le (by rw [List.length_append, List.length_take, List.length_drop]; show _ + 0 + _ ≤ _; omega), ?_⟩
      rw [S_app, List.append_nil]
      exact q
    | chg a c =>
      obtain ⟨⟨h1, h2⟩, rfl⟩ := inv_chg hd
      refine go_seq (go_asg ⟨_, rfl, ix_q hq (v := .int (a : Nat)) rfl ?_⟩)
      dsimp only [gName]
      refine go_seq (go_if (go_test ⟨_, rfl, ix_q hq (v := .str "changed") rfl ⟨rfl, _, rfl, iteF (A := _) ?_⟩⟩))
      dsimp only [tNext]
      refine go_seq (go_if (go_or2 (go_not ⟨_, rfl, _, _, rfl, rfl, _, rfl, cutTr (a0 a) ⟨_, rfl, S t, rfl, len_le hl, _, _, rfl, rfl, _, rfl, ?_⟩⟩)))
      have : decide ((a : Int) < ((S t).length : Int)) = true := by rw [lenS]; exact decide_eq_true (by omega)
      rw [this]
      have e3 : decide (V.str (S [c]) = V.str ⟨#[t.getD a 0]⟩) = false := by
        rw [decide_eq_false]
        intro z
        injection z with z
        have := congrArg (fun x : Str => x.cps.toList) z
        exact h2 (by simpa using this.symm)
      refine iteF (A := _) (go_and2 (go_test ⟨_, rfl, ix_q hq (v := .str "changed") rfl ⟨rfl, _, rfl, iteT (B := _) ?_⟩⟩))
      refine go_test ⟨_, rfl, ix_q hq (v := .str (S [c])) rfl ⟨_, rfl, _, rfl, S t, (a : Int), t.getD a 0, rfl, rfl, len_le hl, sgetD h1, rfl, _, rfl, cutIf e3 ?_⟩⟩
      dsimp only [tNext]
      refine go_ret (go_op (go_op ⟨_, rfl, _, rfl, (a : Int), rfl, S t, rfl, len_le hl, ?_⟩))
      rw [cut_toN]
      refine ⟨_, rfl, ix_q hq (v := .str "changed") rfl ⟨rfl, _, rfl, iteT (B := _) ?_⟩⟩
      refine ⟨_, rfl, ix_q hq (v := .str (S [c])) rfl ⟨_, _, rfl, rfl, app_le (by rw [List.length_take]; show _ + 1 ≤ _; omega), ?_⟩⟩
      rw [S_app]
      refine ⟨_, rfl, _, rfl, (a : Int), 1, rfl, rfl, (a : Int) + 1, rfl, S t, rfl, len_le hl, ?_⟩
      rw [cut_fromN1]
      refine ⟨_, _, rfl, rfl, app_le (by rw [List.length_append, List.length_take, List.length_drop]; show _ + 1 + _ ≤ _; omega), ?_⟩
      rw [S_app]
      exact q
def sp_law_edit (K : PySem.W.Frag) : Sp := fun vs H Q _ => ∃ (a c : Addr) (t sgs : List Nat) (n : Nat), vs = [.ref a, .str (S t), .str (S sgs)] ∧ Wh H a c n ∧ n < 900000 ∧ t.length ≤ 100 ∧ sgs ≠ [] ∧ sgs.length ≤ 50 ∧ (∀ x ∈ sgs, sg x = true) ∧
  ∀ (p : Addr) (e : Ed) (u : List Nat) (H' : Hp), e.ok = true → doE t e = some u → H' p = some (.tup e.vs) → Mv a H H' → Wh H' a c (n + 10) → Q (.ref p) H'
theorem ok_law_edit : FnOk P w K mg base CX0 3 T.f_law_edit T.fd_law_edit ["ferry", "text", "signs"] (sp_law_edit K) := by
  refine T.F_law_edit.ok sc_law_edit (fun vs H Q E h => ?_) (fun cdv A outer s H vs Q E hr h => ?_)
  · obtain ⟨a, c, t, sgs, n, rfl, _⟩ := h
    rfl
  · obtain ⟨a, c, t, sgs, n, rfl, wh, hn, ht, hs0, hs1, hsg, q⟩ := h
    refine ⟨_, (pss_cons (ps_par (i := 3) (j := 4) rfl sc_law_edit.nd rfl rfl (by decide) rfl rfl (pa_cons (pe_call (ok_law_row T) (hr.mono (by decide)) (by rfl) T.g_law_row T.F_law_row.kp T.b_law_row .nil pass0 (pa_cons (pv 0) (pa_cons pe_int pa_nil))) (pa_cons (pe_call (ok_law_one T) (hr.mono (by decide)) (by rfl) T.g_law_one T.F_law_one.kp T.b_law_one .nil pass0 (pa_cons (pv 0) (pa_cons (pe_callTy (call_list_txt rfl) (by rfl) T.m_list (by decide +kernel) (pa_cons (pv 2) pa_nil)) pa_nil))) pa_nil)) (by rfl))
    (pss_cons (ps_if (PW.pt (pw_or (pt_cmpR op_eq (pv 1) pe_str (nomark _)) (pw_or1 (pt_cmpR op_eq (pv 3) pe_int (nomark _)))))
      (pss_one (ps_ret (pe_tup (pa_cons pe_str (pa_cons (pe_call (ok_law_row T) (hr.mono (by decide)) (by rfl) T.g_law_row T.F_law_row.kp T.b_law_row .nil pass0 (pa_cons (pv 0) (pa_cons (pe_op op_add (pe_callB call_len_str (by rfl) T.m_len PySem.boot_len (pa_cons (pv 1) pa_nil)) pe_int) pa_nil))) (pa_cons (pv 4) pa_nil))))))
      pss_nil)
    (pss_cons (ps_set (i := 5) sc_law_edit.nd rfl (.inl rfl) (pe_call (ok_law_row T) (hr.mono (by decide)) (by rfl) T.g_law_row T.F_law_row.kp T.b_law_row .nil pass0 (pa_cons (pv 0) (pa_cons (pe_callB call_len_str (by rfl) T.m_len PySem.boot_len (pa_cons (pv 1) pa_nil)) pa_nil))))
    (pss_cons (ps_if (pt_cmpR op_eq (pv 3) pe_int (nomark _))
      (pss_one (ps_ret (pe_tup (pa_cons pe_str (pa_cons (pv 5) pa_nil)))))
      pss_nil)
    (pss_one (ps_ret (pe_ifExp (pt_cmpR op_ne (pe_ix ix_str (pv 1) (pv 5) (fun _ _ => rfl)) (pv 4) (nomark _)) (pe_tup (pa_cons pe_str (pa_cons (pv 5) (pa_cons (pv 4) pa_nil)))) (pe_tup (pa_cons pe_str (pa_cons (pv 5) pa_nil)))))))))), ?_⟩
    refine go_seq ⟨_, rfl, a, c, 3, n, rfl, by decide, by decide, wh, by omega, fun way H1 y0 y1 m1 w1 => ?_⟩
    refine ⟨_, rfl, _, rfl, sgs, rfl, by omega, fun p np => ?_⟩
    have hpa := w1.ne np
    have ne : signsV sgs ≠ [] := by
      cases sgs with
      | nil => exact absurd rfl hs0
      | cons x r => exact fun z => by cases z
    refine ⟨a, p, c, signsV sgs, _, rfl, .inl (.inl upd_same), ne, by rw [show (signsV sgs).length = sgs.length from List.length_map ..]; omega, w1.new np, by omega, fun H' m => .inl (.inl (m _ _ hpa upd_same)), fun v H2 hv m2 w2 => ?_⟩
    obtain ⟨g, hg, rfl⟩ := in_signs hv
    have hgs := hsg g hg
    have mA : Mv a H H2 := m1.trans ((Mv.of (same_new np)).trans m2)
    clear hv m1 m2 w1 np hpa
    refine ⟨_, _, rfl, ?_⟩
    dsimp only
    have ht2 : t.length ≤ 200000 := by omega
    have mk : ∀ (e : Ed) (H3 : Hp) (k : Nat), e.ok = true → (∃ u, doE t e = some u) → Mv a H H3 → Wh H3 a c (n + k) → k ≤ 10 → ∀ p, H3 p = none → Q (.ref p) (upd H3 p (.tup e.vs)) := fun e H3 k he hd m3 w3 hk p np => by
      obtain ⟨u, hu⟩ := hd
      exact q p e u _ he hu upd_same (m3.trans (Mv.of (same_new np))) ((w3.new np).lt (by omega))
    have nput : ∀ (H3 : Hp) (z : Int), Mv a H2 H3 → Wh H3 a c (n + 1 + 1 + 1) → 0 ≤ z → z < (t.length : Int) + 1 → ∀ p, H3 p = none → Q (.ref p) (upd H3 p (.tup [.str "put", .int z, .str (S [g])])) := fun H3 z m3 w3 z0 z1 p np => by
      obtain ⟨y, rfl⟩ : ∃ y : Nat, z = y := ⟨z.toNat, by omega⟩
      exact mk (.put y g) H3 3 hgs ⟨_, if_pos ⟨by omega, by omega⟩⟩ (mA.trans m3) w3 (by omega) p np
    have lS : (1 : Int) ≤ ((S t).length : Int) + 1 := by rw [lenS]; omega
    have lS2 : ((S t).length : Int) + 1 ≤ 1000000 := by rw [lenS]; omega
    have dp : ∀ (σ : L2.St), σ[0]? = some (some (.ref a)) → σ[1]? = some (some (.str (S t))) → σ[4]? = some (some (.str (S [g]))) → ∀ {t1 : TE}, t1 = tTup (tCons (tC (.str "put")) (tCons (tCall (sp_law_row K) [] E0 (tCons (tVar 0) (tCons (tOp (rI0 fun i j => .int (i + j)) (tCB (fun xs H Q => ∃ z, xs = [.str z] ∧ z.length ≤ sizeLine ∧ Q (.int z.length) H) (tCons (tVar 1) tNil)) (tC (.int 1))) tNil))) (tCons (tVar 4) tNil))) → t1 σ H2 Q := fun σ h0 h1 h4 t1 e => by
      rw [e]
      refine go_tup (go_cons (go_c (go_cons ⟨_, h0, _, h1, S t, rfl, len_le ht2, _, _, rfl, rfl, a, c, ((S t).length : Int) + 1, n + 1 + 1, rfl, by omega, lS2, w2, by omega, fun r H3 r0 r1 m3 w3 => go_cons ⟨_, h4, go_nil ⟨sz3, fun p np => ?_⟩⟩⟩)))
      exact nput H3 r m3 w3 r0 (by rw [lenS] at r1; exact r1) p np
    cases hE : t.isEmpty with
    | true =>
      refine go_seq (go_if (go_or2 (go_test ⟨_, rfl, rfl, _, rfl, cutTr (by rw [S_nil]; exact hE) (iteT (B := _) ?_)⟩)))
      exact go_ret (dp _ rfl rfl rfl rfl)
    | false =>
      refine go_seq (go_if (go_or2 (go_test ⟨_, rfl, rfl, _, rfl, cutIf (by rw [S_nil]; exact hE) (go_test ⟨_, rfl, rfl, _, rfl, iteC (fun _ => ?_) (fun hw => ?_)⟩)⟩)))
      · exact go_ret (dp _ rfl rfl rfl rfl)
      have lt0 : 0 < t.length := by
        cases t with
        | nil => cases hE
        | cons x r => exact Nat.succ_pos _
      dsimp only [tNext]
      refine go_seq (go_asg ⟨_, rfl, _, rfl, S t, rfl, len_le ht2, a, c, ((S t).length : Int), n + 1 + 1, rfl, by rw [lenS]; omega, by rw [lenS]; omega, w2, by omega, fun r H3 r0 r1 m3 w3 => ?_⟩)
      rw [lenS] at r1
      obtain ⟨z, rfl⟩ : ∃ z : Nat, r = z := ⟨r.toNat, by omega⟩
      have hz : z < t.length := by omega
      have mL : ∀ p, H3 p = none → Q (.ref p) (upd H3 p (.tup [.str "lost", .int (z : Nat)])) := fun p np => mk (.lost z) H3 3 rfl ⟨_, if_pos hz⟩ (mA.trans m3) w3 (by omega) p np
      dsimp only [gName]
      refine go_seq (go_if (go_test ⟨_, rfl, rfl, _, rfl, iteC (fun _ => ?_) (fun _ => ?_)⟩))
      · exact go_ret (go_tup (go_cons (go_c (go_cons (go_var rfl (go_nil ⟨sz2, mL⟩))))))
      dsimp only [tNext]
      refine go_ret ⟨_, rfl, _, rfl, S t, (z : Int), t.getD z 0, rfl, rfl, len_le ht2, sgetD hz, _, rfl, rfl, _, rfl, iteC (fun hh => ?_) (fun hh => ?_)⟩
      · refine go_tup (go_cons (go_c (go_cons (go_var rfl (go_cons (go_var rfl (go_nil ⟨sz3, fun p np => ?_⟩)))))))
        refine mk (.chg z g) H3 3 hgs ⟨_, if_pos ⟨hz, fun e => ?_⟩⟩ (mA.trans m3) w3 (by omega) p np
        rw [e] at hh
        simp at hh
      · exact go_tup (go_cons (go_c (go_cons (go_var rfl (go_nil ⟨sz2, mL⟩)))))
def sp_law_damage (K : PySem.W.Frag) : Sp := fun vs H Q _ => ∃ (a c : Addr) (t sgs : List Nat) (m n : Nat), vs = [.ref a, .str (S t), .int (m : Nat), .str (S sgs)] ∧ Wh H a c n ∧ n < 800000 ∧ t.length + m ≤ 90 ∧ sgs ≠ [] ∧ sgs.length ≤ 50 ∧ (∀ x ∈ sgs, sg x = true) ∧
  ∀ (p D : Addr) (es : List Ed) (u : List Nat) (H' : Hp), es.length = m → (∀ e ∈ es, e.ok = true) → Path t es u → EdsL H' D es → H' p = some (.tup [.ref D, .str (S u)]) → H D = none → Mv a H H' → Wh H' a c (n + 10 * m) → Q (.ref p) H'
theorem ok_law_damage : FnOk P w K mg base CX0 4 T.f_law_damage T.fd_law_damage ["ferry", "text", "many", "signs"] (sp_law_damage K) := by
  refine T.F_law_damage.ok sc_law_damage (fun vs H Q E h => ?_) (fun cdv A outer s H vs Q E hr h => ?_)
  · obtain ⟨a, c, t, sgs, m, n, rfl, _⟩ := h
    rfl
  · obtain ⟨a, c, t, sgs, m, n, rfl, wh, hn, ht, hs0, hs1, hsg, q⟩ := h
    refine ⟨_, (pss_cons (ps_set (i := 4) sc_law_damage.nd rfl (.inl rfl) (pe_lst pa_nil))
    (pss_cons (ps_for PassesOwn.never rfl (pi_range1 (by rfl) T.m_range (pa_cons (pv 2) pa_nil)) (pg_name (i := 5) sc_law_damage.nd rfl (.inl rfl))
      (pss_cons (ps_set (i := 6) sc_law_damage.nd rfl (.inl rfl) (pe_call (ok_law_edit T) (hr.mono (by decide)) (by rfl) T.g_law_edit T.F_law_edit.kp T.b_law_edit .nil pass0 (pa_cons (pv 0) (pa_cons (pv 1) (pa_cons (pv 3) pa_nil)))))
      (pss_cons (ps_expr (pe_bm PySem.F.plainAttrs_list PySem.F.slot_list_append PySem.F.type_list_append mt_append (pv 4) (pa_cons (pv 6) pa_nil)))
      (pss_one (ps_set (i := 1) sc_law_damage.nd rfl (.inl rfl) (pe_call (ok_law_done T) (hr.mono (by decide)) (by rfl) T.g_law_done T.F_law_done.kp T.b_law_done .nil pass0 (pa_cons (pv 1) (pa_cons (pv 6) pa_nil))))))))
    (pss_one (ps_ret (pe_tup (pa_cons (pv 4) (pa_cons (pv 1) pa_nil))))))), ?_⟩
    refine go_seq (go_asg (go_lst (go_nil ⟨Nat.zero_le _, fun D nD => ?_⟩)))
    have hDa := wh.ne nD
    have hDc := wh.nc nD
    have w1 := wh.new (o := HO.lst []) nD
    have e1 := same_new (o := HO.lst []) nD
    have hD : upd H D (HO.lst []) D = some (.lst []) := upd_same
    generalize upd H D (HO.lst []) = H1 at w1 e1 hD ⊢
    dsimp only [gName]
    refine go_seq ⟨_, rfl, (m : Int), rfl, by omega, by omega, for_range (lo := 0) (n := ((m : Nat) : Int).toNat) (fun i σ H' => ∃ (o5 o6 : Option V) (es : List Ed) (u : List Nat), σ = [some (.ref a), some (.str (S u)), some (.int (m : Nat)), some (.str (S sgs)), some (.ref D), o5, o6] ∧ es.length = i ∧ (∀ e ∈ es, e.ok = true) ∧ Path t es u ∧ EdsL H' D es ∧ Mv a H H' ∧ Wh H' a c (n + 10 * i))
      ⟨none, none, [], t, rfl, rfl, (fun e m => by cases m), .nil t, ⟨[], hD, rfl, fun i q e x y => by cases x⟩, Mv.of e1, w1⟩ (fun i σ' Hc hi h => ?_) (fun σ' Hc h => ?_)⟩
    · obtain ⟨o5, o6, es, u, rfl, le, ho, hp, hE, mv, wc⟩ := h
      rw [Int.toNat_natCast] at hi
      have lu := (Path.len hp).1
      dsimp only [gName]
      refine go_seq (go_asg ⟨_, rfl, _, rfl, _, rfl, a, c, u, sgs, n + 10 * i, rfl, wc, by omega, by omega, hs0, hs1, hsg, fun p e u' H2 he hd hq m2 w2 => ?_⟩)
      have hE2 : EdsL H2 D es := by
        obtain ⟨ps, h1, h2, h3⟩ := hE
        have na : ∀ {q : Addr} {e : Ed}, Hc q = some (.tup e.vs) → q ≠ a := fun h z => by
          obtain ⟨cs, t', l', g1, _⟩ := wc
          rw [z, g1] at h
          cases h
        exact ⟨ps, m2 _ _ hDa h1, h2, fun i q d x y => m2 _ _ (na (h3 i q d x y)) (h3 i q d x y)⟩
      have hpD : p ≠ D := fun z => by
        obtain ⟨ps, h1, _⟩ := hE2
        rw [z, h1] at hq
        cases hq
      dsimp only [gName]
      obtain ⟨ps, h1, h2, h3⟩ := id hE2
      refine go_seq ⟨_, rfl, .inl ⟨rfl, _, .inl (.inl h1)⟩, _, rfl, D, _, _, rfl, rfl, h1, ?_, ?_⟩
      · rw [List.length_map, h2]
        exact Nat.lt_of_lt_of_le (show es.length < 100 by omega) (by decide)
      have hE3 : EdsL (upd H2 D (.lst (ps.map V.ref ++ [.ref p]))) D (es ++ [e]) := hE2.add (Mv.upd _ _ _) (by rw [upd_ne hpD]; exact hq) (fun ps' h => by
        rw [h1] at h
        injection h with h
        injection h with h
        rw [upd_same, h])
      have hq3 : upd H2 D (.lst (ps.map V.ref ++ [.ref p])) p = some (.tup e.vs) := by rw [upd_ne hpD]; exact hq
      have w3 : Wh (upd H2 D (.lst (ps.map V.ref ++ [.ref p]))) a c (n + 10 * i + 10) := w2.set hDa hDc
      have m3 : Mv a H (upd H2 D (.lst (ps.map V.ref ++ [.ref p]))) := fun b o nb hb => by
        rw [upd_ne (ne_of_none hb nD)]
        exact (mv.trans m2) b o nb hb
      generalize upd H2 D (.lst (ps.map V.ref ++ [.ref p])) = H3 at hE3 hq3 w3 m3 ⊢
      dsimp only
      refine go_asg ⟨_, rfl, _, rfl, u, u', p, e, rfl, by omega, .inr (.inl (.inl hq3)), hd, ?_⟩
      dsimp only [gName]
      refine ⟨_, _, es ++ [e], u', rfl, by rw [List.length_append, le]; rfl, fun x hx => ?_, hp.snoc hd, hE3, m3, w3.lt (by omega)⟩
      rcases List.mem_append.mp hx with hx | hx
      · exact ho x hx
      · rw [List.mem_singleton.mp hx]
        exact he
    · obtain ⟨o5, o6, es, u, rfl, le, ho, hp, hE, mv, wc⟩ := h
      rw [Int.toNat_natCast] at le wc
      refine go_ret (go_tup (go_cons (go_var rfl (go_cons (go_var rfl (go_nil ⟨sz2, fun p np => ?_⟩))))))
      exact q p D es u _ le ho hp (hE.same (same_new np)) upd_same nD (mv.trans (Mv.of (same_new np))) (wc.new np)
/-- H without what is a text's sign -/
def sp_law_text (K : PySem.W.Frag) : Sp := fun vs H Q _ => ∃ (a c : Addr) (m n : Nat), vs = [.ref a, .int (m : Nat)] ∧ Wh H a c n ∧ n < 800000 ∧ m ≤ 400 ∧ ∀ (l : List Nat) (H' : Hp), l.length ≤ m → (∀ x ∈ l, sg x = true) → Mv a H H' → Wh H' a c (n + m + 3) → Q (.str (S l)) H'
theorem ok_law_text : FnOk P w K mg base CX0 3 T.f_law_text T.fd_law_text ["ferry", "most"] (sp_law_text K) := by
  refine T.F_law_text.ok sc_law_text (fun vs H Q E h => ?_) (fun cdv A outer s H vs Q E hr h => ?_)
  · obtain ⟨a, c, m, n, rfl, _⟩ := h
    rfl
  · obtain ⟨a, c, m, n, rfl, wh, hn, hm, q⟩ := h
    refine ⟨_, (pss_cons (ps_set (i := 2) sc_law_text.nd rfl (.inr rfl) (pe_call (ok_law_one T) (hr.mono (by decide)) (by rfl) T.g_law_one T.F_law_one.kp T.b_law_one .nil pass0 (pa_cons (pv 0) (pa_cons (pe_lst (pa_cons pe_str (pa_cons pe_str (pa_cons pe_str (pa_cons pe_str (pa_cons pe_str pa_nil)))))) pa_nil))))
    (pss_one (ps_ret (pe_join pe_str (pe_lc (own := [("turn", 3)]) rfl sc_law_text.nd (pi_range1 (by rfl) T.m_range (pa_cons (pe_call (ok_law_row T) (hr.mono (by decide)) (by rfl) T.g_law_row T.F_law_row.kp T.b_law_row .nil pass0 (pa_cons (pv 0) (pa_cons (pe_op op_add (pv 1) pe_int) pa_nil))) pa_nil)) (blkOk_by (own := [("turn", 3)]) (N := ["ferry", "most", "signs", "turn"]) (sc := defScope s_law_text) (by decide +kernel)) (fun _ _ _ _ _ => (pg_name (i := 3) sc_law_text.nd rfl (.inl rfl))) (fun _ _ _ _ _ => pts_nil) (fun _ _ _ _ _ => (pe_call (ok_law_one T) (hr.mono (by decide)) (by rfl) T.g_law_one T.F_law_one.kp T.b_law_one .nil pass0 (pa_cons (pv 0) (pa_cons (pe_callTy (call_list_txt rfl) (by rfl) T.m_list (by decide +kernel) (pa_cons (pv 2) pa_nil)) pa_nil))))))))), ?_⟩
    refine go_seq (go_asg ⟨_, rfl, show 5 ≤ sizeLine by decide, fun p np => ?_⟩)
    have hpa := wh.ne np
    refine ⟨a, p, c, _, n, rfl, .inl (.inl upd_same), by simp, (show 5 ≤ 1000000 by decide), wh.new np, by omega, fun H' m => .inl (.inl (m _ _ hpa upd_same)), fun v H1 hv m1 w1 => ?_⟩
    obtain ⟨sgs, rfl, hs0, hs1, hsg⟩ : ∃ sgs : List Nat, v = .str (S sgs) ∧ sgs ≠ [] ∧ sgs.length ≤ 50 ∧ ∀ x ∈ sgs, sg x = true := by
      simp only [List.mem_cons, List.not_mem_nil, or_false] at hv
      rcases hv with rfl | rfl | rfl | rfl | rfl
      · exact ⟨[97, 98, 32], rfl, by simp, by simp, by decide⟩
      · exact ⟨[97, 98, 99, 100, 101, 102, 103, 104, 32, 32], rfl, by simp, by simp, by decide⟩
      · exact ⟨[97, 32], rfl, by simp, by simp, by decide⟩
      · exact ⟨[32, 122], rfl, by simp, by simp, by decide⟩
      · exact ⟨[110, 111, 116, 104, 105, 103, 32, 32], rfl, by simp, by simp, by decide⟩
    have mA : Mv a H H1 := (Mv.of (same_new np)).trans m1
    clear hv m1 np hpa
    have nes : signsV sgs ≠ [] := by
      cases sgs with
      | nil => exact absurd rfl hs0
      | cons x r => exact fun z => by cases z
    dsimp only [gName]
    refine go_ret ⟨⟨_, rfl⟩, _, rfl, _, rfl, _, _, rfl, rfl, a, c, (m : Int) + 1, n + 1, rfl, by omega, by omega, w1, by omega, fun k0 H2 k00 k01 m2 w2 => ?_⟩
    obtain ⟨k, rfl⟩ : ∃ k : Nat, k0 = k := ⟨k0.toNat, by omega⟩
    refine ⟨(k : Int), rfl, by omega, by omega, fun D nD => lc_range (lo := 0) (n := (k : Int).toNat) (fun j H' => ∃ xs : List Nat, H' D = some (.lst (signsV xs)) ∧ Mv a H2 H' ∧ Wh H' a c (n + 2 + j) ∧ xs.length = j ∧ ∀ x ∈ xs, sg x = true)
      ⟨[], upd_same, Mv.of (same_new nD), w2.new nD, rfl, fun x h => by cases h⟩ (fun j Hd hj h => ?_) (fun Hd h => ?_)⟩
    · obtain ⟨xs, hD, m4, w4, lx, vx⟩ := h
      rw [Int.toNat_natCast] at hj
      refine ⟨rfl, ?_⟩
      refine iteT (B := True) ?_
      refine ⟨_, rfl, _, rfl, sgs, rfl, by omega, fun p np => ?_⟩
      have hpa := w4.ne np
      refine ⟨a, p, c, signsV sgs, _, rfl, .inl (.inl upd_same), nes, by rw [show (signsV sgs).length = sgs.length from List.length_map ..]; omega, w4.new np, by omega, fun H' m => .inl (.inl (m _ _ hpa upd_same)), fun v H5 hv m5 w5 => ?_⟩
      obtain ⟨g, hg, rfl⟩ := in_signs hv
      have hDa := w2.ne nD
      have m6 := (Mv.of (same_new (o := HO.lst (signsV sgs)) np)).trans m5
      refine ⟨_, m6 _ _ hDa hD, ?_, xs ++ [g], ?_, ?_, ?_, ?_, ?_⟩
      · have e : (signsV xs).length = j := (List.length_map ..).trans lx
        rw [e]
        exact Nat.lt_of_lt_of_le (show j < 401 by omega) (by decide)
      · rw [upd_same]
        unfold signsV
        rw [List.map_append]
        rfl
      · intro b o' nb h
        rw [upd_ne (ne_of_none h nD)]
        exact (m4.trans m6) b o' nb h
      · exact (w5.lt (show n + 2 + j + 1 ≤ n + 2 + (j + 1) by omega)).set hDa (w2.nc nD)
      · rw [List.length_append, lx]
        rfl
      · intro x hx
        rcases List.mem_append.mp hx with hx | hx
        · exact vx x hx
        · rw [List.mem_singleton.mp hx]
          exact hsg g hg
    · obtain ⟨xs, hD, m4, w4, lx, vx⟩ := h
      rw [signs_map] at hD
      rw [Int.toNat_natCast] at lx w4
      refine ⟨"", D, xs.map fun c => S [c], rfl, rfl, .inl (.inl (.inl hD)), ?_, ?_⟩
      · rw [sum_signs, List.length_map]
        show xs.length + xs.length * 0 ≤ 16777216
        omega
      rw [join_signs]
      exact q xs Hd (by omega) vx (mA.trans (m2.trans m4)) (w4.lt (by omega))
end
end K06
namespace K06
open PySem PySem.Spec PyProof.Rows L2 Kx SX LamX Ms PnX
open Lev
def iv (d : List Nat) : List Int := d.map fun s : Nat => (s : Int)
def nv (d : List Nat) : List V := (iv d).map V.int
theorem nv_len (d : List Nat) : (nv d).length = d.length := by
  unfold nv iv
  rw [List.length_map, List.length_map]
theorem nv_app (d e : List Nat) : nv (d ++ e) = nv d ++ nv e := by
  unfold nv iv
  rw [List.map_append, List.map_append]
theorem nv_flat (d : List Nat) : (nv d).all flatV = true := by
  rw [List.all_eq_true]
  intro v hv
  obtain ⟨_, _, rfl⟩ := List.mem_map.mp hv
  rfl
theorem nv_mem {d : List Nat} {v : V} (h : v ∈ nv d) : ∃ z ∈ d, v = .int (z : Nat) := by
  obtain ⟨i, hi, rfl⟩ := List.mem_map.mp h
  obtain ⟨z, hz, rfl⟩ := List.mem_map.mp hi
  exact ⟨z, hz, rfl⟩
theorem iv_nil {d : List Nat} : iv d = [] ↔ d = [] := by
  unfold iv
  exact List.map_eq_nil_iff
theorem nv_at {d : List Nat} {s : Nat} (h : s < d.length) : atI (nv d) (s : Int) = some (.int (d.getD s 0 : Nat)) := by
  rw [at_nat (by rw [nv_len]; exact h)]
  unfold nv iv
  simp [List.getD_eq_getElem?_getD, h]
theorem nv_get {d : List Nat} {j : Nat} {x : V} (h : (nv d)[j]? = some x) : j < d.length ∧ x = V.int (d.getD j 0 : Nat) := by
  have hj := (List.getElem?_eq_some_iff.mp h).1
  rw [nv_len] at hj
  refine ⟨hj, ?_⟩
  have h2 := nv_at (d := d) hj
  rw [at_nat (by rw [nv_len]; exact hj)] at h2
  rw [List.getElem?_eq_getElem (by rw [nv_len]; exact hj)] at h
  exact (Option.some.inj (h2.symm.trans h)).symm
theorem getD_lt {f : List Nat} {j m : Nat} (hj : j < f.length) (h : ∀ s ∈ f, s < m) : f.getD j 0 < m := by
  rw [List.getD_eq_getElem?_getD, List.getElem?_eq_getElem hj]
  exact h _ (List.getElem_mem ..)
def rowD (one other : List Nat) (i j : Nat) : List Nat := (List.range (j + 1)).map (D one other i)
theorem rowD_len (one other : List Nat) (i j : Nat) : (rowD one other i j).length = j + 1 := by
  unfold rowD
  rw [List.length_map, List.length_range]
theorem rowD_get {one other : List Nat} {i j k : Nat} (h : k ≤ j) : (rowD one other i j).getD k 0 = D one other i k := by
  unfold rowD
  rw [List.getD_eq_getElem?_getD, List.getElem?_map, List.getElem?_range (by omega)]
  rfl
theorem rowD_at {one other : List Nat} {i j k : Nat} (h : k ≤ j) : atI (nv (rowD one other i j)) (k : Int) = some (.int (D one other i k : Nat)) := by
  rw [nv_at (by rw [rowD_len]; omega), rowD_get h]
theorem rowD_snoc (one other : List Nat) (i j : Nat) : nv (rowD one other i (j + 1)) = nv (rowD one other i j) ++ [V.int (D one other i (j + 1) : Nat)] := by
  have : rowD one other i (j + 1) = rowD one other i j ++ [D one other i (j + 1)] := by
    unfold rowD
    rw [List.range_succ, List.map_append]
    rfl
  rw [this, nv_app]
  rfl
theorem rg_nv (n : Nat) : rgV 0 (n : Int) = nv (List.range n) := by
  unfold rgV nv iv
  have : ((n : Int) - 0).toNat = n := by omega
  rw [this, List.map_map]
  refine List.map_congr_left fun i _ => ?_
  show V.int (0 + (i : Int)) = V.int i
  rw [Int.zero_add]
theorem rowD_zero (one other : List Nat) : List.range (other.length + 1) = rowD one other 0 other.length := by
  unfold rowD
  refine (List.ext_getElem (by rw [List.length_map]) fun j h1 h2 => ?_)
  rw [List.length_range] at h1
  rw [List.getElem_range, List.getElem_map, List.getElem_range, D_zero one other (by omega)]
theorem min3_int (a b c : Int) : ∃ z : Int, nuMin3 (.int a) (.int b) (.int c) = some (.int z) ∧ z ≤ a ∧ z ≤ b ∧ z ≤ c ∧ (z = a ∨ z = b ∨ z = c) := by
  refine ⟨if c < (if b < a then b else a) then c else (if b < a then b else a), ?_, ?_, ?_, ?_, ?_⟩
  · have h1 : nuMin2 (.int a) (.int b) = some (.int (if b < a then b else a)) := by
      show (some (decide (b < a))).map (fun c => if c = true then V.int b else V.int a) = _
      by_cases h : b < a
      · rw [decide_eq_true h, if_pos h]; rfl
      · rw [decide_eq_false h, if_neg h]; rfl
    show (nuMin2 (.int a) (.int b)).bind (fun m => nuMin2 m (.int c)) = _
    rw [h1]
    generalize (if b < a then b else a) = m
    show (some (decide (c < m))).map (fun d => if d = true then V.int c else V.int m) = _
    by_cases h : c < m
    · rw [decide_eq_true h, if_pos h]; rfl
    · rw [decide_eq_false h, if_neg h]; rfl
  all_goals (split <;> split <;> omega)
theorem same_put {H H' : Hp} {D : Addr} {o : HO} (nD : H D = none) (e : Same H H') : Same H (upd H' D o) := fun b u h => by
  rw [upd_ne (ne_of_none h nD)]
  exact e b u h
theorem same_none {H H1 : Hp} {D : Addr} (e : Same H H1) (n : H1 D = none) : H D = none := by
  cases h : H D with
  | none => rfl
  | some o => rw [e _ _ h] at n; cases n
theorem at_last {α : Type} {xs : List α} {n : Nat} (h : xs.length = n + 1) : atI xs (-1) = xs[n]? := by
  unfold atI
  rw [h, ixN_last]
  rfl
theorem textB_le {l : List Nat} (h : textB l = true) : l.length ≤ 200000 := by
  unfold textB at h
  simp only [Bool.and_eq_true, decide_eq_true_eq] at h
  omega
theorem at_get {α : Type} {xs : List α} {k : Nat} (h : k < xs.length) : atI xs (k : Int) = xs[k]? := by
  rw [at_nat h, List.getElem?_eq_getElem h]
theorem sgt {l : List Nat} {i c : Nat} (h : (S l).cps[i]? = some c) : l[i]? = some c := by
  have : (S l).cps[i]? = l[i]? := by simp [S]
  rw [← this]
  exact h
theorem sign_eq (c x : Nat) : decide (V.str (S [c]) = V.str (S [x])) = decide (c = x) := by
  by_cases h : c = x
  · subst h
    rw [decide_eq_true rfl, decide_eq_true rfl]
  · rw [decide_eq_false h, decide_eq_false]
    intro z
    injection z with z
    have : (S [c]).cps.toList = (S [x]).cps.toList := by rw [z]
    simp [S] at this
    exact h this
section
variable {P : Program} {w : World} {K : PySem.W.Frag} {mg : Str → Option Value} {base : Heap} (T : Tx K mg)
def sp_next_numbers : Sp := fun vs H Q _ => ∃ (A : Addr) (c i : Nat) (one other : List Nat), vs = [.ref A, .int ((i + 1 : Nat) : Int), .str (S [c]), .str (S other)] ∧ H A = some (.lst (nv (rowD one other i other.length))) ∧ one[i]? = some c ∧ other.length ≤ 1000 ∧ one.length ≤ 1000 ∧
  ∀ (R : Addr) (H' : Hp), Same H H' → H R = none → H' R = some (.lst (nv (rowD one other (i + 1) other.length))) → Q (.ref R) H'
theorem ok_next_numbers : FnOk P w K mg base CX0 1 T.f_next_numbers T.fd_next_numbers ["above", "first", "sign", "wanted"] sp_next_numbers := by
  refine T.F_next_numbers.ok sc_next_numbers (fun vs H Q E h => ?_) (fun cdv A outer s H vs Q E hr h => ?_)
  · obtain ⟨A, c, i, one, other, rfl, _⟩ := h
    rfl
  · obtain ⟨A, c, i, one, other, rfl, hA, hc, l2, l1, q⟩ := h
    refine ⟨_, (pss_cons (ps_set (i := 4) sc_next_numbers.nd rfl (.inl rfl) (pe_lst (pa_cons (pv 1) pa_nil)))
    (pss_cons (ps_for PassesOwn.never rfl (pi_enumS (by rfl) T.m_enumerate (pa_cons (pv 3) pa_nil)) (pg_tup rfl (pgs_cons (pg_name (i := 5) sc_next_numbers.nd rfl (.inl rfl)) (pgs_cons (pg_name (i := 6) sc_next_numbers.nd rfl (.inl rfl)) pgs_nil)))
      (pss_one (ps_if (pt_cmpR op_eq (pv 6) (pv 2) (nomark _))
        (pss_one (ps_expr (pe_bm PySem.F.plainAttrs_list PySem.F.slot_list_append PySem.F.type_list_append mt_append (pv 4) (pa_cons (pe_ix ix_list (pv 0) (pv 5) (fun _ _ => rfl)) pa_nil))))
        (pss_one (ps_expr (pe_bm PySem.F.plainAttrs_list PySem.F.slot_list_append PySem.F.type_list_append mt_append (pv 4) (pa_cons (pe_op op_add pe_int (pe_callB (call_min3Nu rfl) (by rfl) T.m_min (by decide +kernel) (pa_cons (pe_ix ix_list (pv 0) (pv 5) (fun _ _ => rfl)) (pa_cons (pe_ix ix_list (pv 0) (pe_op op_add (pv 5) pe_int) (fun _ _ => rfl)) (pa_cons (pe_ix ix_list (pv 4) (pv 5) (fun _ _ => rfl)) pa_nil))))) pa_nil)))))))
    (pss_one (ps_ret (pv 4))))), ?_⟩
    refine go_seq (go_asg (go_lst (go_cons (go_var rfl (go_nil ⟨sz1, fun R nR => ?_⟩)))))
    have hi := (List.getElem?_eq_some_iff.mp hc).1
    have e1 := same_new (o := HO.lst (nv (rowD one other (i + 1) 0))) nR
    have h0 : [V.int ((i + 1 : Nat) : Int)] = nv (rowD one other (i + 1) 0) := by
      show _ = [V.int (D one other (i + 1) 0 : Nat)]
      rw [D_zero2 one other (by omega)]
    rw [h0]
    have hR : upd H R (HO.lst (nv (rowD one other (i + 1) 0))) R = some (.lst (nv (rowD one other (i + 1) 0))) := upd_same
    generalize upd H R (HO.lst (nv (rowD one other (i + 1) 0))) = H1 at e1 hR ⊢
    dsimp only [gName]
    refine go_seq ⟨_, rfl, S other, rfl, for_it (walk_enumS (x := S other)) (fun j σ Hc => ∃ (o5 o6 : Option V), σ = [some (.ref A), some (.int ((i + 1 : Nat) : Int)), some (.str (S [c])), some (.str (S other)), some (.ref R), o5, o6] ∧ Same H Hc ∧ Hc R = some (.lst (nv (rowD one other (i + 1) j))))
      ⟨_, _, rfl, e1, hR⟩ (fun _ _ _ _ _ => trivial) (fun j x σ' Hc Hx hj p y => ?_) (fun σ' Hc p => ?_)⟩
    · clear hR e1
      obtain ⟨o5, o6, rfl, e1, hR⟩ := p
      obtain ⟨t, d, rfl, nt, rfl, hd⟩ := y
      have hd' := sgt hd
      have hj2 := (List.getElem?_eq_some_iff.mp hd').1
      have x1 := same_new (o := HO.tup [.int (j : Nat), .str ⟨#[d]⟩]) nt
      refine ⟨t, _, rfl, .inl (.inl upd_same), rfl, _, _, rfl, _, _, rfl, rfl, ?_⟩
      have e1 := e1.trans x1
      have hR := x1 _ _ hR
      generalize upd Hc t (HO.tup [.int (j : Nat), .str ⟨#[d]⟩]) = H2 at e1 hR ⊢
      clear x1 nt
      dsimp only
      have hA2 := e1 _ _ hA
      have lR := rowD_len one other (i + 1) j
      have add : ∀ z : Nat, z = D one other (i + 1) (j + 1) → Same H (upd H2 R (.lst (nv (rowD one other (i + 1) j) ++ [V.int (z : Nat)]))) ∧ upd H2 R (.lst (nv (rowD one other (i + 1) j) ++ [V.int (z : Nat)])) R = some (.lst (nv (rowD one other (i + 1) (j + 1)))) := fun z hz => by
        subst hz
        refine ⟨same_put nR e1, ?_⟩
        rw [upd_same, rowD_snoc]
      refine go_if (go_test (go_op (go_var rfl (go_var rfl ⟨rfl, _, rfl, iteC (fun hh => ?_) (fun hh => ?_)⟩))))
      · have hcd : c = d := by
          have : decide (V.str (S [d]) = V.str (S [c])) = true := hh
          rw [sign_eq] at this
          exact (of_decide_eq_true this).symm
        subst hcd
        refine ⟨_, rfl, .inl ⟨rfl, _, .inl (.inl hR)⟩, go_cons (go_op (go_var rfl (go_var rfl ⟨A, _, (j : Int), _, rfl, rfl, .inl (.inl hA2), rowD_at (by omega), go_nil ⟨R, _, _, rfl, rfl, hR, ?_, ?_⟩⟩)))⟩
        · rw [nv_len, lR]
          exact Nat.lt_of_lt_of_le (show j + 1 < 1001 by omega) (by decide)
        · obtain ⟨a1, a2⟩ := add _ (D_eq hc hd').symm
          exact ⟨_, _, rfl, a1, a2⟩
      · have hcd : c ≠ d := fun e => by
          subst e
          exact absurd hh (by rw [show decide (V.str { cps := #[c] } = V.str (S [c])) = true from decide_eq_true rfl]; decide)
        obtain ⟨z, hz, z1, z2, z3, z4⟩ := min3_int (D one other i j : Nat) (D one other i (j + 1) : Nat) (D one other (i + 1) j : Nat)
        obtain ⟨zn, rfl⟩ : ∃ zn : Nat, z = zn := ⟨z.toNat, by omega⟩
        have hzn : 1 + zn = D one other (i + 1) (j + 1) := by
          rw [D_ne hc hd' hcd]
          omega
        refine ⟨_, rfl, .inl ⟨rfl, _, .inl (.inl hR)⟩, go_cons (go_op (go_c (go_cb (go_cons (go_op (go_var rfl (go_var rfl ⟨A, _, (j : Int), _, rfl, rfl, .inl (.inl hA2), rowD_at (by omega), ?_⟩)))))))⟩
        refine go_cons (go_op (go_var rfl (go_op (go_var rfl (go_c ⟨(j : Int), 1, rfl, rfl, ⟨A, _, ((j + 1 : Nat) : Int), _, rfl, rfl, .inl (.inl hA2), rowD_at (by omega), ?_⟩⟩)))))
        refine go_cons (go_op (go_var rfl (go_var rfl ⟨R, _, (j : Int), _, rfl, rfl, .inl (.inl hR), rowD_at (Nat.le_refl _), go_nil ⟨_, _, _, _, rfl, hz, ?_⟩⟩)))
        refine ⟨1, _, rfl, rfl, go_nil ?_⟩
        dsimp only
        rw [show (1 + (zn : Int)) = ((1 + zn : Nat) : Int) by omega]
        refine ⟨R, _, _, rfl, rfl, hR, ?_, ?_⟩
        · rw [nv_len, lR]
          exact Nat.lt_of_lt_of_le (show j + 1 < 1001 by omega) (by decide)
        · obtain ⟨a1, a2⟩ := add _ hzn
          exact ⟨_, _, rfl, a1, a2⟩
    · obtain ⟨o5, o6, rfl, e1, hR⟩ := p
      have esz : (S other).cps.size = other.length := by simp [S]
      rw [esz] at hR
      dsimp only
      exact go_ret (go_var rfl (q R _ e1 nR hR))
/-- the rows of the reckoning: where they stand -/
def RowsAt (H : Hp) (R : Addr) (one other : List Nat) (k : Nat) : Prop := ∃ ps : List Addr, H R = some (.lst (ps.map V.ref)) ∧ ps.length = k + 1 ∧ ∀ i p, ps[i]? = some p → H p = some (.lst (nv (rowD one other i other.length)))
theorem RowsAt.same {H H' : Hp} {R : Addr} {one other : List Nat} {k : Nat} (e : Same H H') (h : RowsAt H R one other k) : RowsAt H' R one other k := by
  obtain ⟨ps, h1, h2, h3⟩ := h
  exact ⟨ps, e _ _ h1, h2, fun i p z => e _ _ (h3 i p z)⟩
theorem RowsAt.get {H : Hp} {R : Addr} {one other : List Nat} {k i : Nat} (h : RowsAt H R one other k) (hi : i ≤ k) : ∃ (ps : List Addr) (p : Addr), H R = some (.lst (ps.map V.ref)) ∧ ps.length = k + 1 ∧ atI (ps.map V.ref) (i : Int) = some (.ref p) ∧ H p = some (.lst (nv (rowD one other i other.length))) ∧ ps[i]? = some p := by
  obtain ⟨ps, h1, h2, h3⟩ := h
  have hl : i < ps.length := by omega
  refine ⟨ps, ps[i], h1, h2, ?_, h3 i _ (List.getElem?_eq_getElem hl), List.getElem?_eq_getElem hl⟩
  rw [at_nat (by rw [List.length_map]; exact hl), List.getElem_map]
theorem nv_ne_refs {one other : List Nat} {i j : Nat} {ps : List Addr} (h : nv (rowD one other i j) = ps.map V.ref) : False := by
  have hl := congrArg List.length h
  rw [nv_len, rowD_len, List.length_map] at hl
  cases ps with
  | nil => simp at hl
  | cons p r =>
    have h2 := congrArg (fun l => l[0]?) h
    have h3 := nv_at (d := rowD one other i j) (s := 0) (by rw [rowD_len]; omega)
    rw [at_nat (by rw [nv_len, rowD_len]; omega)] at h3
    rw [List.getElem?_eq_getElem (by rw [nv_len, rowD_len]; omega), h3] at h2
    cases h2
def sp_least_numbers : Sp := fun vs H Q _ => ∃ (one other : List Nat), vs = [.str (S one), .str (S other)] ∧ other.length ≤ 1000 ∧ one.length ≤ 1000 ∧
  ∀ (R : Addr) (H' : Hp), Same H H' → H R = none → RowsAt H' R one other one.length → Q (.ref R) H'
theorem ok_least_numbers : FnOk P w K mg base CX0 2 T.f_least_numbers T.fd_least_numbers ["one", "other"] sp_least_numbers := by
  refine T.F_least_numbers.ok sc_least_numbers (fun vs H Q E h => ?_) (fun cdv A outer s H vs Q E hr h => ?_)
  · obtain ⟨one, other, rfl, _⟩ := h
    rfl
  · obtain ⟨one, other, rfl, l2, l1, q⟩ := h
    refine ⟨_, (pss_cons (ps_set (i := 2) sc_least_numbers.nd rfl (.inl rfl) (pe_lst (pa_cons (pe_listRg rfl (by rfl) T.m_list (prg_1 (by rfl) T.m_range (pe_op op_add (pe_callB call_len_str (by rfl) T.m_len PySem.boot_len (pa_cons (pv 1) pa_nil)) pe_int))) pa_nil)))
    (pss_cons (ps_for PassesOwn.never rfl (pi_str (pv 0)) (pg_name (i := 3) sc_least_numbers.nd rfl (.inl rfl))
      (pss_one (ps_expr (pe_bm PySem.F.plainAttrs_list PySem.F.slot_list_append PySem.F.type_list_append mt_append (pv 2) (pa_cons (pe_call (ok_next_numbers T) (hr.mono (by decide)) (by rfl) T.g_next_numbers T.F_next_numbers.kp T.b_next_numbers .nil pass0 (pa_cons (pe_ix ix_list (pv 2) (pe_un un_neg pe_int) (fun _ _ => rfl)) (pa_cons (pe_callB call_len_seq (by rfl) T.m_len PySem.boot_len (pa_cons (pv 2) pa_nil)) (pa_cons (pv 3) (pa_cons (pv 1) pa_nil))))) pa_nil)))))
    (pss_one (ps_ret (pv 2))))), ?_⟩
    refine go_seq (go_asg (go_lst (go_cons ?_)))
    refine ⟨_, rfl, S other, rfl, len_le (by omega), ?_⟩
    rw [lenS]
    refine ⟨_, _, rfl, rfl, _, rfl, RgOk.of_le (Int.le_refl 0) (by omega) (by decide) (by omega), fun p0 n0 => ?_⟩
    rw [show (other.length : Int) + 1 = ((other.length + 1 : Nat) : Int) from rfl, rg_nv, rowD_zero one other]
    have e1 := same_new (o := HO.lst (nv (rowD one other 0 other.length))) n0
    have h0 : upd H p0 (HO.lst (nv (rowD one other 0 other.length))) p0 = some (.lst (nv (rowD one other 0 other.length))) := upd_same
    generalize upd H p0 (HO.lst (nv (rowD one other 0 other.length))) = H1 at e1 h0 ⊢
    refine go_nil ⟨sz1, fun R nR => ?_⟩
    have nRH := same_none e1 nR
    have e2 := same_new (o := HO.lst [V.ref p0]) nR
    have hp0 := e2 _ _ h0
    have hR : upd H1 R (HO.lst [V.ref p0]) R = some (.lst [V.ref p0]) := upd_same
    have e1 := e1.trans e2
    generalize upd H1 R (HO.lst [V.ref p0]) = H2 at e1 hp0 hR ⊢
    clear e2 h0 nR n0
    dsimp only [gName]
    refine go_seq ⟨_, rfl, S one, rfl, for_it walk_str (fun i σ Hc => ∃ (o3 : Option V), σ = [some (.str (S one)), some (.str (S other)), some (.ref R), o3] ∧ Same H Hc ∧ RowsAt Hc R one other i)
      ⟨_, rfl, e1, [p0], hR, rfl, fun i p z => ?_⟩ (fun _ _ _ _ _ => trivial) (fun i x σ' Hc Hx hi p y => ?_) (fun σ' Hc p => ?_)⟩
    · cases i with
      | zero => cases z; exact hp0
      | succ i => cases z
    · clear hR hp0 e1
      obtain ⟨o3, rfl, e1, hRo⟩ := p
      obtain ⟨rfl, c, hc, rfl⟩ := y
      have hc' := sgt hc
      have hi2 := (List.getElem?_eq_some_iff.mp hc').1
      obtain ⟨ps, p, hR, lp, hat, hp, hpi⟩ := hRo.get (Nat.le_refl _)
      dsimp only [gName]
      refine ⟨_, rfl, .inl ⟨rfl, _, .inl (.inl hR)⟩, go_cons (go_call (go_cons (go_op (go_var rfl ?_))))⟩
      have hat2 : atI (ps.map V.ref) (-1) = some (.ref p) := by
        rw [at_last (n := i) (by rw [List.length_map]; exact lp), List.getElem?_map, hpi]
        rfl
      refine go_c ⟨1, rfl, ⟨R, _, -1, _, rfl, rfl, .inl (.inl hR), hat2, ?_⟩⟩
      refine go_cons (go_cb (go_cons (go_var rfl (go_nil ⟨R, _, rfl, .inl (.inl (.inl hR)), ?_⟩))))
      rw [List.length_map, lp]
      refine go_cons (go_var rfl (go_cons (go_var rfl (go_nil ⟨p, c, i, one, other, rfl, hp, hc', l2, l1, fun p2 H3 e3 n2 hp2 => go_nil ?_⟩))))
      refine ⟨R, _, _, rfl, rfl, e3 _ _ hR, ?_, ?_⟩
      · rw [List.length_map, lp]
        exact Nat.lt_of_lt_of_le (show i + 1 < 1001 by omega) (by decide)
      have hRo3 := hRo.same e3
      obtain ⟨qs, g1, g2, g3⟩ := hRo3
      have eq : qs = ps := by
        have := (e3 _ _ hR).symm.trans g1
        injection this with this
        injection this with this
        have inj : ∀ (a b : List Addr), a.map V.ref = b.map V.ref → a = b := fun a b h => (List.map_inj_right (fun x y z => by injection z)).mp h
        exact (inj _ _ this).symm
      subst eq
      refine ⟨_, rfl, same_put nRH (e1.trans e3), qs ++ [p2], by rw [upd_same, List.map_append]; rfl, by rw [List.length_append, lp]; rfl, fun k p z => ?_⟩
      have ne : ∀ {x : Addr} {m : Nat}, H3 x = some (.lst (nv (rowD one other m other.length))) → x ≠ R := fun h z => by
        rw [z, e3 _ _ hR] at h
        injection h with h
        injection h with h
        exact nv_ne_refs h.symm
      by_cases hk : k < qs.length
      · rw [List.getElem?_append_left hk] at z
        have := g3 k p z
        rw [upd_ne (ne this)]
        exact this
      · have hk2 : k = qs.length := by
          have := (List.getElem?_eq_some_iff.mp z).1
          rw [List.length_append] at this
          have h1 : ([p2] : List Addr).length = 1 := rfl
          omega
        subst hk2
        rw [List.getElem?_append_right (Nat.le_refl _), Nat.sub_self] at z
        cases z
        rw [upd_ne (ne hp2), lp]
        exact hp2
    · obtain ⟨o3, rfl, e1, hRo⟩ := p
      have esz : (S one).cps.size = one.length := by simp [S]
      rw [esz] at hRo
      dsimp only
      exact go_ret (go_var rfl (q R _ e1 nRH hRo))
/-- what is told as two texts -/
def PairArg (K : PySem.W.Frag) (CT CM : Addr) (H : Hp) (E : XK) (x y : V) (G : List Nat → List Nat → Prop) : Prop := ∃ o1 : Option (List Nat), StrIs K H x o1 ∧ ((o1.elim false textB = false ∧ RaisedPart E CT H "one") ∨ ∃ one, o1 = some one ∧ textB one = true ∧ ∃ o2 : Option (List Nat), StrIs K H y o2 ∧
  ((o2.elim false textB = false ∧ RaisedPart E CT H "other") ∨ ∃ other, o2 = some other ∧ textB other = true ∧ ((300 < max one.length other.length ∧ RaisedTwo E CM "what" "most" H (.str "signs") (.int 300)) ∨ (one.length ≤ 300 ∧ other.length ≤ 300 ∧ G one other))))
def sp_check_pair (K : PySem.W.Frag) (CT CM : Addr) : Sp := fun vs H Q E => ∃ x y : V, vs = [x, y] ∧ PairArg K CT CM H E x y fun _ _ => Q .non H
theorem ok_check_pair : FnOk P w K mg base (L2.CX P w) 6 T.f_check_pair T.fd_check_pair ["one", "other"] (sp_check_pair K T.e_BadText.C T.e_TooMany.C) := by
  refine T.F_check_pair.okX sc_check_pair (fun vs H Q E h => ?_) (fun cdv A outer s H vs Q E hr h => ?_)
  · obtain ⟨x, y, rfl, _⟩ := h
    rfl
  · obtain ⟨x, y, rfl, o1, h1, h⟩ := h
    refine ⟨_, (pss_cons (ps_if (pt_not (pt_val (pe_call (ok_is_text T) (hr.mono (by decide)) (by rfl) T.g_is_text T.F_is_text.kp T.b_is_text .nil pass0 (pa_cons (pv 0) pa_nil))))
      (pss_one (ps_raise rfl (takes_of rfl rfl rfl rfl) (pmk_oex T.e_BadText.oex T.e_BadText.iC T.e_BadText.tI (ok_init T.e_BadText in_BadText) (hr.mono (by decide)) T.e_BadText.b .nil pass0 (by rfl) T.e_BadText.gC (pa_cons pe_str pa_nil))))
      pss_nil)
    (pss_cons (ps_if (pt_not (pt_val (pe_call (ok_is_text T) (hr.mono (by decide)) (by rfl) T.g_is_text T.F_is_text.kp T.b_is_text .nil pass0 (pa_cons (pv 1) pa_nil))))
      (pss_one (ps_raise rfl (takes_of rfl rfl rfl rfl) (pmk_oex T.e_BadText.oex T.e_BadText.iC T.e_BadText.tI (ok_init T.e_BadText in_BadText) (hr.mono (by decide)) T.e_BadText.b .nil pass0 (by rfl) T.e_BadText.gC (pa_cons pe_str pa_nil))))
      pss_nil)
    (pss_one (ps_if (pt_cmpR op_gt (pe_callB (call_max2 rfl) (by rfl) T.m_max (by decide +kernel) (pa_cons (pe_callB call_len_str (by rfl) T.m_len PySem.boot_len (pa_cons (pv 0) pa_nil)) (pa_cons (pe_callB call_len_str (by rfl) T.m_len PySem.boot_len (pa_cons (pv 1) pa_nil)) pa_nil))) (pe_glob (v := .int 300) (by rfl) T.c_MOST_WAY_SIGNS ⟨_, rfl⟩) (nomark _))
      (pss_one (ps_raise rfl (takes_of rfl rfl rfl rfl) (pmk_oex T.e_TooMany.oex T.e_TooMany.iC T.e_TooMany.tI (ok_init2 T.e_TooMany in_TooMany) (hr.mono (by decide)) T.e_TooMany.b .nil pass0 (by rfl) T.e_TooMany.gC (pa_cons pe_str (pa_cons (pe_glob (v := .int 300) (by rfl) T.c_MOST_WAY_SIGNS ⟨_, rfl⟩) pa_nil)))))
      pss_nil)))), ?_⟩
    refine go_seq (go_if (go_not (go_b ⟨_, rfl, x, o1, rfl, h1, _, rfl, ?_⟩)))
    rcases h with ⟨hf, hE⟩ | ⟨one, rfl, hT, o2, h2, h⟩
    · rw [hf]
      exact iteT (B := True) (mk_part T.e_BadText.oex T.e_BadText.np hE)
    rw [show (some one).elim false textB = true from hT]
    refine iteF (A := True) ?_
    dsimp only [tNext]
    refine go_seq (go_if (go_not (go_b ⟨_, rfl, y, o2, rfl, h2, _, rfl, ?_⟩)))
    rcases h with ⟨hf, hE⟩ | ⟨other, rfl, hT2, h⟩
    · rw [hf]
      exact iteT (B := True) (mk_part T.e_BadText.oex T.e_BadText.np hE)
    rw [show (some other).elim false textB = true from hT2]
    refine iteF (A := True) ?_
    dsimp only [tNext]
    obtain ⟨rfl, l1⟩ := h1
    obtain ⟨rfl, l2⟩ := h2
    refine go_if (go_test (go_op (go_cb (go_cons (go_cb (go_cons (go_var rfl (go_nil ⟨S one, rfl, ?_, ?_⟩))))))))
    · exact len_le (textB_le hT)
    refine go_cons (go_cb (go_cons (go_var rfl (go_nil ⟨S other, rfl, len_le (textB_le hT2), go_nil ⟨_, _, rfl, ?_⟩⟩))))
    refine go_c ⟨_, _, rfl, rfl, _, rfl, ?_⟩
    rw [S_len, S_len]
    have hmax : (if (other.length : Int) > (one.length : Int) then (other.length : Int) else (one.length : Int)) = ((max one.length other.length : Nat) : Int) := by
      split <;> omega
    rw [hmax]
    rcases h with ⟨hf, hE⟩ | ⟨m1, m2, q⟩
    · rw [decide_eq_true (by omega)]
      exact iteT (B := True) (mk_part2 T.e_TooMany.oex T.e_TooMany.np T.e_TooMany.np2 hE)
    · rw [decide_eq_false (by omega)]
      exact iteF (A := True) q
theorem PairArg.imp {CT CM : Addr} {H : Hp} {E : XK} {x y : V} {G G' : List Nat → List Nat → Prop} (h : PairArg K CT CM H E x y G) (g : ∀ one other, x = .str (S one) → y = .str (S other) → one.length ≤ 300 → other.length ≤ 300 → G one other → G' one other) : PairArg K CT CM H E x y G' := by
  obtain ⟨o1, h1, h⟩ := h
  refine ⟨o1, h1, h.imp id fun ⟨one, e1, t1, o2, h2, h⟩ => ⟨one, e1, t1, o2, h2, h.imp id fun ⟨other, e2, t2, h⟩ => ⟨other, e2, t2, h.imp id fun ⟨l1, l2, hg⟩ => ⟨l1, l2, ?_⟩⟩⟩⟩
  subst e1 e2
  exact g one other h1.1 h2.1 l1 l2 hg
def sp_edits_between (K : PySem.W.Frag) (CT CM : Addr) : Sp := fun vs H Q E => ∃ x y : V, vs = [x, y] ∧ PairArg K CT CM H E x y fun one other => ∀ H', Same H H' → Q (.int (far one other : Nat)) H'
theorem ok_edits_between : FnOk P w K mg base (L2.CX P w) 10 T.f_edits_between T.fd_edits_between ["one", "other"] (sp_edits_between K T.e_BadText.C T.e_TooMany.C) := by
  refine T.F_edits_between.okX sc_edits_between (fun vs H Q E h => ?_) (fun cdv A outer s H vs Q E hr h => ?_)
  · obtain ⟨x, y, rfl, _⟩ := h
    rfl
  · obtain ⟨x, y, rfl, h⟩ := h
    refine ⟨_, (pss_cons (ps_expr (pe_call (ok_check_pair T) (hr.mono (by decide)) (by rfl) T.g_check_pair T.F_check_pair.kp T.b_check_pair .nil (passes_call (takes_of rfl rfl rfl rfl) (fun _ _ _ _ h => h)) (pa_cons (pv 0) (pa_cons (pv 1) pa_nil))))
    (pss_one (ps_ret (pe_ix ix_list (pe_ix ix_list (pe_call (ok_least_numbers T) (hr.mono (by decide)) (by rfl) T.g_least_numbers T.F_least_numbers.kp T.b_least_numbers .nil pass0 (pa_cons (pv 0) (pa_cons (pv 1) pa_nil))) (pe_un un_neg pe_int) (fun _ _ => rfl)) (pe_un un_neg pe_int) (fun _ _ => rfl))))), ?_⟩
    refine go_seq (go_drop (go_call (go_cons (go_var rfl (go_cons (go_var rfl (go_nil ⟨x, y, rfl, h.imp fun one other ex ey l1 l2 q => ?_⟩)))))))
    subst ex ey
    dsimp only
    refine go_ret (go_op (go_op (go_call (go_cons (go_var rfl (go_cons (go_var rfl (go_nil ⟨one, other, rfl, by omega, by omega, fun R H1 e1 _ hRo => ?_⟩))))))))
    obtain ⟨ps, p, hR, lp, hat, hp, hpi⟩ := hRo.get (Nat.le_refl _)
    have hat2 : atI (ps.map V.ref) (-1) = some (.ref p) := by
      rw [at_last (n := one.length) (by rw [List.length_map]; exact lp), List.getElem?_map, hpi]
      rfl
    have hat3 : atI (nv (rowD one other one.length other.length)) (-1) = some (.int (far one other : Nat)) := by
      rw [at_last (n := other.length) (by rw [nv_len, rowD_len]), ← at_get (by rw [nv_len, rowD_len]; omega), rowD_at (Nat.le_refl _), D_far]
    refine go_c ⟨1, rfl, ⟨R, _, -1, _, rfl, rfl, .inl (.inl hR), hat2, ?_⟩⟩
    exact go_c ⟨1, rfl, ⟨p, _, -1, _, rfl, rfl, .inl (.inl hp), hat3, q H1 e1⟩⟩
end
end K06
namespace K06
open PySem PySem.Spec PyProof.Rows L2 Kx SX LamX Ms PnX
open Lev
theorem fix_ds (e : Ed) : fixDs e.ds = e.ds := by
  cases e <;> rfl
theorem fix_eds : ∀ es : List Ed, fixDs (es.map (edD true)) = es.map (edD true)
  | [] => rfl
  | e :: r => by
    show fixD (edD true e) :: fixDs (r.map (edD true)) = edD true e :: r.map (edD true)
    rw [fix_eds r]
    exact congrArg (· :: r.map (edD true)) (congrArg PyData.tuple (fix_ds e))
theorem ds_depth (e : Ed) : PyData.depthAll e.ds = 0 := by cases e <;> rfl
theorem eds_depth : ∀ es : List Ed, PyData.depthAll (es.map (edD true)) ≤ 1
  | [] => Nat.zero_le _
  | e :: r => by
    have h := eds_depth r
    have h2 := ds_depth e
    show max (PyData.depthAll e.ds + 1) (PyData.depthAll (r.map (edD true))) ≤ 1
    omega
theorem S_one (c : Nat) : (S [c]).cps.size = 1 := by simp [S]
theorem ds_bulk (e : Ed) : PyData.bulkAll e.ds ≤ 30 := by
  have h3 : ∀ z : Str, PyData.bulk (.str z) = z.cps.size := fun _ => rfl
  cases e with
  | put a c =>
    show PyData.bulk (.str "put") + 1 + (0 + 1 + (PyData.bulk (.str (S [c])) + 1 + 0)) ≤ 30
    rw [h3, h3, S_one]
    decide
  | lost a =>
    show PyData.bulk (.str "lost") + 1 + (0 + 1 + 0) ≤ 30
    rw [h3]
    decide
  | chg a c =>
    show PyData.bulk (.str "changed") + 1 + (0 + 1 + (PyData.bulk (.str (S [c])) + 1 + 0)) ≤ 30
    rw [h3, h3, S_one]
    decide
theorem eds_bulk : ∀ es : List Ed, PyData.bulkAll (es.map (edD true)) ≤ 31 * es.length
  | [] => Nat.zero_le _
  | e :: r => by
    have h := eds_bulk r
    have h2 := ds_bulk e
    show PyData.bulkAll e.ds + 1 + PyData.bulkAll (r.map (edD true)) ≤ 31 * (r.length + 1)
    omega
section
variable {P : Program} {w : World} {K : PySem.W.Frag} {mg : Str → Option Value} {base : Heap} (T : Tx K mg)
/-- edits, tuples in a tuple -/
def EdsK (K : PySem.W.Frag) (H : Hp) (D : Addr) (es : List Ed) : Prop := ∃ ps : List Addr, SqT K H D (ps.map V.ref) ∧ ps.length = es.length ∧ ∀ (i : Nat) (q : Addr) (e : Ed), ps[i]? = some q → es[i]? = some e → SqT K H q e.vs
theorem EdsK.same {H H' : Hp} {p : Addr} {es : List Ed} (e : Same H H') (h : EdsK K H p es) : EdsK K H' p es := by
  obtain ⟨ps, h1, h2, h3⟩ := h
  exact ⟨ps, Same.t e h1, h2, fun i q d a b => Same.t e (h3 i q d a b)⟩
theorem EdsK.dp {H : Hp} {D : Addr} {es : List Ed} (h : EdsK K H D es) : Dp K H (.ref D) (.tuple (es.map (edD true))) := by
  obtain ⟨ps, h1, h2, h3⟩ := h
  exact .tup h1 (eds_dp ps es h2 fun i q e a b => h3 i q e a b)
theorem of_ds {H : Hp} {xs : List V} {e : Ed} (h : DpAll K H xs e.ds) : xs = e.vs := by
  cases e with
  | put a c =>
    cases h with
    | cons h1 h =>
      cases h with
      | cons h2 h =>
        cases h with
        | cons h3 h =>
          cases h
          cases h1
          cases h2
          cases h3
          rfl
  | lost a =>
    cases h with
    | cons h1 h =>
      cases h with
      | cons h2 h =>
        cases h
        cases h1
        cases h2
        rfl
  | chg a c =>
    cases h with
    | cons h1 h =>
      cases h with
      | cons h2 h =>
        cases h with
        | cons h3 h =>
          cases h
          cases h1
          cases h2
          cases h3
          rfl
theorem of_eds {H : Hp} : ∀ {xs : List V} {es : List Ed}, DpAll K H xs (es.map (edD true)) → ∃ ps : List Addr, xs = ps.map V.ref ∧ ps.length = es.length ∧ ∀ (i : Nat) (q : Addr) (e : Ed), ps[i]? = some q → es[i]? = some e → SqT K H q e.vs
  | _, [], h => by
    cases h
    exact ⟨[], rfl, rfl, fun i q e a => by cases a⟩
  | _, e :: r, h => by
    cases h with
    | @cons v xs _ _ h1 h2 =>
      obtain ⟨ps, rfl, l, g⟩ := of_eds h2
      have h1 : Dp K H v (.tuple e.ds) := h1
      cases h1 with
      | @tup q zs _ hq hz =>
        rw [of_ds hz] at hq
        refine ⟨q :: ps, rfl, by rw [List.length_cons, List.length_cons, l], fun i q' e' a b => ?_⟩
        cases i with
        | zero =>
          cases a
          cases b
          exact hq
        | succ i => exact g i q' e' a b
/-- a Ways -/
def WaysAt (K : PySem.W.Frag) (C : Addr) (H : Hp) (a : Addr) (es : List Ed) : Prop := ∃ (dx pt et : Addr), H a = some (.ins C dx [("word", .str "ways"), ("parts", .ref pt), ("edits", .ref et)]) ∧ SqT K H pt [.ref et] ∧ EdsK K H et es
theorem WaysAt.same {C a : Addr} {H H' : Hp} {es : List Ed} (e : Same H H') (h : WaysAt K C H a es) : WaysAt K C H' a es := by
  obtain ⟨dx, pt, et, h1, h2, h3⟩ := h
  exact ⟨dx, pt, et, e _ _ h1, Same.t e h2, h3.same e⟩
def sp_Ways_init (K : PySem.W.Frag) (C : Addr) : Sp := fun vs H Q _ => ∃ (a dx sa : Addr) (es : List Ed), vs = [.ref a, .ref sa] ∧ H a = some (.ins C dx []) ∧ EdsL H sa es ∧ es.length ≤ 2000 ∧ ∀ H', Mv a H H' → WaysAt K C H' a es → Q .non H'
theorem ok_Ways_init [SupX.PaperP P] : FnOk P w K mg base CX0 10 T.f_Ways_init T.fd_Ways_init ["self", "edits"] (sp_Ways_init K T.C_Ways) := by
  refine SupX.FunS.ok (me := "self") T.F_Ways_init sc_Ways_init rfl (by decide +kernel) rfl (by decide +kernel) ⟨_, rfl, rfl⟩ T.m_super T.kD_Ways_init (ok_Paper_init T) (by decide : 8 ≤ 9) (fun vs H Q E h => ?_) (fun cda cc A outer s H vs Q E hr h => ?_)
  · obtain ⟨a, dx, sa, es, rfl, _⟩ := h
    rfl
  · obtain ⟨a, dx, sa, es, rfl, ha, hs, ll, q⟩ := h
    refine ⟨a, T.C_Ways, dx, [], _, _, T.sm_Ways, rfl, ha, (pa_cons pe_str (pa_cons (pv 1) pa_nil)), (pss_one (ps_fld (pv 0) (pe_ix ix_seq (pe_fld (pv 0) rfl) pe_int (fun _ _ => rfl)) rfl)), ?_⟩
    refine go_cons (go_c (go_cons (go_var rfl (go_nil ?_))))
    refine ⟨[.ref a, .str "ways"], [.ref sa], rfl, rfl, (show 1 ≤ sizeLine by decide), fun pt npt => ?_⟩
    have e1 := same_new (o := HO.tup [.ref sa]) npt
    have hd := edsL_dp (K := K) (hs.same e1)
    have hdep := eds_depth es
    have hbk := eds_bulk es
    refine ⟨a, T.C_Ways, dx, .str "ways", .str "ways", pt, _, [.list (es.map (edD true))], rfl, e1 _ _ ha, T.cl_Ways, T.na_Ways_word, T.na_Ways_parts, upd_same, .str _, .cons hd .nil, by decide, by decide, ?_, ?_, fun w' p' H' mv ha' hP => ?_⟩
    · simp only [PyData.depthAll, PyData.depth]
      omega
    · simp only [PyData.bulkAll, PyData.bulk]
      omega
    obtain ⟨hw, hp⟩ := hP H' (fun b o _ _ h => h)
    have hw' : Dp K H' w' (.str "ways") := hw
    cases hw'
    have hp' : Dp K H' p' (.tuple [.tuple (fixDs (es.map (edD true)))]) := hp
    rw [fix_eds] at hp'
    cases hp' with
    | @tup p2 xs _ hp2 hxs =>
      cases hxs with
      | cons h1 hxs =>
        cases hxs
        cases h1 with
        | @tup et zs _ het hzs =>
          obtain ⟨qs, rfl, lq, hq⟩ := of_eds hzs
          refine go_sfld (go_op (go_fld (go_var rfl ⟨a, T.C_Ways, dx, _, .ref p2, rfl, ha', T.cl_Ways, T.na_Ways_parts, rfl, go_c (.inr (.inl ⟨p2, _, 0, .ref et, rfl, rfl, hp2, rfl, ?_⟩))⟩)))
          refine go_var rfl ⟨a, T.C_Ways, dx, _, rfl, ha', T.cl_Ways, T.na_Ways_edits, (show 2 < 1000 by decide), ?_⟩
          refine q _ (fun b o nb h => ?_) ⟨dx, p2, et, upd_same, sqt_upd ha' hp2, qs, sqt_upd ha' het, lq, fun i q' e' a1 b1 => sqt_upd ha' (hq i q' e' a1 b1)⟩
          rw [upd_ne nb]
          exact mv b o nb (e1 _ _ h)
instance pp1 {CX : CXT} {P : Program} {w : World} {K : PySem.W.Frag} {mg : Str → Option Value} {base : Heap} {N : List Str} {q : Str} {sc : Scope} {f : Addr} {cd : Value} {A : Around} {o : List Env} {s : Shared} {H : Hp} {E : XK} [h : SupX.PaperP P] : SupX.PaperP (cxOf CX P w K mg base N q sc f cd A o s H E).prog := h
instance pp2 {X : Cx} [h : SupX.PaperP X.prog] : SupX.PaperP X.nox.prog := h
end
end K06
namespace K06
open PySem PySem.Spec PyProof.Rows L2 Kx SX LamX Ms PnX
open Lev
/-- the edits of the way, from the right to the left: of the first i signs of one, the first j of the other -/
def wayF (one other : List Nat) : Nat → Nat → Nat → List Ed
  | 0, _, _ => []
  | f + 1, i, j =>
    if i = 0 ∧ j = 0 then []
    else if 0 < i ∧ 0 < j ∧ one.getD (i - 1) 0 = other.getD (j - 1) 0 then wayF one other f (i - 1) (j - 1)
    else if 0 < i ∧ 0 < j ∧ D one other i j = D one other (i - 1) (j - 1) + 1 then .chg (i - 1) (other.getD (j - 1) 0) :: wayF one other f (i - 1) (j - 1)
    else if 0 < i ∧ D one other i j = D one other (i - 1) j + 1 then .lost (i - 1) :: wayF one other f (i - 1) j
    else .put i (other.getD (j - 1) 0) :: wayF one other f i (j - 1)
def way (one other : List Nat) : List Ed := wayF one other (one.length + other.length + 1) one.length other.length
theorem getD_get {l : List Nat} {i : Nat} (h : i < l.length) : l[i]? = some (l.getD i 0) := by
  rw [List.getD_eq_getElem?_getD, List.getElem?_eq_getElem h]
  rfl
theorem take_cut {l : List Nat} {i : Nat} (h : i < l.length) : l.take (i + 1) = l.take i ++ [l.getD i 0] := by
  rw [List.take_add_one, getD_get h]
  rfl
theorem drop_cut {l : List Nat} {i : Nat} (h : i < l.length) : l.drop i = l.getD i 0 :: l.drop (i + 1) := by
  rw [List.drop_eq_getElem_cons h]
  congr 1
  rw [List.getD_eq_getElem?_getD, List.getElem?_eq_getElem h]
  rfl
theorem take_app {a b : List Nat} {n : Nat} (h : a.length = n) : (a ++ b).take n = a := by
  subst h
  exact List.take_left
theorem drop_app {a b : List Nat} {n : Nat} (h : a.length = n) : (a ++ b).drop n = b := by
  subst h
  exact List.drop_left
theorem wayF_path {one other : List Nat} (hl : one.length + other.length < 200000) : ∀ (f i j : Nat), i + j < f → i ≤ one.length → j ≤ other.length →
    Path (one.take i ++ other.drop j) (wayF one other f i j) other ∧ (wayF one other f i j).length = D one other i j := by
  intro f
  induction f with
  | zero => intro i j h; omega
  | succ f ih =>
    intro i j hf hi hj
    have lt : (one.take i).length = i := by rw [List.length_take]; omega
    unfold wayF
    by_cases h0 : i = 0 ∧ j = 0
    · rw [if_pos h0]
      obtain ⟨rfl, rfl⟩ := h0
      rw [D_zero one other (Nat.zero_le _)]
      exact ⟨by rw [List.take_zero, List.drop_zero]; exact .nil _, rfl⟩
    rw [if_neg h0]
    by_cases h1 : 0 < i ∧ 0 < j ∧ one.getD (i - 1) 0 = other.getD (j - 1) 0
    · rw [if_pos h1]
      obtain ⟨p1, p2, p3⟩ := h1
      obtain ⟨i, rfl⟩ : ∃ k, i = k + 1 := ⟨i - 1, by omega⟩
      obtain ⟨j, rfl⟩ : ∃ k, j = k + 1 := ⟨j - 1, by omega⟩
      simp only [Nat.add_sub_cancel] at p3 ⊢
      obtain ⟨a, b⟩ := ih i j (by omega) (by omega) (by omega)
      have g1 := getD_get (l := one) (i := i) (by omega)
      have g2 := getD_get (l := other) (i := j) (by omega)
      rw [p3] at g1
      rw [D_eq g1 g2, take_cut (by omega), p3, List.append_assoc, List.singleton_append, ← drop_cut (by omega)]
      exact ⟨a, b⟩
    rw [if_neg h1]
    have g1 : ∀ k, i = k + 1 → one[k]? = some (one.getD k 0) := fun k e => getD_get (by omega)
    have g2 : ∀ k, j = k + 1 → other[k]? = some (other.getD k 0) := fun k e => getD_get (by omega)
    by_cases h2 : 0 < i ∧ 0 < j ∧ D one other i j = D one other (i - 1) (j - 1) + 1
    · rw [if_pos h2]
      obtain ⟨p1, p2, p3⟩ := h2
      obtain ⟨i, rfl⟩ : ∃ k, i = k + 1 := ⟨i - 1, by omega⟩
      obtain ⟨j, rfl⟩ : ∃ k, j = k + 1 := ⟨j - 1, by omega⟩
      simp only [Nat.add_sub_cancel] at p3 h1 ⊢
      obtain ⟨a, b⟩ := ih i j (by omega) (by omega) (by omega)
      have hn : one.getD i 0 ≠ other.getD j 0 := fun e => h1 ⟨by omega, by omega, e⟩
      have lt2 : (one.take i).length = i := by rw [List.length_take]; omega
      refine ⟨.cons (t' := one.take i ++ other.drop j) ?_ a, by rw [List.length_cons, b, p3]⟩
      rw [take_cut (by omega), List.append_assoc, List.singleton_append]
      have hg : (one.take i ++ one.getD i 0 :: other.drop (j + 1)).getD i 0 = one.getD i 0 := by
        rw [List.getD_eq_getElem?_getD, List.getElem?_append_right (by omega), lt2, Nat.sub_self]
        rfl
      refine (if_pos ⟨?hA, by rw [hg]; exact hn⟩).trans ?hB
      case hA =>
        rw [List.length_append, lt2, List.length_cons]
        omega
      case hB =>
        rw [take_app lt2, drop_cut (l := other) (i := j) (by omega)]
        have : (one.take i ++ one.getD i 0 :: other.drop (j + 1)).drop (i + 1) = other.drop (j + 1) := by
          rw [← List.singleton_append, ← List.append_assoc]
          exact drop_app (by rw [List.length_append, lt2]; rfl)
        rw [this, List.append_assoc]
        rfl
    rw [if_neg h2]
    by_cases h3 : 0 < i ∧ D one other i j = D one other (i - 1) j + 1
    · rw [if_pos h3]
      obtain ⟨p1, p3⟩ := h3
      obtain ⟨i, rfl⟩ : ∃ k, i = k + 1 := ⟨i - 1, by omega⟩
      simp only [Nat.add_sub_cancel] at p3 ⊢
      obtain ⟨a, b⟩ := ih i j (by omega) (by omega) (by omega)
      have lt2 : (one.take i).length = i := by rw [List.length_take]; omega
      refine ⟨.cons (t' := one.take i ++ other.drop j) ?_ a, by rw [List.length_cons, b, p3]⟩
      rw [take_cut (by omega), List.append_assoc, List.singleton_append]
      refine (if_pos ?_).trans ?_
      · rw [List.length_append, lt2, List.length_cons]
        omega
      · rw [take_app lt2]
        have : (one.take i ++ one.getD i 0 :: other.drop j).drop (i + 1) = other.drop j := by
          rw [← List.singleton_append, ← List.append_assoc]
          exact drop_app (by rw [List.length_append, lt2]; rfl)
        rw [this]
    rw [if_neg h3]
    have hj0 : 0 < j := by
      rcases Nat.eq_zero_or_pos j with rfl | h
      · refine absurd ⟨by omega, ?_⟩ h3
        rw [D_zero2 one other hi, D_zero2 one other (by omega)]
        omega
      · exact h
    obtain ⟨j, rfl⟩ : ∃ k, j = k + 1 := ⟨j - 1, by omega⟩
    simp only [Nat.add_sub_cancel] at h1 h2 ⊢
    obtain ⟨a, b⟩ := ih i j (by omega) (by omega) (by omega)
    have hD : D one other i (j + 1) = D one other i j + 1 := by
      rcases Nat.eq_zero_or_pos i with rfl | h
      · rw [D_zero one other hj, D_zero one other (by omega)]
      · obtain ⟨i, rfl⟩ : ∃ k, i = k + 1 := ⟨i - 1, by omega⟩
        simp only [Nat.add_sub_cancel] at h1 h2 h3
        have hn : one.getD i 0 ≠ other.getD j 0 := fun e => h1 ⟨by omega, by omega, e⟩
        have e := D_ne (g1 i rfl) (g2 j rfl) hn
        have n2 : D one other (i + 1) (j + 1) ≠ D one other i j + 1 := fun z => h2 ⟨by omega, by omega, z⟩
        have n3 : D one other (i + 1) (j + 1) ≠ D one other i (j + 1) + 1 := fun z => h3 ⟨by omega, z⟩
        omega
    refine ⟨.cons (t' := one.take i ++ other.drop j) ?_ a, by rw [List.length_cons, b, hD]⟩
    refine (if_pos ⟨?hA, ?hC⟩).trans ?hB
    case hA =>
      rw [List.length_append, lt]
      omega
    case hC =>
      rw [List.length_append, lt, List.length_drop]
      omega
    case hB =>
      rw [take_app lt, drop_app lt, drop_cut (l := other) (i := j) (by omega), List.append_assoc]
      rfl
theorem wayF_ok {one other : List Nat} (ho : ∀ x ∈ other, sg x = true) : ∀ (f i j : Nat), i + j < f → i ≤ one.length → j ≤ other.length → ∀ e ∈ wayF one other f i j, e.ok = true := by
  intro f
  have gs : ∀ j, 0 < j → j ≤ other.length → sg (other.getD (j - 1) 0) = true := fun j h1 h2 => ho _ (List.mem_of_getElem? (getD_get (l := other) (i := j - 1) (by omega)))
  induction f with
  | zero => intro i j h; omega
  | succ f ih =>
    intro i j hf hi hj e he
    unfold wayF at he
    by_cases h0 : i = 0 ∧ j = 0
    · rw [if_pos h0] at he
      cases he
    rw [if_neg h0] at he
    by_cases h1 : 0 < i ∧ 0 < j ∧ one.getD (i - 1) 0 = other.getD (j - 1) 0
    · rw [if_pos h1] at he
      exact ih (i - 1) (j - 1) (by omega) (by omega) (by omega) e he
    rw [if_neg h1] at he
    by_cases h2 : 0 < i ∧ 0 < j ∧ D one other i j = D one other (i - 1) (j - 1) + 1
    · rw [if_pos h2] at he
      rcases List.mem_cons.mp he with rfl | he
      · exact gs j h2.2.1 hj
      · exact ih (i - 1) (j - 1) (by omega) (by omega) (by omega) e he
    rw [if_neg h2] at he
    by_cases h3 : 0 < i ∧ D one other i j = D one other (i - 1) j + 1
    · rw [if_pos h3] at he
      rcases List.mem_cons.mp he with rfl | he
      · rfl
      · exact ih (i - 1) j (by omega) (by omega) (by omega) e he
    rw [if_neg h3] at he
    have hj0 : 0 < j := by
      rcases Nat.eq_zero_or_pos j with rfl | h
      · refine absurd ⟨by omega, ?_⟩ h3
        rw [D_zero2 one other hi, D_zero2 one other (by omega)]
        omega
      · exact h
    rcases List.mem_cons.mp he with rfl | he
    · exact gs j hj0 hj
    · exact ih i (j - 1) (by omega) (by omega) (by omega) e he
theorem way_path {one other : List Nat} (hl : one.length + other.length < 200000) : Path one (way one other) other := by
  have h := (wayF_path hl (one.length + other.length + 1) one.length other.length (by omega) (Nat.le_refl _) (Nat.le_refl _)).1
  rw [List.take_length, List.drop_length, List.append_nil] at h
  exact h
theorem way_len {one other : List Nat} (hl : one.length + other.length < 200000) : (way one other).length = far one other := by
  rw [← D_far]
  exact (wayF_path hl (one.length + other.length + 1) one.length other.length (by omega) (Nat.le_refl _) (Nat.le_refl _)).2
theorem way_ok {one other : List Nat} (ho : ∀ x ∈ other, sg x = true) : ∀ e ∈ way one other, e.ok = true := wayF_ok ho _ _ _ (by omega) (Nat.le_refl _) (Nat.le_refl _)
end K06
namespace K06
open PySem PySem.Spec PyProof.Rows L2 Kx SX LamX Ms PnX
open Lev
section
variable {P : Program} {w : World} {K : PySem.W.Frag} {mg : Str → Option Value} {base : Heap} (T : Tx K mg)
theorem midT {tt : TT} {σ : L2.St} {H : Hp} {Q : Bool → Hp → Prop} (b : Bool) (h1 : ∀ Q1 : Bool → Hp → Prop, Q1 b H → tt σ H Q1) (h2 : Q b H) : tt σ H Q := h1 Q h2
theorem eqi (a b : Int) : decide (V.int a = V.int b) = decide (a = b) := by
  rw [dec_int]
  rfl
def sp_least_edits (K : PySem.W.Frag) (C CT CM : Addr) : Sp := fun vs H Q E => ∃ x y : V, vs = [x, y] ∧ PairArg K CT CM H E x y fun one other => ∀ (a : Addr) (H' : Hp), Same H H' → WaysAt K C H' a (way one other) → Q (.ref a) H'
theorem ok_least_edits [SupX.PaperP P] : FnOk P w K mg base (L2.CX P w) 15 T.f_least_edits T.fd_least_edits ["one", "other"] (sp_least_edits K T.C_Ways T.e_BadText.C T.e_TooMany.C) := by
  refine T.F_least_edits.okX sc_least_edits (fun vs H Q E h => ?_) (fun cdv A outer s H vs Q E hr h => ?_)
  · obtain ⟨x, y, rfl, _⟩ := h
    rfl
  · obtain ⟨x, y, rfl, h⟩ := h
    refine ⟨_, (pss_cons (ps_expr (pe_call (ok_check_pair T) (hr.mono (by decide)) (by rfl) T.g_check_pair T.F_check_pair.kp T.b_check_pair .nil (passes_call (takes_of rfl rfl rfl rfl) (fun _ _ _ _ h => h)) (pa_cons (pv 0) (pa_cons (pv 1) pa_nil))))
    (pss_cons (ps_set (i := 2) sc_least_edits.nd rfl (.inl rfl) (pe_call (ok_least_numbers T) (hr.mono (by decide)) (by rfl) T.g_least_numbers T.F_least_numbers.kp T.b_least_numbers .nil pass0 (pa_cons (pv 0) (pa_cons (pv 1) pa_nil))))
    (pss_cons (ps_set (i := 3) sc_least_edits.nd rfl (.inl rfl) (pe_lst pa_nil))
    (pss_cons (ps_par (i := 4) (j := 5) rfl sc_least_edits.nd rfl rfl (by decide) rfl rfl (pa_cons (pe_callB call_len_str (by rfl) T.m_len PySem.boot_len (pa_cons (pv 0) pa_nil)) (pa_cons (pe_callB call_len_str (by rfl) T.m_len PySem.boot_len (pa_cons (pv 1) pa_nil)) pa_nil)) (by rfl))
    (pss_cons (ps_while (passes_of rfl) (PW.pt (pw_or (pt_cmpR op_gt (pv 4) pe_int (nomark _)) (pw_or1 (pt_cmpR op_gt (pv 5) pe_int (nomark _)))))
      (pss_one (ps_if (PW.pt (pw_and (pt_cmpR op_gt (pv 4) pe_int (nomark _)) (pw_and (pt_cmpR op_gt (pv 5) pe_int (nomark _)) (pw_and1 (pt_cmpR op_eq (pe_ix ix_str (pv 0) (pe_op op_sub (pv 4) pe_int) (fun _ _ => rfl)) (pe_ix ix_str (pv 1) (pe_op op_sub (pv 5) pe_int) (fun _ _ => rfl)) (nomark _))))))
        (pss_cons (ps_aug (i := 4) sc_least_edits.nd rfl (.inl rfl) pe_int ip_sub)
        (pss_one (ps_aug (i := 5) sc_least_edits.nd rfl (.inl rfl) pe_int ip_sub)))
        (pss_one (ps_if (PW.pt (pw_and (pt_cmpR op_gt (pv 4) pe_int (nomark _)) (pw_and (pt_cmpR op_gt (pv 5) pe_int (nomark _)) (pw_and1 (pt_cmpR op_eq (pe_ix ix_list (pe_ix ix_list (pv 2) (pv 4) (fun _ _ => rfl)) (pv 5) (fun _ _ => rfl)) (pe_op op_add (pe_ix ix_list (pe_ix ix_list (pv 2) (pe_op op_sub (pv 4) pe_int) (fun _ _ => rfl)) (pe_op op_sub (pv 5) pe_int) (fun _ _ => rfl)) pe_int) (nomark _))))))
          (pss_cons (ps_aug (i := 4) sc_least_edits.nd rfl (.inl rfl) pe_int ip_sub)
          (pss_cons (ps_aug (i := 5) sc_least_edits.nd rfl (.inl rfl) pe_int ip_sub)
          (pss_one (ps_expr (pe_bm PySem.F.plainAttrs_list PySem.F.slot_list_append PySem.F.type_list_append mt_append (pv 3) (pa_cons (pe_tup (pa_cons pe_str (pa_cons (pv 4) (pa_cons (pe_ix ix_str (pv 1) (pv 5) (fun _ _ => rfl)) pa_nil)))) pa_nil))))))
          (pss_one (ps_if (PW.pt (pw_and (pt_cmpR op_gt (pv 4) pe_int (nomark _)) (pw_and1 (pt_cmpR op_eq (pe_ix ix_list (pe_ix ix_list (pv 2) (pv 4) (fun _ _ => rfl)) (pv 5) (fun _ _ => rfl)) (pe_op op_add (pe_ix ix_list (pe_ix ix_list (pv 2) (pe_op op_sub (pv 4) pe_int) (fun _ _ => rfl)) (pv 5) (fun _ _ => rfl)) pe_int) (nomark _)))))
            (pss_cons (ps_aug (i := 4) sc_least_edits.nd rfl (.inl rfl) pe_int ip_sub)
            (pss_one (ps_expr (pe_bm PySem.F.plainAttrs_list PySem.F.slot_list_append PySem.F.type_list_append mt_append (pv 3) (pa_cons (pe_tup (pa_cons pe_str (pa_cons (pv 4) pa_nil))) pa_nil)))))
            (pss_cons (ps_aug (i := 5) sc_least_edits.nd rfl (.inl rfl) pe_int ip_sub)
            (pss_one (ps_expr (pe_bm PySem.F.plainAttrs_list PySem.F.slot_list_append PySem.F.type_list_append mt_append (pv 3) (pa_cons (pe_tup (pa_cons pe_str (pa_cons (pv 4) (pa_cons (pe_ix ix_str (pv 1) (pv 5) (fun _ _ => rfl)) pa_nil)))) pa_nil))))))))))))
    (pss_one (ps_ret (pe_make T.mk_Ways (ok_Ways_init T) (hr.mono (by decide)) (by rfl) T.gC_Ways T.b_Ways_init .nil pass0 (pa_cons (pv 3) pa_nil))))))))), ?_⟩
    refine go_seq (go_drop (go_call (go_cons (go_var rfl (go_cons (go_var rfl (go_nil ⟨x, y, rfl, h.imp fun one other ex ey l1 l2 q => ?_⟩)))))))
    subst ex ey
    dsimp only
    refine go_seq (go_asg (go_call (go_cons (go_var rfl (go_cons (go_var rfl (go_nil ⟨one, other, rfl, by omega, by omega, fun R H1 e1 _ hRo => ?_⟩)))))))
    dsimp only [gName]
    refine go_seq (go_asg (go_lst (go_nil ⟨Nat.zero_le _, fun D0 nD => ?_⟩)))
    have e2 := same_new (o := HO.lst []) nD
    have hRo2 := hRo.same e2
    have hE : EdsL (upd H1 D0 (.lst [])) D0 [] := ⟨[], upd_same, rfl, fun i q e x y => by cases x⟩
    generalize upd H1 D0 (.lst []) = H2 at e2 hE hRo2 ⊢
    dsimp only [gName]
    refine go_seq (go_par (go_cons (go_cb (go_cons (go_var rfl (go_nil ⟨S one, rfl, len_le (by omega), ?_⟩))))))
    refine go_cons (go_cb (go_cons (go_var rfl (go_nil ⟨S other, rfl, len_le (by omega), ?_⟩))))
    rw [S_len, S_len]
    refine go_nil ⟨_, _, rfl, ?_⟩
    dsimp only
    refine go_seq ⟨fun m σ H' => ∃ (i j f : Nat) (es : List Ed), m = i + j ∧ σ = [some (.str (S one)), some (.str (S other)), some (.ref R), some (.ref D0), some (.int (i : Nat)), some (.int (j : Nat))] ∧ i ≤ one.length ∧ j ≤ other.length ∧ Same H1 H' ∧ EdsL H' D0 es ∧ i + j < f ∧ es.length + i + j ≤ 600 ∧ es ++ wayF one other f i j = way one other,
      ⟨_, _, _, _, [], rfl, rfl, Nat.le_refl _, Nat.le_refl _, e2, hE, Nat.lt_succ_self _, by show 0 + one.length + other.length ≤ 600; omega, rfl⟩, fun m σ H' hw => ?_⟩
    clear e2 hE hRo2
    obtain ⟨i, j, f, es, rfl, rfl, hi, hj, e3, hE, hf, hes, hway⟩ := hw
    have cint : ∀ k : Nat, decide ((0 : Int) < (k : Int)) = decide (0 < k) := fun k => by
      by_cases z : 0 < k
      · rw [decide_eq_true z, decide_eq_true (by omega)]
      · rw [decide_eq_false z, decide_eq_false (by omega)]
    refine midT (decide (0 < i ∨ 0 < j)) (fun Q1 q1 => ?_) ?_
    · refine go_or2 (go_test (go_op (go_var rfl (go_c ⟨_, _, rfl, rfl, _, rfl, iteC (fun hh => ?_) (fun hh => ?_)⟩))))
      · have := of_decide_eq_true hh
        rw [decide_eq_true (by omega)] at q1
        exact q1
      · refine go_test (go_op (go_var rfl (go_c ⟨_, _, rfl, rfl, _, rfl, ?_⟩)))
        have := of_decide_eq_false hh
        have e : decide ((0 : Int) < (j : Int)) = decide (0 < i ∨ 0 < j) := by
          by_cases z : 0 < j
          · rw [decide_eq_true (by omega), decide_eq_true (by omega)]
          · rw [decide_eq_false (by omega), decide_eq_false (by omega)]
        rw [e]
        exact q1
    by_cases h0 : 0 < i ∨ 0 < j
    · rw [decide_eq_true h0]
      refine iteT (B := _) ?_
      obtain ⟨f, rfl⟩ : ∃ k, f = k + 1 := ⟨f - 1, by omega⟩
      have hway0 := hway
      unfold wayF at hway
      rw [if_neg (by omega)] at hway
      have hRo3 := hRo.same e3
      have rows : ∀ (i' j' : Nat), i' ≤ one.length → j' ≤ other.length → ∃ (ps : List Addr) (p : Addr), H' R = some (.lst (ps.map V.ref)) ∧ atI (ps.map V.ref) (i' : Int) = some (.ref p) ∧ H' p = some (.lst (nv (rowD one other i' other.length))) ∧ atI (nv (rowD one other i' other.length)) (j' : Int) = some (.int (D one other i' j' : Nat)) := fun i' j' h1 h2 => by
        obtain ⟨ps, p, a1, a2, a3, a4, _⟩ := hRo3.get h1
        exact ⟨ps, p, a1, a3, a4, rowD_at h2⟩
      have hND : D0 ≠ R := fun z => by
        obtain ⟨ps, a1, _⟩ := hRo
        rw [← z, nD] at a1
        cases a1
      refine ⟨fun σ' H2 => ∃ m', m' < i + j ∧ ∃ (i j f : Nat) (es : List Ed), m' = i + j ∧ σ' = [some (.str (S one)), some (.str (S other)), some (.ref R), some (.ref D0), some (.int (i : Nat)), some (.int (j : Nat))] ∧ i ≤ one.length ∧ j ≤ other.length ∧ Same H1 H2 ∧ EdsL H2 D0 es ∧ i + j < f ∧ es.length + i + j ≤ 600 ∧ es ++ wayF one other f i j = way one other, fun _ _ h => h, ?_⟩
      -- one edit more
      have add : ∀ (t : Addr) (e : Ed) (i2 j2 : Nat), H' t = none → i2 + j2 < i + j → i2 ≤ i → j2 ≤ j → es ++ e :: wayF one other f i2 j2 = way one other → ∃ ps : List Addr, upd H' t (.tup e.vs) D0 = some (.lst (ps.map V.ref)) ∧ ps.length = es.length ∧
          Same H1 (upd (upd H' t (.tup e.vs)) D0 (.lst (ps.map V.ref ++ [.ref t]))) ∧ EdsL (upd (upd H' t (.tup e.vs)) D0 (.lst (ps.map V.ref ++ [.ref t]))) D0 (es ++ [e]) ∧ (es ++ [e]).length + i2 + j2 ≤ 600 ∧ (es ++ [e]) ++ wayF one other f i2 j2 = way one other := fun t e i2 j2 nt hlt hi2 hj2 hw => by
        have x1 := same_new (o := HO.tup e.vs) nt
        have hE2 := hE.same x1
        obtain ⟨ps, a1, a2, a3⟩ := id hE2
        have htD : t ≠ D0 := fun z => by
          obtain ⟨ps, b1, _⟩ := hE
          rw [z, b1] at nt
          cases nt
        refine ⟨ps, a1, a2, same_put nD (e3.trans x1), hE2.add (Mv.upd _ _ _) (by rw [upd_ne htD]; exact upd_same) (fun ps' h => ?_), ?_, ?_⟩
        · rw [a1] at h
          injection h with h
          injection h with h
          rw [upd_same, h]
        · rw [List.length_append]
          show es.length + 1 + i2 + j2 ≤ 600
          omega
        · rw [List.append_assoc]
          exact hw
      have i1 : 0 < i → (i : Int) - 1 = ((i - 1 : Nat) : Int) := fun h => by omega
      have j1 : 0 < j → (j : Int) - 1 = ((j - 1 : Nat) : Int) := fun h => by omega
      refine go_if (midT (decide (0 < i ∧ 0 < j ∧ one.getD (i - 1) 0 = other.getD (j - 1) 0)) (fun Q1 q1 => ?_) ?_)
      · refine go_and2 (go_test (go_op (go_var rfl (go_c ⟨_, _, rfl, rfl, _, rfl, iteC (fun hh => ?_) (fun hh => ?_)⟩))))
        · have p1 : 0 < i := by have := of_decide_eq_true hh; omega
          refine go_and2 (go_test (go_op (go_var rfl (go_c ⟨_, _, rfl, rfl, _, rfl, iteC (fun hh => ?_) (fun hh => ?_)⟩))))
          · have p2 : 0 < j := by have := of_decide_eq_true hh; omega
            have z1 : atI (S one).cps.toList ((i : Int) - 1) = some (one.getD (i - 1) 0) := by
              rw [i1 p1]
              exact sgetD (by omega)
            have z2 : atI (S other).cps.toList ((j : Int) - 1) = some (other.getD (j - 1) 0) := by
              rw [j1 p2]
              exact sgetD (by omega)
            refine go_test (go_op (go_op (go_var rfl (go_op (go_var rfl (go_c ⟨_, _, rfl, rfl, ⟨S one, _, _, rfl, rfl, len_le (by omega), z1, ?_⟩⟩))))))
            refine go_op (go_var rfl (go_op (go_var rfl (go_c ⟨_, _, rfl, rfl, ⟨S other, _, _, rfl, rfl, len_le (by omega), z2, ?_⟩⟩))))
            refine ⟨rfl, _, rfl, ?_⟩
            rw [sign_eq]
            by_cases e : one.getD (i - 1) 0 = other.getD (j - 1) 0
            · rw [decide_eq_true e]
              rw [decide_eq_true ⟨p1, p2, e⟩] at q1
              exact q1
            · rw [decide_eq_false e]
              rw [decide_eq_false (fun z => e z.2.2)] at q1
              exact q1
          · rw [decide_eq_false (fun z => by have := of_decide_eq_false hh; omega)] at q1
            exact q1
        · rw [decide_eq_false (fun z => by have := of_decide_eq_false hh; omega)] at q1
          exact q1
      by_cases c1 : 0 < i ∧ 0 < j ∧ one.getD (i - 1) 0 = other.getD (j - 1) 0
      · rw [decide_eq_true c1]
        rw [if_pos c1] at hway
        refine iteT (B := _) ?_
        refine go_seq (go_aug rfl (go_c ⟨_, _, rfl, rfl, ?_⟩))
        dsimp only
        refine go_aug rfl (go_c ⟨_, _, rfl, rfl, ?_⟩)
        dsimp only
        rw [i1 c1.1, j1 c1.2.1]
        exact ⟨_, (show i - 1 + (j - 1) < i + j by omega), i - 1, j - 1, f, es, rfl, rfl, by omega, by omega, e3, hE, by omega, by omega, hway⟩
      rw [decide_eq_false c1]
      rw [if_neg c1] at hway
      refine iteF (A := _) ?_
      obtain ⟨ps, p, r1, r2, r3, r4⟩ := rows i j hi hj
      refine go_if (midT (decide (0 < i ∧ 0 < j ∧ D one other i j = D one other (i - 1) (j - 1) + 1)) (fun Q1 q1 => ?_) ?_)
      · refine go_and2 (go_test (go_op (go_var rfl (go_c ⟨_, _, rfl, rfl, _, rfl, iteC (fun hh => ?_) (fun hh => ?_)⟩))))
        · have p1 : 0 < i := by have := of_decide_eq_true hh; omega
          refine go_and2 (go_test (go_op (go_var rfl (go_c ⟨_, _, rfl, rfl, _, rfl, iteC (fun hh => ?_) (fun hh => ?_)⟩))))
          · have p2 : 0 < j := by have := of_decide_eq_true hh; omega
            obtain ⟨ps2, p3, s1, s2, s3, s4⟩ := rows (i - 1) (j - 1) (by omega) (by omega)
            rw [← i1 p1] at s2
            rw [← j1 p2] at s4
            refine go_test (go_op (go_op (go_op (go_var rfl (go_var rfl ⟨R, _, _, _, rfl, rfl, .inl (.inl r1), r2, go_var rfl ⟨p, _, _, _, rfl, rfl, .inl (.inl r3), r4, ?_⟩⟩)))))
            refine go_op (go_op (go_op (go_var rfl (go_op (go_var rfl (go_c ⟨_, _, rfl, rfl, ⟨R, _, _, _, rfl, rfl, .inl (.inl s1), s2, ?_⟩⟩))))))
            refine go_op (go_var rfl (go_c ⟨_, _, rfl, rfl, ⟨p3, _, _, _, rfl, rfl, .inl (.inl s3), s4, ?_⟩⟩))
            refine go_c ⟨_, _, rfl, rfl, ⟨rfl, _, rfl, ?_⟩⟩
            rw [eqi]
            by_cases e : D one other i j = D one other (i - 1) (j - 1) + 1
            · rw [decide_eq_true (by omega)]
              rw [decide_eq_true ⟨p1, p2, e⟩] at q1
              exact q1
            · rw [decide_eq_false (by omega)]
              rw [decide_eq_false (fun z => e z.2.2)] at q1
              exact q1
          · rw [decide_eq_false (fun z => by have := of_decide_eq_false hh; omega)] at q1
            exact q1
        · rw [decide_eq_false (fun z => by have := of_decide_eq_false hh; omega)] at q1
          exact q1
      by_cases c2 : 0 < i ∧ 0 < j ∧ D one other i j = D one other (i - 1) (j - 1) + 1
      · rw [decide_eq_true c2]
        rw [if_pos c2] at hway
        refine iteT (B := _) ?_
        refine go_seq (go_aug rfl (go_c ⟨_, _, rfl, rfl, ?_⟩))
        dsimp only
        rw [i1 c2.1]
        refine go_seq (go_aug rfl (go_c ⟨_, _, rfl, rfl, ?_⟩))
        dsimp only
        rw [j1 c2.2.1]
        obtain ⟨qs, b1, _⟩ := id hE
        refine ⟨_, rfl, .inl ⟨rfl, _, .inl (.inl b1)⟩, ?_⟩
        refine go_cons (go_tup (go_cons (go_c (go_cons (go_var rfl (go_cons (go_op (go_var rfl (go_var rfl ⟨S other, _, _, rfl, rfl, len_le (by omega), sgetD (a := j - 1) (by omega), ?_⟩)))))))))
        refine go_nil ⟨sz3, fun t nt => go_nil ?_⟩
        obtain ⟨ps, a1, a2, a3, a4, a5, a6⟩ := add t (.chg (i - 1) (other.getD (j - 1) 0)) (i - 1) (j - 1) nt (by omega) (by omega) (by omega) hway
        refine ⟨D0, _, _, rfl, rfl, a1, ?_, ?_⟩
        · rw [List.length_map, a2]
          exact Nat.lt_of_lt_of_le (show es.length < 601 by omega) (by decide)
        · exact ⟨_, (show i - 1 + (j - 1) < i + j by omega), i - 1, j - 1, f, _, rfl, rfl, by omega, by omega, a3, a4, by omega, a5, a6⟩
      rw [decide_eq_false c2]
      rw [if_neg c2] at hway
      refine iteF (A := _) ?_
      refine go_if (midT (decide (0 < i ∧ D one other i j = D one other (i - 1) j + 1)) (fun Q1 q1 => ?_) ?_)
      · refine go_and2 (go_test (go_op (go_var rfl (go_c ⟨_, _, rfl, rfl, _, rfl, iteC (fun hh => ?_) (fun hh => ?_)⟩))))
        · have p1 : 0 < i := by have := of_decide_eq_true hh; omega
          obtain ⟨ps2, p3, s1, s2, s3, s4⟩ := rows (i - 1) j (by omega) hj
          rw [← i1 p1] at s2
          refine go_test (go_op (go_op (go_op (go_var rfl (go_var rfl ⟨R, _, _, _, rfl, rfl, .inl (.inl r1), r2, go_var rfl ⟨p, _, _, _, rfl, rfl, .inl (.inl r3), r4, ?_⟩⟩)))))
          refine go_op (go_op (go_op (go_var rfl (go_op (go_var rfl (go_c ⟨_, _, rfl, rfl, ⟨R, _, _, _, rfl, rfl, .inl (.inl s1), s2, ?_⟩⟩))))))
          refine go_var rfl ⟨p3, _, _, _, rfl, rfl, .inl (.inl s3), s4, ?_⟩
          refine go_c ⟨_, _, rfl, rfl, ⟨rfl, _, rfl, ?_⟩⟩
          rw [eqi]
          by_cases e : D one other i j = D one other (i - 1) j + 1
          · rw [decide_eq_true (by omega)]
            rw [decide_eq_true ⟨p1, e⟩] at q1
            exact q1
          · rw [decide_eq_false (by omega)]
            rw [decide_eq_false (fun z => e z.2)] at q1
            exact q1
        · rw [decide_eq_false (fun z => by have := of_decide_eq_false hh; omega)] at q1
          exact q1
      by_cases c3 : 0 < i ∧ D one other i j = D one other (i - 1) j + 1
      · rw [decide_eq_true c3]
        rw [if_pos c3] at hway
        refine iteT (B := _) ?_
        refine go_seq (go_aug rfl (go_c ⟨_, _, rfl, rfl, ?_⟩))
        dsimp only
        rw [i1 c3.1]
        obtain ⟨qs, b1, _⟩ := id hE
        refine ⟨_, rfl, .inl ⟨rfl, _, .inl (.inl b1)⟩, ?_⟩
        refine go_cons (go_tup (go_cons (go_c (go_cons (go_var rfl (go_nil ⟨sz2, fun t nt => go_nil ?_⟩))))))
        obtain ⟨ps, a1, a2, a3, a4, a5, a6⟩ := add t (.lost (i - 1)) (i - 1) j nt (by omega) (by omega) (by omega) hway
        refine ⟨D0, _, _, rfl, rfl, a1, ?_, ?_⟩
        · rw [List.length_map, a2]
          exact Nat.lt_of_lt_of_le (show es.length < 601 by omega) (by decide)
        · exact ⟨_, (show i - 1 + j < i + j by omega), i - 1, j, f, _, rfl, rfl, by omega, by omega, a3, a4, by omega, a5, a6⟩
      rw [decide_eq_false c3]
      rw [if_neg c3] at hway
      refine iteF (A := _) ?_
      have hj0 : 0 < j := by
        rcases Nat.eq_zero_or_pos j with rfl | h
        · refine absurd ⟨by omega, ?_⟩ c3
          rw [D_zero2 one other hi, D_zero2 one other (by omega)]
          omega
        · exact h
      refine go_seq (go_aug rfl (go_c ⟨_, _, rfl, rfl, ?_⟩))
      dsimp only
      rw [j1 hj0]
      obtain ⟨qs, b1, _⟩ := id hE
      refine ⟨_, rfl, .inl ⟨rfl, _, .inl (.inl b1)⟩, ?_⟩
      refine go_cons (go_tup (go_cons (go_c (go_cons (go_var rfl (go_cons (go_op (go_var rfl (go_var rfl ⟨S other, _, _, rfl, rfl, len_le (by omega), sgetD (a := j - 1) (by omega), ?_⟩)))))))))
      refine go_nil ⟨sz3, fun t nt => go_nil ?_⟩
      obtain ⟨ps, a1, a2, a3, a4, a5, a6⟩ := add t (.put i (other.getD (j - 1) 0)) i (j - 1) nt (by omega) (by omega) (by omega) hway
      refine ⟨D0, _, _, rfl, rfl, a1, ?_, ?_⟩
      · rw [List.length_map, a2]
        exact Nat.lt_of_lt_of_le (show es.length < 601 by omega) (by decide)
      · exact ⟨_, (show i + (j - 1) < i + j by omega), i, j - 1, f, _, rfl, rfl, by omega, by omega, a3, a4, by omega, a5, a6⟩
    · rw [decide_eq_false h0]
      refine iteF (A := _) ?_
      have hw : es = way one other := by
        rw [← hway]
        cases f with
        | zero => omega
        | succ f =>
          unfold wayF
          rw [if_pos (by omega), List.append_nil]
      subst hw
      dsimp only
      refine go_ret (go_make (go_cons (go_var rfl (go_nil fun a dx na ndx _ => ?_))))
      have ms : Same H' (upd (upd H' dx (HO.own a)) a (HO.ins T.C_Ways dx [])) := fun b u h => by
        rw [upd_ne (ne_of_none h na), upd_ne (ne_of_none h ndx)]
        exact h
      refine ⟨a, dx, D0, way one other, rfl, upd_same, hE.same ms, by omega, fun H9 m9 hA => ⟨rfl, ?_⟩⟩
      exact q a H9 (e1.trans (e3.trans fun b u h => m9 b u (ne_of_none h na) (ms b u h))) hA
end
end K06
namespace K06
open PySem PySem.Spec PyProof.Rows L2 Kx SX LamX Ms PnX
open Lev
theorem ixN_n {n k : Nat} (h : k < n) : ixN n (k : Int) = some k := by
  unfold ixN
  rw [if_pos (by omega), if_pos (by omega)]
  rfl
theorem nv_set (r : List Nat) (j x : Nat) : (nv r).set j (V.int (x : Nat)) = nv (r.set j x) := by
  unfold nv iv
  rw [← List.map_set, ← List.map_set]
/-- a row that is one sign on up to j -/
def mixD (one other : List Nat) (i j : Nat) : List Nat := (List.range (other.length + 1)).map fun p => if p ≤ j then D one other (i + 1) p else D one other i p
theorem mixD_len (one other : List Nat) (i j : Nat) : (mixD one other i j).length = other.length + 1 := by
  unfold mixD
  rw [List.length_map, List.length_range]
theorem mixD_get {one other : List Nat} {i j k : Nat} (h : k ≤ other.length) : (mixD one other i j).getD k 0 = if k ≤ j then D one other (i + 1) k else D one other i k := by
  unfold mixD
  rw [List.getD_eq_getElem?_getD, List.getElem?_map, List.getElem?_range (by omega)]
  rfl
theorem mixD_el {one other : List Nat} {i j p : Nat} (h : p < (mixD one other i j).length) : (mixD one other i j)[p] = if p ≤ j then D one other (i + 1) p else D one other i p := by
  simp [mixD]
theorem rowD_el {one other : List Nat} {i j p : Nat} (h : p < (rowD one other i j).length) : (rowD one other i j)[p] = D one other i p := by
  simp [rowD]
theorem mixD_set {one other : List Nat} {i j : Nat} (h : j + 1 ≤ other.length) : (mixD one other i j).set (j + 1) (D one other (i + 1) (j + 1)) = mixD one other i (j + 1) := by
  refine List.ext_getElem (by rw [List.length_set, mixD_len, mixD_len]) fun p h1 h2 => ?_
  rw [mixD_len] at h2
  rw [List.getElem_set, mixD_el, mixD_el]
  by_cases e : j + 1 = p
  · rw [if_pos e, if_pos (by omega), e]
  · rw [if_neg e]
    by_cases e2 : p ≤ j
    · rw [if_pos e2, if_pos (by omega)]
    · rw [if_neg e2, if_neg (by omega)]
theorem mixD_zero {one other : List Nat} {i : Nat} (h : i < one.length) : (rowD one other i other.length).set 0 (i + 1) = mixD one other i 0 := by
  refine List.ext_getElem (by rw [List.length_set, rowD_len, mixD_len]) fun p h1 h2 => ?_
  rw [mixD_len] at h2
  rw [List.getElem_set, mixD_el, rowD_el]
  by_cases e : 0 = p
  · rw [if_pos e, if_pos (by omega), ← e, D_zero2 one other (by omega)]
  · rw [if_neg e, if_neg (by omega)]
theorem mixD_end (one other : List Nat) (i : Nat) : mixD one other i other.length = rowD one other (i + 1) other.length := by
  unfold mixD rowD
  refine List.map_congr_left fun p hp => ?_
  rw [if_pos (by have := List.mem_range.mp hp; omega)]
theorem sign_ne (c x : Nat) : (!decide (V.str (S [c]) = V.str (S [x]))) = decide (c ≠ x) := by
  rw [sign_eq]
  by_cases h : c = x
  · rw [decide_eq_true h, decide_eq_false (fun z => z h)]
    rfl
  · rw [decide_eq_false h, decide_eq_true h]
    rfl
section
variable {P : Program} {w : World} {K : PySem.W.Frag} {mg : Str → Option Value} {base : Heap} (T : Tx K mg)
/-! ### papers alike -/
theorem kitOne_above {C D : Addr} (h1 : PySem.W.isClsIn K C = true) (h2 : PySem.W.typeIn K (.ref C) = some (.type "type")) (h3 : PySem.W.subIn K (.ref D) (.ref C) = some true) : PySem.W.kitOne K (.ref D) (.ref C) = some true := by
  unfold PySem.W.kitOne
  by_cases e : D = C
  · rw [if_pos (by simpa using e)]
  rw [if_neg (by simpa using e)]
  unfold PySem.W.kitCls
  have h1' : (PySem.W.clsIn K C).isSome = true := h1
  dsimp only
  rw [h1', h2]
  exact h3
/-- a class of papers -/
structure PCls (K : PySem.W.Frag) (CP C : Addr) (nm : Str) : Prop where
  cl : Cls K C
  nw : NoAttr K C "word"
  np : NoAttr K C "parts"
  cn : SupX.CNm K C nm
  su : PySem.W.kitOne K (.ref C) (.ref CP) = some true
/-- a paper: its word, its parts -/
def PapAt (K : PySem.W.Frag) (H : Hp) (C a : Addr) (wd : PyData) (ds : List PyData) : Prop := ∃ (dx : Addr) (w p : V) (fs : List (Str × V)), H a = some (.ins C dx (("word", w) :: ("parts", p) :: fs)) ∧ Dp K H w wd ∧ Dp K H p (.tuple ds)
def paperD (wd : PyData) (ds : List PyData) : PyData := .tuple [wd, .tuple ds]
def sp_alike (K : PySem.W.Frag) (CP : Addr) : Sp := fun vs H Q _ => ∃ (a b C : Addr) (nm : Str) (wd wd2 : PyData) (ds ds2 : List PyData), vs = [.ref a, .ref b] ∧ PCls K CP C nm ∧ PapAt K H C a wd ds ∧ PapAt K H C b wd2 ds2 ∧ SeqAt.shaped (paperD wd ds) = true ∧ SeqAt.shaped (paperD wd2 ds2) = true ∧
  ∀ H', Same H H' → Q (.bl (PyData.eqv (paperD wd ds) (paperD wd2 ds2))) H'
theorem ok_are_alike : FnOk P w K mg base CX0 1 T.f_are_alike T.fd_are_alike ["paper", "other"] (sp_alike K T.C_Paper) := by
  refine T.F_are_alike.ok sc_are_alike (fun vs H Q E h => ?_) (fun cdv A outer s H vs Q E hr h => ?_)
  · obtain ⟨a, b, C, nm, wd, wd2, ds, ds2, rfl, _⟩ := h
    rfl
  · obtain ⟨a, b, C, nm, wd, wd2, ds, ds2, rfl, c, ⟨dx, w1, p1, fs, ha, hw1, hp1⟩, ⟨dy, w2, p2, fs2, hb, hw2, hp2⟩, s1, s2, q⟩ := h
    refine ⟨_, (pss_cons (ps_if (pt_not (pt_val (pe_callB call_isi (by rfl) T.m_isinstance (by decide +kernel) (pa_cons (pv 1) (pa_cons (pe_glob (v := .ref T.C_Paper) (by rfl) T.gC_Paper rfl) pa_nil)))))
      (pss_one (ps_ret pe_bl))
      pss_nil)
    (pss_cons (ps_if (pt_cmpR op_ne (SupX.pe_cname (SupX.pe_class (pv 0))) (SupX.pe_cname (SupX.pe_class (pv 1))) (nomark _))
      (pss_one (ps_ret pe_bl))
      pss_nil)
    (pss_one (ps_ret (pe_cmpR (op_eqD hr.units) (pe_tup (pa_cons (pe_fld (pv 0) rfl) (pa_cons (pe_fld (pv 0) rfl) pa_nil))) (pe_tup (pa_cons (pe_fld (pv 1) rfl) (pa_cons (pe_fld (pv 1) rfl) pa_nil))) (nomark _)))))), ?_⟩
    refine go_seq (go_if (go_not (go_b ⟨_, rfl, .ref b, .ref T.C_Paper, _, _, true, rfl, .own _, .base (.ins hb c.cl c.cn.ca c.cn.cn c.cn.ct c.cn.ob), c.su, _, rfl, iteF (A := _) ?_⟩)))
    dsimp only [tNext]
    refine go_seq (go_if (go_test (go_op ?_)))
    refine go_var rfl ⟨a, C, dx, _, nm, rfl, ha, c.cl, c.cn, C, nm, rfl, c.cn, ?_⟩
    refine go_var rfl ⟨b, C, dy, _, nm, rfl, hb, c.cl, c.cn, C, nm, rfl, c.cn, ?_⟩
    refine ⟨rfl, false, ?_, iteF (A := _) ?_⟩
    · rw [ne_self]
    dsimp only [tNext]
    refine go_ret (go_op (go_tup ?_))
    refine go_cons (go_fld (go_var rfl ⟨a, C, dx, _, w1, rfl, ha, c.cl, c.nw, rfl, ?_⟩))
    refine go_cons (go_fld (go_var rfl ⟨a, C, dx, _, p1, rfl, ha, c.cl, c.np, rfl, ?_⟩))
    refine go_nil ⟨sz2, fun t1 n1 => ?_⟩
    have e1 := same_new (o := HO.tup [w1, p1]) n1
    refine go_tup ?_
    refine go_cons (go_fld (go_var rfl ⟨b, C, dy, _, w2, rfl, e1 _ _ hb, c.cl, c.nw, rfl, ?_⟩))
    refine go_cons (go_fld (go_var rfl ⟨b, C, dy, _, p2, rfl, e1 _ _ hb, c.cl, c.np, rfl, ?_⟩))
    refine go_nil ⟨sz2, fun t2 n2 => ?_⟩
    have e2 := same_new (o := HO.tup [w2, p2]) n2
    have e3 := e1.trans e2
    exact ⟨paperD wd ds, paperD wd2 ds2, .tup (.inl (.inl (e2 _ _ upd_same))) (.cons (dp_same e3 _ _ hw1) (.cons (dp_same e3 _ _ hp1) .nil)), .tup (.inl (.inl upd_same)) (.cons (dp_same e3 _ _ hw2) (.cons (dp_same e3 _ _ hp2) .nil)), s1, s2, q _ e3⟩
theorem ok_Paper_eq : FnOk P w K mg base CX0 2 T.f_Paper_eq T.fd_Paper_eq ["self", "other"] (sp_alike K T.C_Paper) := by
  refine T.F_Paper_eq.ok sc_Paper_eq (fun vs H Q E h => ?_) (fun cdv A outer s H vs Q E hr h => ?_)
  · obtain ⟨a, b, C, nm, wd, wd2, ds, ds2, rfl, _⟩ := h
    rfl
  · have h0 := h
    obtain ⟨a, b, C, nm, wd, wd2, ds, ds2, rfl, _⟩ := h
    refine ⟨_, (pss_one (ps_ret (pe_call (ok_are_alike T) (hr.mono (by decide)) (by rfl) T.g_are_alike T.F_are_alike.kp T.b_are_alike .nil pass0 (pa_cons (pv 0) (pa_cons (pv 1) pa_nil))))), ?_⟩
    exact go_ret (go_call (go_cons (go_var rfl (go_cons (go_var rfl (go_nil h0))))))
def sp_Paper_bool : Sp := fun vs H Q _ => ∃ a : Addr, vs = [.ref a] ∧ Q (.bl true) H
theorem ok_Paper_bool : FnOk P w K mg base CX0 1 T.f_Paper_bool T.fd_Paper_bool ["self"] sp_Paper_bool := by
  refine T.F_Paper_bool.ok sc_Paper_bool (fun vs H Q E h => ?_) (fun cdv A outer s H vs Q E hr h => ?_)
  · obtain ⟨a, rfl, _⟩ := h
    rfl
  · obtain ⟨a, rfl, q⟩ := h
    refine ⟨_, (pss_one (ps_ret pe_bl)), ?_⟩
    exact go_ret (go_c q)
def sp_law_apart : Sp := fun vs H Q _ => ∃ one other : List Nat, vs = [.str (S one), .str (S other)] ∧ one.length ≤ 1000 ∧ other.length ≤ 1000 ∧ ∀ H', Same H H' → Q (.int (far one other : Nat)) H'
theorem ok_law_apart : FnOk P w K mg base CX0 1 T.f_law_apart T.fd_law_apart ["one", "other"] sp_law_apart := by
  refine T.F_law_apart.ok sc_law_apart (fun vs H Q E h => ?_) (fun cdv A outer s H vs Q E hr h => ?_)
  · obtain ⟨one, other, rfl, _⟩ := h
    rfl
  · obtain ⟨one, other, rfl, l1, l2, q⟩ := h
    refine ⟨_, (pss_cons (ps_set (i := 2) sc_law_apart.nd rfl (.inl rfl) (pe_listRg rfl (by rfl) T.m_list (prg_1 (by rfl) T.m_range (pe_op op_add (pe_callB call_len_str (by rfl) T.m_len PySem.boot_len (pa_cons (pv 1) pa_nil)) pe_int))))
    (pss_cons (ps_for PassesOwn.never rfl (pi_enumS (by rfl) T.m_enumerate (pa_cons (pv 0) pa_nil)) (pg_tup rfl (pgs_cons (pg_name (i := 3) sc_law_apart.nd rfl (.inl rfl)) (pgs_cons (pg_name (i := 4) sc_law_apart.nd rfl (.inl rfl)) pgs_nil)))
      (pss_cons (ps_asg (pe_tup (pa_cons (pe_ix ix_list (pv 2) pe_int (fun _ _ => rfl)) (pa_cons (pe_op op_add (pv 3) pe_int) pa_nil))) (pg_tup rfl (pgs_cons (pg_name (i := 5) sc_law_apart.nd rfl (.inl rfl)) (pgs_cons (pg_sub (pv 2) pe_int set_list) pgs_nil))))
      (pss_one (ps_for PassesOwn.never rfl (pi_enumS (by rfl) T.m_enumerate (pa_cons (pv 1) pa_nil)) (pg_tup rfl (pgs_cons (pg_name (i := 6) sc_law_apart.nd rfl (.inl rfl)) (pgs_cons (pg_name (i := 7) sc_law_apart.nd rfl (.inl rfl)) pgs_nil)))
        (pss_cons (ps_set (i := 8) sc_law_apart.nd rfl (.inl rfl) (pe_ix ix_list (pv 2) (pe_op op_add (pv 6) pe_int) (fun _ _ => rfl)))
        (pss_cons (ps_asg (pe_callB (call_min3Nu rfl) (by rfl) T.m_min (by decide +kernel) (pa_cons (pe_op op_add (pv 8) pe_int) (pa_cons (pe_op op_add (pe_ix ix_list (pv 2) (pv 6) (fun _ _ => rfl)) pe_int) (pa_cons (pe_op op_add (pv 5) (pe_callTy call_int1 (by rfl) T.m_int (by decide +kernel) (pa_cons (pe_cmpR op_ne (pv 4) (pv 7) (nomark _)) pa_nil))) pa_nil)))) (pg_sub (pv 2) (pe_op op_add (pv 6) pe_int) set_list))
        (pss_one (ps_set (i := 5) sc_law_apart.nd rfl (.inl rfl) (pv 8)))))))))
    (pss_one (ps_ret (pe_ix ix_list (pv 2) (pe_callB call_len_str (by rfl) T.m_len PySem.boot_len (pa_cons (pv 1) pa_nil)) (fun _ _ => rfl)))))), ?_⟩
    refine go_seq (go_asg ⟨_, rfl, S other, rfl, len_le (by omega), ?_⟩)
    rw [lenS]
    refine ⟨_, _, rfl, rfl, _, rfl, RgOk.of_le (Int.le_refl 0) (by omega) (by decide) (by omega), fun R nR => ?_⟩
    rw [show (other.length : Int) + 1 = ((other.length + 1 : Nat) : Int) from rfl, rg_nv, rowD_zero one other]
    have e1 := same_new (o := HO.lst (nv (rowD one other 0 other.length))) nR
    have hR : upd H R (HO.lst (nv (rowD one other 0 other.length))) R = some (.lst (nv (rowD one other 0 other.length))) := upd_same
    generalize upd H R (HO.lst (nv (rowD one other 0 other.length))) = H1 at e1 hR ⊢
    dsimp only [gName]
    refine go_seq ⟨_, rfl, S one, rfl, for_it (walk_enumS (x := S one)) (fun i σ Hc => ∃ (o3 o4 o5 o6 o7 o8 : Option V), σ = [some (.str (S one)), some (.str (S other)), some (.ref R), o3, o4, o5, o6, o7, o8] ∧ Same H Hc ∧ Hc R = some (.lst (nv (rowD one other i other.length))))
      ⟨_, _, _, _, _, _, rfl, e1, hR⟩ (fun _ _ _ _ _ => trivial) (fun i x σ' Hc Hx hi p y => ?_) (fun σ' Hc p => ?_)⟩
    · clear hR e1
      obtain ⟨o3, o4, o5, o6, o7, o8, rfl, e1, hR⟩ := p
      obtain ⟨t, c, rfl, nt, rfl, hc⟩ := y
      have hc' := sgt hc
      have hi2 := (List.getElem?_eq_some_iff.mp hc').1
      have x1 := same_new (o := HO.tup [.int (i : Nat), .str ⟨#[c]⟩]) nt
      refine ⟨t, _, rfl, .inl (.inl upd_same), rfl, _, _, rfl, _, _, rfl, rfl, ?_⟩
      have e1 := e1.trans x1
      have hR := x1 _ _ hR
      generalize upd Hc t (HO.tup [.int (i : Nat), .str ⟨#[c]⟩]) = H2 at e1 hR ⊢
      clear x1 nt
      dsimp only
      refine go_seq (go_asg (go_tup (go_cons ⟨_, rfl, R, _, ((0 : Nat) : Int), _, rfl, rfl, .inl (.inl hR), rowD_at (Nat.zero_le _), ?_⟩)))
      refine go_cons ⟨_, rfl, (i : Int), 1, rfl, rfl, ?_⟩
      dsimp only
      rw [show (i : Int) + 1 = ((i + 1 : Nat) : Int) from rfl]
      refine go_nil ⟨sz2, fun t nt => ?_⟩
      have x1 := same_new (o := HO.tup [.int (D one other i 0 : Nat), .int ((i + 1 : Nat) : Int)]) nt
      have hR' := x1 _ _ hR
      refine ⟨t, _, rfl, .inl (.inl upd_same), rfl, _, _, rfl, _, _, rfl, _, rfl, R, _, 0, 0, rfl, rfl, hR', ?_, rfl, ?_⟩
      · rw [nv_len, rowD_len]
        exact ixN_n (k := 0) (by omega)
      rw [nv_set, mixD_zero hi2]
      have e1 := same_put (o := .lst (nv (mixD one other i 0))) nR (e1.trans x1)
      have hR : upd (upd H2 t (HO.tup [.int (D one other i 0 : Nat), .int ((i + 1 : Nat) : Int)])) R (.lst (nv (mixD one other i 0))) R = some (.lst (nv (mixD one other i 0))) := upd_same
      generalize upd (upd H2 t (HO.tup [.int (D one other i 0 : Nat), .int ((i + 1 : Nat) : Int)])) R (.lst (nv (mixD one other i 0))) = H3 at e1 hR ⊢
      clear x1 nt hR'
      refine ⟨_, rfl, S other, rfl, for_it (walk_enumS (x := S other)) (fun j σ Hc => ∃ (o6 o7 o8 : Option V), σ = [some (.str (S one)), some (.str (S other)), some (.ref R), some (.int (i : Nat)), some (.str (S [c])), some (.int (D one other i j : Nat)), o6, o7, o8] ∧ Same H Hc ∧ Hc R = some (.lst (nv (mixD one other i j))))
        ⟨_, _, _, rfl, e1, hR⟩ (fun _ _ _ _ _ => trivial) (fun j x σ' Hc Hx hj p y => ?_) (fun σ' Hc p => ?_)⟩
      · clear hR e1
        obtain ⟨o6, o7, o8, rfl, e1, hR⟩ := p
        obtain ⟨t, d, rfl, nt, rfl, hd⟩ := y
        have hd' := sgt hd
        have hj2 := (List.getElem?_eq_some_iff.mp hd').1
        have x1 := same_new (o := HO.tup [.int (j : Nat), .str ⟨#[d]⟩]) nt
        refine ⟨t, _, rfl, .inl (.inl upd_same), rfl, _, _, rfl, _, _, rfl, rfl, ?_⟩
        have e1 := e1.trans x1
        have hR := x1 _ _ hR
        generalize upd Hc t (HO.tup [.int (j : Nat), .str ⟨#[d]⟩]) = H4 at e1 hR ⊢
        clear x1 nt
        have m1 : atI (nv (mixD one other i j)) ((j + 1 : Nat) : Int) = some (.int (D one other i (j + 1) : Nat)) := by
          rw [nv_at (by rw [mixD_len]; omega), mixD_get (by omega), if_neg (by omega)]
        have m2 : atI (nv (mixD one other i j)) (j : Int) = some (.int (D one other (i + 1) j : Nat)) := by
          rw [nv_at (by rw [mixD_len]; omega), mixD_get (by omega), if_pos (Nat.le_refl _)]
        dsimp only
        refine go_seq (go_asg ⟨_, rfl, _, rfl, (j : Int), 1, rfl, rfl, R, _, ((j + 1 : Nat) : Int), _, rfl, rfl, .inl (.inl hR), m1, ?_⟩)
        dsimp only [gName]
        refine go_seq (go_asg (go_cb (go_cons ⟨_, rfl, _, 1, rfl, rfl, ?_⟩)))
        refine go_cons ⟨_, rfl, _, rfl, R, _, (j : Int), _, rfl, rfl, .inl (.inl hR), m2, _, 1, rfl, rfl, ?_⟩
        dsimp only
        have hcost : (if (!decide (V.str (S [c]) = V.str ⟨#[d]⟩)) = true then (1 : Int) else 0) = ((if c = d then 0 else 1 : Nat) : Int) := by
          have hs : (!decide (V.str (S [c]) = V.str ⟨#[d]⟩)) = decide (c ≠ d) := sign_ne c d
          rw [hs]
          by_cases h : c = d
          · rw [if_pos h, decide_eq_false (fun z => z h)]
            rfl
          · rw [if_neg h, decide_eq_true h]
            rfl
        refine go_cons ⟨_, rfl, go_cb (go_cons ⟨_, rfl, _, rfl, rfl, go_nil (.inr ⟨_, rfl, (D one other i j : Int), _, rfl, rfl, ?_⟩)⟩)⟩
        dsimp only
        rw [hcost]
        have hB := D_both hc' hd'
        generalize (if c = d then 0 else 1 : Nat) = cost at hB ⊢
        obtain ⟨z, hz, z1, z2, z3, z4⟩ := min3_int ((D one other i (j + 1) : Nat) + 1) ((D one other (i + 1) j : Nat) + 1) ((D one other i j : Nat) + (cost : Nat))
        obtain ⟨zn, rfl⟩ : ∃ zn : Nat, z = zn := ⟨z.toNat, by omega⟩
        have hzn : zn = D one other (i + 1) (j + 1) := by omega
        subst hzn
        refine go_nil ⟨_, _, _, _, rfl, hz, ?_⟩
        refine ⟨_, rfl, _, rfl, (j : Int), 1, rfl, rfl, R, _, ((j + 1 : Nat) : Int), j + 1, rfl, rfl, hR, by rw [nv_len, mixD_len]; exact ixN_n (by omega), ?_⟩
        rw [nv_set, mixD_set (by omega)]
        have e1 := same_put (o := .lst (nv (mixD one other i (j + 1)))) nR e1
        have hR : upd H4 R (.lst (nv (mixD one other i (j + 1)))) R = some (.lst (nv (mixD one other i (j + 1)))) := upd_same
        generalize upd H4 R (.lst (nv (mixD one other i (j + 1)))) = H5 at e1 hR ⊢
        dsimp only
        refine go_asg (go_var rfl ?_)
        dsimp only [gName]
        exact ⟨_, _, _, rfl, e1, hR⟩
      · obtain ⟨o6, o7, o8, rfl, e1, hR⟩ := p
        have esz : (S other).cps.size = other.length := by simp [S]
        rw [esz, mixD_end] at hR
        exact ⟨_, _, _, _, _, _, rfl, e1, hR⟩
    · obtain ⟨o3, o4, o5, o6, o7, o8, rfl, e1, hR⟩ := p
      have esz : (S one).cps.size = one.length := by simp [S]
      rw [esz] at hR
      dsimp only
      refine go_ret ⟨_, rfl, _, rfl, S other, rfl, len_le (by omega), ?_⟩
      rw [lenS]
      refine ⟨R, _, _, _, rfl, rfl, .inl (.inl hR), rowD_at (Nat.le_refl _), ?_⟩
      rw [D_far]
      exact q _ e1
/-- papers of ways -/
theorem ways_cls : PCls K T.C_Paper T.C_Ways "Ways" := ⟨T.cl_Ways, T.na_Ways_word, T.na_Ways_parts, T.cn_Ways, kitOne_above T.kc_Paper T.kt_Paper T.su_Ways_Paper⟩
theorem WaysAt.pap {C a : Addr} {H : Hp} {es : List Ed} (h : WaysAt K C H a es) : PapAt K H C a (.str "ways") [.tuple (es.map (edD true))] := by
  obtain ⟨dx, pt, et, h1, h2, h3⟩ := h
  exact ⟨dx, _, _, _, h1, .str _, .tup h2 (.cons h3.dp .nil)⟩
theorem pl_ways {es : List Ed} (ho : ∀ e ∈ es, e.ok = true) : Pl 4 (paperD (.str "ways") [.tuple (es.map (edD true))]) := Pl.tup fun d m => by
  rcases List.mem_cons.mp m with rfl | m
  · exact ⟨by decide +kernel, Nat.zero_le _⟩
  · rw [List.mem_singleton.mp m]
    exact Pl.tup fun d m => by
      rw [List.mem_singleton.mp m]
      exact eds_plain ho
theorem ways_ne {a a2 : Addr} {H : Hp} {es : List Ed} {Q : VK} (ho : ∀ e ∈ es, e.ok = true) (h1 : WaysAt K T.C_Ways H a es) (h2 : WaysAt K T.C_Ways H a2 es) (q : ∀ H', Same H H' → Q (.bl false) H') : rNeI K T.C_Ways (sp_alike K T.C_Paper) (.ref a) (.ref a2) H Q := by
  obtain ⟨dx, _, _, e1, _⟩ := id h1
  obtain ⟨dx2, _, _, e2, _⟩ := id h2
  refine ⟨a, dx, _, rfl, e1, ⟨a2, rfl, .inl ⟨dx2, _, e2⟩⟩, a, a2, _, _, _, _, _, _, rfl, ways_cls T, h1.pap, h2.pap, (pl_ways ho).shaped (by decide), (pl_ways ho).shaped (by decide), fun H' e => ⟨_, rfl, ?_⟩⟩
  rw [SeqAt.eqv_refl _ (pl_ways ho).1]
  exact q H' e
end
end K06
namespace K06
open PySem PySem.Spec PyProof.Rows L2 Kx SX LamX Ms PnX
/-- what is heard: the word and the part of an error, or what and most, or None -/
def TTh (CT CM : Addr) : (XK → Hp → VK → Prop) → Hp → VK → Prop := fun tl H Q => ∀ N : VK, (∀ v H', (∀ H'', Same H' H'' → Q .non H'') → N v H') →
  tl (fun cls d H' => ∃ dd : Addr, d = some dd ∧
    ((∃ (p : V) (wd : Str), (cls = .ref CT ∧ wd = "text") ∧ H' dd = some (.xd [("part", p)]) ∧ ∀ t H'', Same H' H'' → H'' t = some (.tup [.str wd, p]) → Q (.ref t) H'') ∨
     (∃ v z : V, cls = .ref CM ∧ H' dd = some (.xd [("most", z), ("what", v)]) ∧ ∀ t H'', Same H' H'' → H'' t = some (.tup [v, z]) → Q (.ref t) H''))) H N
/-- how isinstance answers for the classes -/
structure KitL {K : PySem.W.Frag} {mg : Str → Option Value} (T : Tx K mg) (y : Value) (bX : Bool) : Prop where
  o : PySem.W.kitOne K y (.ref T.e_TooMany.C) = some false
  t : PySem.W.kitOne K y (.ref T.e_BadText.C) = some bX
  e : PySem.W.kitOne K y (.ref T.k_BadEdits) = some false
  n : PySem.W.kitOne K y (.ref T.k_BadNumber) = some false
  b : PySem.W.kitOne K y (.ref T.k_BadBook) = some false
  m : PySem.W.kitOne K y (.ref T.k_BadMachine) = some false
  r : PySem.W.kitOne K y (.ref T.k_BadRow) = some false
  f : PySem.W.kitOne K y (.ref T.k_Misfit) = some false
theorem kitL_T {K : PySem.W.Frag} {mg : Str → Option Value} (T : Tx K mg) : KitL T (.ref T.e_BadText.C) true := by
  have eO : T.e_TooMany.C = T.k_TooMany := same_ref T.e_TooMany.gC T.gk_TooMany
  have eT : T.e_BadText.C = T.k_BadText := same_ref T.e_BadText.gC T.gk_BadText
  refine ⟨?_, kitOne_self, ?_, ?_, ?_, ?_, ?_, ?_⟩
  · rw [eT, eO]; exact kitOne_other T.kc_TooMany T.kt_TooMany T.su_BadText_TooMany T.su_BadText_BadText
  · rw [eT]; exact kitOne_other T.kc_BadEdits T.kt_BadEdits T.su_BadText_BadEdits T.su_BadText_BadText
  · rw [eT]; exact kitOne_other T.kc_BadNumber T.kt_BadNumber T.su_BadText_BadNumber T.su_BadText_BadText
  · rw [eT]; exact kitOne_other T.kc_BadBook T.kt_BadBook T.su_BadText_BadBook T.su_BadText_BadText
  · rw [eT]; exact kitOne_other T.kc_BadMachine T.kt_BadMachine T.su_BadText_BadMachine T.su_BadText_BadText
  · rw [eT]; exact kitOne_other T.kc_BadRow T.kt_BadRow T.su_BadText_BadRow T.su_BadText_BadText
  · rw [eT]; exact kitOne_other T.kc_Misfit T.kt_Misfit T.su_BadText_Misfit T.su_BadText_BadText
theorem kitL_no {K : PySem.W.Frag} {mg : Str → Option Value} (T : Tx K mg) : KitL T (.type "NoneType") false := by
  have eO : T.e_TooMany.C = T.k_TooMany := same_ref T.e_TooMany.gC T.gk_TooMany
  have eT : T.e_BadText.C = T.k_BadText := same_ref T.e_BadText.gC T.gk_BadText
  have no : ∀ (kX : Addr), PySem.W.isClsIn K kX = true → PySem.W.typeIn K (.ref kX) = some (.type "type") → PySem.W.kitOne K (.type "NoneType") (.ref kX) = some false := fun kX h1 h2 => kitOne_no h1 h2 sub_non
  exact ⟨by rw [eO]; exact no _ T.kc_TooMany T.kt_TooMany, by rw [eT]; exact no _ T.kc_BadText T.kt_BadText, no _ T.kc_BadEdits T.kt_BadEdits, no _ T.kc_BadNumber T.kt_BadNumber, no _ T.kc_BadBook T.kt_BadBook, no _ T.kc_BadMachine T.kt_BadMachine, no _ T.kc_BadRow T.kt_BadRow, no _ T.kc_Misfit T.kt_Misfit⟩
theorem heard_gives {X : Cx} (T : Tx X.K X.mg) {q : Str} {g : Addr} {cdg : Value} : GivesTo X ["ask", "caught", "error", "kinds"] "_law_heard" (defScope s_law_heard) g cdg (defBody s_law_heard) "ask" q (TTh T.e_BadText.C T.e_TooMany.C) := by
  intro f c' s H Q tl act hc h
  have hr := (0 : Nat)
  refine ⟨_, pss_cons (ps_set (i := 1) sc_law_heard.nd rfl (.inl rfl) pe_non) (pss_cons (ps_keep (X := (cxOf C8.CX0 X.prog X.w X.K X.mg X.base ["ask", "caught", "error", "kinds"] "_law_heard" (defScope s_law_heard) g cdg X.A X.stack s H C8.E0).nox) (c := .ref T.e_BadText.L) (i := 2) (j := 1) (n := "error") (y := "caught")
      (tb := fun W D σ H => ∃ Ech : XK, (∀ cls d σ' H', Ech cls d H' → W cls d σ' H') ∧ σ[0]? = some (some (.ref f)) ∧ H c' = some (CodeO c' q) ∧ tl Ech H fun _ H' => D.nx σ H')
      rfl rfl rfl sc_law_heard.nd rfl rfl rfl rfl rfl ⟨rfl, by decide, .inl T.e_BadText.gL⟩ (by decide) (by decide) (fun W pn xe tk _ => ?_))
      (pss_cons (ps_if (pt_val (pe_callB call_isiX (by rfl) T.m_isinstance (by decide +kernel) (pa_cons (pv 1) (pa_cons (pe_glob (v := .ref T.e_TooMany.C) (by rfl) T.e_TooMany.gC rfl) pa_nil))))
      (pss_one (ps_ret (pe_tup (pa_cons (pe_xp (pv 1)) (pa_cons (pe_xp (pv 1)) pa_nil)))))
      pss_nil)
    (pss_cons (ps_set (i := 3) sc_law_heard.nd rfl (.inl rfl) (pe_lst (pa_cons (pe_callB call_isiX (by rfl) T.m_isinstance (by decide +kernel) (pa_cons (pv 1) (pa_cons (pe_glob (v := .ref T.e_BadText.C) (by rfl) T.e_BadText.gC rfl) pa_nil))) (pa_cons (pe_callB call_isiX (by rfl) T.m_isinstance (by decide +kernel) (pa_cons (pv 1) (pa_cons (pe_glob (v := .ref T.k_BadEdits) (by rfl) T.gk_BadEdits rfl) pa_nil))) (pa_cons (pe_callB call_isiX (by rfl) T.m_isinstance (by decide +kernel) (pa_cons (pv 1) (pa_cons (pe_glob (v := .ref T.k_BadNumber) (by rfl) T.gk_BadNumber rfl) pa_nil))) (pa_cons (pe_callB call_isiX (by rfl) T.m_isinstance (by decide +kernel) (pa_cons (pv 1) (pa_cons (pe_glob (v := .ref T.k_BadBook) (by rfl) T.gk_BadBook rfl) pa_nil))) pa_nil))))))
    (pss_cons (ps_set (i := 3) sc_law_heard.nd rfl (.inl rfl) (pe_op op_cat (pv 3) (pe_lst (pa_cons (pe_callB call_isiX (by rfl) T.m_isinstance (by decide +kernel) (pa_cons (pv 1) (pa_cons (pe_glob (v := .ref T.k_BadMachine) (by rfl) T.gk_BadMachine rfl) pa_nil))) (pa_cons (pe_callB call_isiX (by rfl) T.m_isinstance (by decide +kernel) (pa_cons (pv 1) (pa_cons (pe_glob (v := .ref T.k_BadRow) (by rfl) T.gk_BadRow rfl) pa_nil))) (pa_cons (pe_callB call_isiX (by rfl) T.m_isinstance (by decide +kernel) (pa_cons (pv 1) (pa_cons (pe_glob (v := .ref T.k_Misfit) (by rfl) T.gk_Misfit rfl) pa_nil))) pa_nil))))))
    (pss_cons (ps_if (pt_cmpR op_in_seq pe_bl (pv 3) rfl)
      (pss_one (ps_ret (pe_tup (pa_cons (pe_ix ix_list (pe_lst (pa_cons pe_str (pa_cons pe_str (pa_cons pe_str (pa_cons pe_str (pa_cons pe_str (pa_cons pe_str (pa_cons pe_str pa_nil)))))))) (pe_bm PySem.F.plainAttrs_list PySem.F.slot_list_index PySem.F.type_list_index mt_index (pv 3) (pa_cons pe_bl pa_nil)) (fun _ _ => rfl)) (pa_cons (pe_xp (pv 1)) pa_nil)))))
      pss_nil)
    (pss_one (ps_ret (pe_ifExp (pt_cmpR op_isN (pv 1) pe_non (nomark _)) pe_non (pe_tup (pa_cons pe_str (pa_cons pe_non pa_nil))))))))))), ?_⟩
  · refine ⟨fun pins s' σ H' D I h' => ?_⟩
    obtain ⟨Ech, hW, h1, h2, h3⟩ := h'
    exact (pss_one (ps_expr (act W pn xe Ech _ _ tk hW))).run pins s' σ H' D I ⟨h1, h2, h3⟩
  · refine go_seq (go_asg (go_c ?_))
    dsimp only [gName]
    refine go_seq ⟨_, fun cls d σ' H' h' => ?_, rfl, hc, h _ fun v H' hq => ?_⟩
    · obtain ⟨dd, rfl, h'⟩ := h'
      rcases h' with ⟨p, wd, hcls, hd, hq⟩ | ⟨v, z, rfl, hd, hq⟩
      · obtain ⟨D, rfl, kt, ex, xf, np, em, rfl⟩ : ∃ (D : Addr), cls = .ref D ∧ KitL T (.ref D) true ∧ ExcC X.K D ∧ XfC X.K D ∧ PySem.W.findIn X.K (.ref D) "part" = some none ∧ PySem.W.exmOne X.K (.ref D) (.ref T.e_BadText.L) = some true ∧ wd = "text" := by
          obtain ⟨rfl, rfl⟩ := hcls
          exact ⟨_, rfl, kitL_T T, T.e_BadText.exc, T.e_BadText.xf, T.e_BadText.np, T.e_BadText.em, rfl⟩
        refine ⟨em, fun a na hl => ?_⟩
        have hd1 := same_new (o := exT a (.ref D) (some dd)) na _ _ hd
        have s0 := same_new (o := exT a (.ref D) (some dd)) na
        have ha1 := upd_same (H := H') (a := a) (o := exT a (.ref D) (some dd))
        generalize upd H' a (exT a (.ref D) (some dd)) = H1 at hd1 s0 ha1 ⊢
        match σ', hl with
        | [x0, x1, x2, x3], _ =>
          dsimp only
          refine go_seq (go_if (go_b ?_))
          refine ⟨_, rfl, .inr ⟨a, D, dd, _, .ref T.e_TooMany.C, .ref T.e_TooMany.C, false, rfl, ha1, hd1, ex, fun u r => r, kt.o, _, rfl, iteF (A := _) ?_⟩⟩
          dsimp only [tNext]
          refine go_seq (go_asg ?_)
          refine ⟨_, rfl, .inr ⟨a, D, dd, _, .ref T.e_BadText.C, .ref T.e_BadText.C, true, rfl, ha1, hd1, ex, fun u r => r, kt.t, ?_⟩⟩
          refine ⟨_, rfl, .inr ⟨a, D, dd, _, .ref T.k_BadEdits, .ref T.k_BadEdits, false, rfl, ha1, hd1, ex, fun u r => r, kt.e, ?_⟩⟩
          refine ⟨_, rfl, .inr ⟨a, D, dd, _, .ref T.k_BadNumber, .ref T.k_BadNumber, false, rfl, ha1, hd1, ex, fun u r => r, kt.n, ?_⟩⟩
          refine ⟨_, rfl, .inr ⟨a, D, dd, _, .ref T.k_BadBook, .ref T.k_BadBook, false, rfl, ha1, hd1, ex, fun u r => r, kt.b, sz4, fun p1 n1 => ?_⟩⟩
          have s1 := same_new (o := HO.lst [.bl true, .bl false, .bl false, .bl false]) n1
          have h1 := upd_same (H := H1) (a := p1) (o := HO.lst [.bl true, .bl false, .bl false, .bl false])
          have ha2 := s1 _ _ ha1
          have hd2 := s1 _ _ hd1
          generalize upd H1 p1 (HO.lst [.bl true, .bl false, .bl false, .bl false]) = H2 at s1 h1 ha2 hd2 ⊢
          dsimp only [gName]
          refine go_seq (go_asg ⟨_, rfl, ?_⟩)
          refine ⟨_, rfl, .inr ⟨a, D, dd, _, .ref T.k_BadMachine, .ref T.k_BadMachine, false, rfl, ha2, hd2, ex, fun u r => r, kt.m, ?_⟩⟩
          refine ⟨_, rfl, .inr ⟨a, D, dd, _, .ref T.k_BadRow, .ref T.k_BadRow, false, rfl, ha2, hd2, ex, fun u r => r, kt.r, ?_⟩⟩
          refine ⟨_, rfl, .inr ⟨a, D, dd, _, .ref T.k_Misfit, .ref T.k_Misfit, false, rfl, ha2, hd2, ex, fun u r => r, kt.f, sz3, fun p2 n2 => ?_⟩⟩
          refine ⟨p1, p2, _, _, rfl, rfl, same_new n2 _ _ h1, upd_same, (show 4 + 3 ≤ sizeLine by decide), fun p3 n3 => ?_⟩
          have s2 := (same_new (o := HO.lst [.bl false, .bl false, .bl false]) n2).trans (same_new (o := HO.lst ([.bl true, .bl false, .bl false, .bl false] ++ [.bl false, .bl false, .bl false])) n3)
          have h3 := upd_same (H := upd H2 p2 (HO.lst [.bl false, .bl false, .bl false])) (a := p3) (o := HO.lst ([.bl true, .bl false, .bl false, .bl false] ++ [.bl false, .bl false, .bl false]))
          have ha3 := s2 _ _ ha2
          have hd3 := s2 _ _ hd2
          generalize upd (upd H2 p2 (HO.lst [.bl false, .bl false, .bl false])) p3 (HO.lst ([.bl true, .bl false, .bl false, .bl false] ++ [.bl false, .bl false, .bl false])) = H3 at s2 h3 ha3 hd3 ⊢
          dsimp only [gName]
          have sA := s0.trans (s1.trans s2)
          refine go_seq (go_if (go_test (go_op (go_c (go_var rfl ⟨p3, _, rfl, .inl (.inl (.inl h3)), rfl, rfl, _, rfl, ?_⟩)))))
          refine iteT (B := _) ?_
          refine go_ret ?_
          refine ⟨(show 7 ≤ sizeLine by decide), fun p4 n4 => ?_⟩
          have s4 := same_new (o := HO.lst [.str "text", .str "edits", .str "number", .str "book", .str "machine", .str "row", .str "misfit"]) n4
          refine ⟨_, rfl, .inl ⟨rfl, _, .inl (.inl (s4 _ _ h3))⟩, p3, _, .bl true, 0, .bl true, rfl, rfl, .inl (.inl (s4 _ _ h3)), rfl, rfl, rfl, rfl, fun m z' hm hz => ?_, p4, _, (0 : Nat), .str "text", rfl, rfl, .inl (.inl upd_same), rfl, ?_⟩
          · match m, hm with
            | m, hm => exact absurd hm (Nat.not_lt_zero _)
          refine ⟨_, rfl, a, D, dd, _, p, rfl, s4 _ _ ha3, s4 _ _ hd3, xf, np, rfl, sz2, fun t nt => ?_⟩
          exact hq t _ ((sA.trans s4).trans (same_new nt)) upd_same
      · have eL : T.e_TooMany.L = T.e_BadText.L := same_ref T.e_TooMany.gL T.e_BadText.gL
        refine ⟨eL ▸ T.e_TooMany.em, fun a na hl => ?_⟩
        have hd1 := same_new (o := exT a (.ref T.e_TooMany.C) (some dd)) na _ _ hd
        have s0 := same_new (o := exT a (.ref T.e_TooMany.C) (some dd)) na
        have ha1 := upd_same (H := H') (a := a) (o := exT a (.ref T.e_TooMany.C) (some dd))
        generalize upd H' a (exT a (.ref T.e_TooMany.C) (some dd)) = H1 at hd1 s0 ha1 ⊢
        match σ', hl with
        | [x0, x1, x2, x3], _ =>
          dsimp only
          refine go_seq (go_if (go_b ?_))
          refine ⟨_, rfl, .inr ⟨a, _, dd, _, .ref T.e_TooMany.C, .ref T.e_TooMany.C, true, rfl, ha1, hd1, T.e_TooMany.exc, fun u r => r, kitOne_self, _, rfl, iteT (B := _) ?_⟩⟩
          refine go_ret ?_
          refine ⟨_, rfl, a, _, dd, _, v, rfl, ha1, hd1, T.e_TooMany.xf, T.e_TooMany.np, rfl, ?_⟩
          refine ⟨_, rfl, a, _, dd, _, z, rfl, ha1, hd1, T.e_TooMany.xf, T.e_TooMany.np2, rfl, sz2, fun t nt => ?_⟩
          exact hq t _ (s0.trans (same_new nt)) upd_same
    · dsimp only
      have kt := kitL_no T
      refine go_seq (go_if (go_b ?_))
      refine ⟨_, rfl, .inl ⟨.non, .ref T.e_TooMany.C, _, _, false, rfl, .own _, .base .non, kt.o, _, rfl, iteF (A := _) ?_⟩⟩
      dsimp only [tNext]
      refine go_seq (go_asg ?_)
      refine ⟨_, rfl, .inl ⟨.non, .ref T.e_BadText.C, _, _, false, rfl, .own _, .base .non, kt.t, ?_⟩⟩
      refine ⟨_, rfl, .inl ⟨.non, .ref T.k_BadEdits, _, _, false, rfl, .own _, .base .non, kt.e, ?_⟩⟩
      refine ⟨_, rfl, .inl ⟨.non, .ref T.k_BadNumber, _, _, false, rfl, .own _, .base .non, kt.n, ?_⟩⟩
      refine ⟨_, rfl, .inl ⟨.non, .ref T.k_BadBook, _, _, false, rfl, .own _, .base .non, kt.b, sz4, fun p1 n1 => ?_⟩⟩
      have s1 := same_new (o := HO.lst [.bl false, .bl false, .bl false, .bl false]) n1
      have h1 := upd_same (H := H') (a := p1) (o := HO.lst [.bl false, .bl false, .bl false, .bl false])
      generalize upd H' p1 (HO.lst [.bl false, .bl false, .bl false, .bl false]) = H2 at s1 h1 ⊢
      dsimp only [gName]
      refine go_seq (go_asg ⟨_, rfl, ?_⟩)
      refine ⟨_, rfl, .inl ⟨.non, .ref T.k_BadMachine, _, _, false, rfl, .own _, .base .non, kt.m, ?_⟩⟩
      refine ⟨_, rfl, .inl ⟨.non, .ref T.k_BadRow, _, _, false, rfl, .own _, .base .non, kt.r, ?_⟩⟩
      refine ⟨_, rfl, .inl ⟨.non, .ref T.k_Misfit, _, _, false, rfl, .own _, .base .non, kt.f, sz3, fun p2 n2 => ?_⟩⟩
      refine ⟨p1, p2, _, _, rfl, rfl, same_new n2 _ _ h1, upd_same, (show 4 + 3 ≤ sizeLine by decide), fun p3 n3 => ?_⟩
      have s2 := (same_new (o := HO.lst [.bl false, .bl false, .bl false]) n2).trans (same_new (o := HO.lst ([.bl false, .bl false, .bl false, .bl false] ++ [.bl false, .bl false, .bl false])) n3)
      have h3 := upd_same (H := upd H2 p2 (HO.lst [.bl false, .bl false, .bl false])) (a := p3) (o := HO.lst ([.bl false, .bl false, .bl false, .bl false] ++ [.bl false, .bl false, .bl false]))
      generalize upd (upd H2 p2 (HO.lst [.bl false, .bl false, .bl false])) p3 (HO.lst ([.bl false, .bl false, .bl false, .bl false] ++ [.bl false, .bl false, .bl false])) = H3 at s2 h3 ⊢
      dsimp only [gName]
      refine go_seq (go_if (go_test (go_op (go_c (go_var rfl ⟨p3, _, rfl, .inl (.inl (.inl h3)), rfl, rfl, _, rfl, ?_⟩)))))
      refine iteF (A := _) ?_
      dsimp only [tNext]
      refine go_ret ?_
      exact ⟨_, rfl, rfl, _, rfl, iteT (B := _) (hq _ (s1.trans s2))⟩
end K06
namespace K06
open PySem PySem.Spec PyProof.Rows L2 Kx SX LamX Ms PnX
open Lev
theorem textB_of {t : List Nat} (h1 : t.length ≤ 200000) (h2 : ∀ x ∈ t, sg x = true) : textB t = true := by
  unfold textB
  rw [Bool.and_eq_true]
  exact ⟨decide_eq_true h1, List.all_eq_true.mpr h2⟩
section
variable {P : Program} {w : World} {K : PySem.W.Frag} {mg : Str → Option Value} {base : Heap} (T : Tx K mg)
theorem kb_least_edits_0_other_one : KBinds K T.fd_least_edits ["one", "other"] ["other", "one"] swapG swapG := kb_swap T.F_least_edits fun _ _ _ _ _ _ _ _ => rfl
theorem kb_edits_between_0_other_one : KBinds K T.fd_edits_between ["one", "other"] ["other", "one"] swapG swapG := kb_swap T.F_edits_between fun _ _ _ _ _ _ _ _ => rfl
theorem pair_call {CT CM : Addr} {H : Hp} {E : XK} {one other : List Nat} {G : List Nat → List Nat → Prop} (l1 : one.length ≤ 300) (l2 : other.length ≤ 300) (g1 : ∀ x ∈ one, sg x = true) (g2 : ∀ x ∈ other, sg x = true) (h : G one other) : PairArg K CT CM H E (.str (S one)) (.str (S other)) G :=
  ⟨some one, ⟨rfl, by omega⟩, .inr ⟨one, rfl, textB_of (by omega) g1, some other, ⟨rfl, by omega⟩, .inr ⟨other, rfl, textB_of (by omega) g2, .inr ⟨l1, l2, h⟩⟩⟩⟩
theorem go_callK {sp : Sp} {gV : List V → List V → List V} {E : XK} {t tk : TA} {σ : L2.St} {H : Hp} {Q : VK} (h : t σ H fun vs H1 => tk σ H1 fun zs H2 => sp (gV vs zs) H2 Q E) : tCallK sp gV E t tk σ H Q := h
def sp_law_way_right (K : PySem.W.Frag) : Sp := fun vs H Q _ => ∃ one other : List Nat, vs = [.str (S one), .str (S other)] ∧ one.length ≤ 300 ∧ other.length ≤ 300 ∧ (∀ x ∈ one, sg x = true) ∧ (∀ x ∈ other, sg x = true) ∧ ∀ H', Same H H' → Q (.int (far one other : Nat)) H'
theorem ok_law_way_right [SupX.PaperP P] : FnG P w K mg base CX0 16 T.f_law_way_right T.fd_law_way_right ["one", "other"] (sp_law_way_right K) := by
  refine okG T.F_law_way_right sc_law_way_right (fun vs H Q E h => ?_) (fun cdv A outer s H vs Q E hg hr h => ?_)
  · obtain ⟨one, other, rfl, _⟩ := h
    rfl
  · obtain ⟨one, other, rfl, l1, l2, g1, g2, q⟩ := h
    refine ⟨_, (pss_cons (ps_par3 (i := 2) (j := 3) (l := 4) rfl sc_law_way_right.nd rfl rfl rfl (by decide) (by decide) (by decide) rfl rfl rfl (pa_cons (pe_call (ok_law_apart T) (hr.mono (by decide)) (by rfl) T.g_law_apart T.F_law_apart.kp T.b_law_apart .nil pass0 (pa_cons (pv 0) (pa_cons (pv 1) pa_nil))) (pa_cons (pe_callK0 (ok_least_edits T) (hr.mono (by decide)) (by rfl) T.g_least_edits T.F_least_edits.kp (kb_least_edits_0_other_one T) passF (pk_cons (pv 1) (pk_cons (pv 0) pk_nil))) (pa_cons (pv 0) pa_nil))) (by rfl))
    (pss_cons (ps_if (PW.pt (pw_or (pt_not (pt_val (pe_callB call_isi (by rfl) T.m_isinstance (by decide +kernel) (pa_cons (pv 3) (pa_cons (pe_glob (v := .ref T.C_Ways) (by rfl) T.gC_Ways rfl) pa_nil))))) (pw_or (pt_not (pt_val (pe_callB call_isi (by rfl) T.m_isinstance (by decide +kernel) (pa_cons (pv 3) (pa_cons (pe_glob (v := .ref T.C_Paper) (by rfl) T.gC_Paper rfl) pa_nil))))) (pw_or (pt_val (pe_callB call_isi (by rfl) T.m_isinstance (by decide +kernel) (pa_cons (pv 3) (pa_cons (pe_glob (v := .ref T.k_Denial) (by rfl) T.gk_Denial rfl) pa_nil)))) (pw_or1 (pt_cmpR op_ne (pe_callB (call_reprD hg hr.units) (by rfl) T.m_repr (by decide +kernel) (pa_cons (pe_lst (pa_cons (pe_fld (pv 3) rfl) (pa_cons (pe_fld (pv 3) rfl) pa_nil))) pa_nil)) (pe_callB (call_reprD hg hr.units) (by rfl) T.m_repr (by decide +kernel) (pa_cons (pe_lst (pa_cons pe_str (pa_cons (pe_tup (pa_cons (pe_fld (pv 3) rfl) pa_nil)) pa_nil))) pa_nil)) (nomark _)))))))
      (pss_one (ps_ret pe_non))
      pss_nil)
    (pss_cons (ps_for PassesOwn.never rfl (pi_seq (pe_fld (pv 3) rfl)) (pg_name (i := 5) sc_law_way_right.nd rfl (.inl rfl))
      (pss_cons (ps_set (i := 4) sc_law_way_right.nd rfl (.inl rfl) (pe_call (ok_law_done T) (hr.mono (by decide)) (by rfl) T.g_law_done T.F_law_done.kp T.b_law_done .nil pass0 (pa_cons (pv 4) (pa_cons (pv 5) pa_nil))))
      (pss_one (ps_if (pt_cmpR op_isN (pv 4) pe_non (nomark _))
        (pss_one (ps_ret pe_non))
        pss_nil))))
    (pss_cons (ps_if (PW.pt (pw_or (pt_cmpR op_ne (pv 4) (pv 1) (nomark _)) (pw_or (pt_cmpR op_ne (pe_callB call_len_seq (by rfl) T.m_len PySem.boot_len (pa_cons (pe_fld (pv 3) rfl) pa_nil)) (pv 2) (nomark _)) (pw_or1 (pt_cmpR (op_neI (ok_Paper_eq T) T.b_Paper_eq (hr.mono (by decide)) T.mi_Ways_eq.at_ T.mi_Ways_eq.fn T.ob_Ways T.ne_Ways) (pe_call (ok_least_edits T) (hr.mono (by decide)) (by rfl) T.g_least_edits T.F_least_edits.kp T.b_least_edits .nil passF (pa_cons (pv 0) (pa_cons (pv 1) pa_nil))) (pv 3) (nomark _))))))
      (pss_one (ps_ret pe_non))
      pss_nil)
    (pss_one (ps_ret (pe_ifExp (pt_cmpR op_eq (pe_callB (call_reprD hg hr.units) (by rfl) T.m_repr (by decide +kernel) (pa_cons (pe_lst (pa_cons (pe_call (ok_edits_between T) (hr.mono (by decide)) (by rfl) T.g_edits_between T.F_edits_between.kp T.b_edits_between .nil passF (pa_cons (pv 0) (pa_cons (pv 1) pa_nil))) (pa_cons (pe_callK0 (ok_edits_between T) (hr.mono (by decide)) (by rfl) T.g_edits_between T.F_edits_between.kp (kb_edits_between_0_other_one T) passF (pk_cons (pv 1) (pk_cons (pv 0) pk_nil))) pa_nil))) pa_nil)) (pe_callB (call_reprD hg hr.units) (by rfl) T.m_repr (by decide +kernel) (pa_cons (pe_lst (pa_cons (pv 2) (pa_cons (pv 2) pa_nil))) pa_nil)) (nomark _)) (pv 2) pe_non))))))), ?_⟩
    have ho := way_ok (one := one) g2
    have hp := way_path (one := one) (other := other) (by omega)
    have hw := way_len (one := one) (other := other) (by omega)
    have hft := far_top one other
    refine go_seq ?_
    unfold tPar3
    refine go_cons (go_call (go_cons (go_var rfl (go_cons (go_var rfl (go_nil ⟨one, other, rfl, by omega, by omega, fun H1 e1 => ?_⟩))))))
    refine go_cons (go_callK (go_nil (go_cons (go_var rfl (go_cons (go_var rfl (go_nil ⟨_, _, rfl, pair_call l1 l2 g1 g2 fun a H2 e2 hA => ?_⟩)))))))
    refine go_cons (go_var rfl (go_nil ⟨_, _, _, rfl, ?_⟩))
    dsimp only
    have e2 := e1.trans e2
    obtain ⟨dx, pt, et, hAt, hPt, hEt⟩ := id hA
    have ty : TyX K H2 (.ref a) (.ref T.C_Ways) := .base (.ins hAt T.cl_Ways T.oc_Ways T.on_Ways T.ot_Ways T.ob_Ways)
    refine go_seq (go_if (go_or2 (go_not (go_b ⟨_, rfl, .ref a, .ref T.C_Ways, _, _, true, rfl, .own _, ty, kitOne_self, _, rfl, iteF (A := _) ?_⟩))))
    refine go_or2 (go_not (go_b ⟨_, rfl, .ref a, .ref T.C_Paper, _, _, true, rfl, .own _, ty, (ways_cls T).su, _, rfl, iteF (A := _) ?_⟩))
    refine go_or2 (go_b ⟨_, rfl, .ref a, .ref T.k_Denial, _, _, false, rfl, .own _, ty, kitOne_other T.kc_Denial T.kt_Denial T.su_Ways_Denial T.su_Ways_Ways, _, rfl, iteF (A := _) ?_⟩)
    clear ty
    have fine : ∀ e ∈ way one other, e.fine := fine_path (by omega) ho hp
    have h4 : ([119, 97, 121, 115] : List Nat).length = 4 := rfl
    have she := (eds_sh (b := true) fine).tup
    have shA := (ShA.cons (sh_str (x := "ways") (l := [119, 97, 121, 115]) rfl (by unfold cdC; decide) |>.up (Nat.zero_le 3) (Nat.le_refl _)) (.cons ((ShA.cons she .nil).tup) .nil)).lst
    refine go_test (go_op (go_cb (go_cons (go_lst (go_cons (go_fld (go_var rfl ⟨a, T.C_Ways, dx, _, .str "ways", rfl, hAt, T.cl_Ways, T.na_Ways_word, rfl, ?_⟩)))))))
    refine go_cons (go_fld (go_var rfl ⟨a, T.C_Ways, dx, _, .ref pt, rfl, hAt, T.cl_Ways, T.na_Ways_parts, rfl, ?_⟩))
    refine go_nil ⟨sz2, fun p3 n3 => ?_⟩
    have x3 := same_new (o := HO.lst [.str "ways", .ref pt]) n3
    refine go_nil (go_repr (.lst (.inl (.inl upd_same)) (.cons (.str _) (.cons (.tup (Same.t x3 hPt) (.cons (hEt.same x3).dp .nil)) .nil))) shA (by decide) (by omega) ?_)
    have hA3 := hA.same x3
    have e3 := e2.trans x3
    generalize upd H2 p3 (HO.lst [.str "ways", .ref pt]) = H3 at hA3 e3 ⊢
    clear x3 n3 hAt hPt hEt hA
    obtain ⟨dx, pt, et, hAt, hPt, hEt⟩ := id hA3
    refine go_cb (go_cons (go_lst (go_cons (go_c (go_cons (go_tup (go_cons (go_fld (go_var rfl ⟨a, T.C_Ways, dx, _, .ref et, rfl, hAt, T.cl_Ways, T.na_Ways_edits, rfl, ?_⟩)))))))))
    refine go_nil ⟨sz1, fun p4 n4 => ?_⟩
    have x4 := same_new (o := HO.tup [.ref et]) n4
    have g4 := upd_same (H := H3) (a := p4) (o := HO.tup [.ref et])
    generalize upd H3 p4 (HO.tup [.ref et]) = H4 at x4 g4 ⊢
    refine go_nil ⟨sz2, fun p5 n5 => ?_⟩
    have x5 := same_new (o := HO.lst [.str "ways", .ref p4]) n5
    have g5 := upd_same (H := H4) (a := p5) (o := HO.lst [.str "ways", .ref p4])
    have g4 := x5 _ _ g4
    have x5 := x4.trans x5
    generalize upd H4 p5 (HO.lst [.str "ways", .ref p4]) = H5 at x5 g4 g5 ⊢
    refine go_nil (go_repr (.lst (.inl (.inl g5)) (.cons (.str _) (.cons (.tup (.inl (.inl g4)) (.cons (hEt.same x5).dp .nil)) .nil))) shA (by decide) (by omega) ⟨rfl, false, ?_, iteF (A := _) ?_⟩)
    · rw [ne_self]
    have hA5 := hA3.same x5
    have e5 := e3.trans x5
    clear x5 g4 g5 n5 x4 n4 hAt hPt hEt hA3
    dsimp only [tNext]
    obtain ⟨dx, pt, et, hAt, hPt, hEt⟩ := id hA5
    obtain ⟨ps, hps, lps, hq⟩ := id hEt
    refine go_seq (.inr (go_fld (go_var rfl ?_)))
    refine ⟨a, T.C_Ways, dx, _, .ref et, rfl, hAt, T.cl_Ways, T.na_Ways_edits, rfl, et, rfl, ⟨_, hps⟩, for_tup (xs := ps.map V.ref) (fun i σ H' => H' = H5 ∧ ∃ (u : List Nat) (o5 : Option V), σ = [some (.str (S one)), some (.str (S other)), some (.int (far one other : Nat)), some (.ref a), some (.str (S u)), o5] ∧ Path u ((way one other).drop i) other ∧ u.length ≤ 300 + i)
      ⟨rfl, one, _, rfl, by rw [List.drop_zero]; exact hp, by omega⟩ (fun i σ H' hi h => ?_) (fun i x σ H' hx h => ?_) (fun σ H' h => ?_)⟩
    · obtain ⟨rfl, _⟩ := h
      exact hps
    · obtain ⟨rfl, u, o5, rfl, hpu, lu⟩ := h
      obtain ⟨qd, hqi, rfl⟩ := map_at hx
      have hi := (List.getElem?_eq_some_iff.mp hqi).1
      obtain ⟨e, he⟩ := ed_of lps hqi
      have hdr : (way one other).drop i = e :: (way one other).drop (i + 1) := by
        have hl := (List.getElem?_eq_some_iff.mp he).1
        rw [List.drop_eq_getElem_cons hl]
        congr 1
        have := (List.getElem?_eq_some_iff.mp he).2
        exact this
      rw [hdr] at hpu
      cases hpu with
      | @cons _ u2 _ _ _ hd hpu2 =>
        have lu2 := (doE_len hd).1
        dsimp only [gName]
        refine go_seq (go_asg (go_call (go_cons (go_var rfl (go_cons (go_var rfl (go_nil ⟨u, u2, qd, e, rfl, by omega, .inr (hq i qd e hqi he), hd, ?_⟩)))))))
        dsimp only [gName]
        refine go_if (go_test (go_op (go_var rfl (go_c ⟨rfl, ?_⟩))))
        refine ⟨_, rfl, iteF (A := _) ⟨rfl, u2, _, rfl, hpu2, by omega⟩⟩
    obtain ⟨rfl, u, o5, rfl, hpu, lu⟩ := h
    have hu : u = other := by
      rw [List.length_map, lps, List.drop_length] at hpu
      cases hpu
      rfl
    subst hu
    dsimp only
    have hlen : (ps.map V.ref).length = far one u := by rw [List.length_map, lps, hw]
    refine go_seq (go_if (go_or2 (go_test (go_op (go_var rfl (go_var rfl ⟨rfl, false, ?_, iteF (A := _) ?_⟩))))))
    · rw [ne_self]
    refine go_or2 (go_test (go_op (go_cb (go_cons (go_fld (go_var rfl ⟨a, T.C_Ways, dx, _, .ref et, rfl, hAt, T.cl_Ways, T.na_Ways_edits, rfl, go_nil ⟨et, _, rfl, .inr hps, ?_⟩⟩))))))
    rw [hlen]
    refine go_var rfl ⟨rfl, false, ?_, iteF (A := _) ?_⟩
    · rw [ne_self]
    refine go_test (go_op (go_call (go_cons (go_var rfl (go_cons (go_var rfl (go_nil ⟨_, _, rfl, pair_call l1 l2 g1 g2 fun a2 H6 e6 hA6 => ?_⟩)))))))
    refine go_var rfl (ways_ne T ho hA6 (hA5.same e6) fun H7 e7 => ⟨_, rfl, iteF (A := _) ?_⟩)
    have e7 := e5.trans (e6.trans e7)
    clear hAt hPt hEt hps hq hA5 hA6 e6 e5
    dsimp only [tNext]
    have shf : Sh 1 2 (.list [.int (far one u : Nat), .int (far one u : Nat)]) := (ShA.cons (sh_int (by omega)) (.cons (sh_int (by omega)) .nil)).lst
    refine go_ret (go_ife (go_test (go_op (go_cb (go_cons (go_lst (go_cons (go_call (go_cons (go_var rfl (go_cons (go_var rfl (go_nil ⟨_, _, rfl, pair_call l1 l2 g1 g2 fun H8 e8 => ?_⟩)))))))))))))
    refine go_cons (go_callK (go_nil (go_cons (go_var rfl (go_cons (go_var rfl (go_nil ⟨_, _, rfl, pair_call l1 l2 g1 g2 fun H9 e9 => ?_⟩)))))))
    refine go_nil ⟨sz2, fun p1 n1 => go_nil (go_repr (.lst (.inl (.inl upd_same)) (.cons (.int _) (.cons (.int _) .nil))) shf (by decide) (by decide) ?_)⟩
    refine go_cb (go_cons (go_lst (go_cons (go_var rfl (go_cons (go_var rfl (go_nil ⟨sz2, fun p2 n2 => go_nil (go_repr (.lst (.inl (.inl upd_same)) (.cons (.int _) (.cons (.int _) .nil))) shf (by decide) (by decide) ⟨rfl, true, ?_, iteT (B := _) ?_⟩)⟩)))))))
    · rw [decide_eq_true rfl]
    exact go_var rfl (q _ (e7.trans (e8.trans (e9.trans ((same_new n1).trans (same_new n2))))))
end
end K06
namespace K06
open PySem PySem.Spec PyProof.Rows L2 Kx SX LamX Ms PnX
open Lev
section
variable {P : Program} {w : World} {K : PySem.W.Frag} {mg : Str → Option Value} {base : Heap} (T : Tx K mg)
theorem core_same2 {a : Addr} {H H' : Hp} (m : Mv a H H') : Same (core a H) (core a H') := fun b o h => by
  obtain ⟨h1, h2, h3⟩ := of_core h
  exact core_at (m b o h1 h2) h1 h3
theorem pick_new {E : XK} {a c p : Addr} {n : Nat} {xs : List V} {H0 : Hp} {Q : VK} (np : H0 p = none) (wh : Wh H0 a c n) (hn : n < 1000000) (h0 : xs ≠ []) (hl : xs.length ≤ 1000000) (q : ∀ v H', v ∈ xs → Mv a H0 H' → Wh H' a c (n + 1) → Q v H') : sp_law_one K [.ref a, .ref p] (upd H0 p (.lst xs)) Q E := by
  have hpa := wh.ne np
  exact ⟨a, p, c, xs, n, rfl, .inl (.inl upd_same), h0, hl, wh.new np, hn, fun H' m => .inl (.inl (m _ _ hpa upd_same)), fun v H' hv m w' => q v H' hv ((Mv.of (same_new np)).trans m) w'⟩
instance pp3 {X : Cx} {A : Around} {outer : List Env} {s : Shared} {H : Hp} {E : XK} {sc : Scope} {f c : Addr} [h : SupX.PaperP X.prog] : SupX.PaperP (lamCx X A outer s H E sc f c).prog := h
instance pp4 {X : Cx} {A : Around} {outer : List Env} {s : Shared} {H : Hp} {E : XK} {sc : Scope} {z : Str} {f c : Addr} [h : SupX.PaperP X.prog] : SupX.PaperP (lamCxD X A outer s H E sc z f c).prog := h
/-- what is asked, and refused -/
def AskW (K : PySem.W.Frag) (CT CM : Addr) : Sp := fun vs H Q E => ∃ x y : V, vs = [x, y] ∧ PairArg K CT CM H E x y fun _ _ => False
theorem ask_runs {X : Cx} [SupX.PaperP X.prog] {K : PySem.W.Frag} {mg : Str → Option Value} (T : Tx K mg) {E : XK} (eK : X.K = K) (em : X.mg = mg) (hr : Room 15 X.A) (hx : Passes (L2.CX X.prog X.w) X E) : ∀ f ∈ [T.f_least_edits, T.f_edits_between], RunF X f (AskW K T.e_BadText.C T.e_TooMany.C) E := fun f hf => by
  subst eK em
  simp only [List.mem_cons, List.not_mem_nil, or_false] at hf
  rcases hf with rfl | rfl
  · refine (RunF.of (ok_least_edits T) hr T.F_least_edits.kp T.b_least_edits hx).mono fun vs H Q h => ?_
    obtain ⟨x, y, rfl, h⟩ := h
    exact ⟨x, y, rfl, h.imp fun _ _ _ _ _ _ z => z.elim⟩
  · refine (RunF.of (ok_edits_between T) (hr.mono (by decide)) T.F_edits_between.kp T.b_edits_between hx).mono fun vs H Q h => ?_
    obtain ⟨x, y, rfl, h⟩ := h
    exact ⟨x, y, rfl, h.imp fun _ _ _ _ _ _ z => z.elim⟩
theorem tabs_put {TT : List (Addr × Str)} {H : Hp} {L : Addr} {xs : List V} {o : HO} (t : Tabs TT H) (h : H L = some (.lst xs)) : Tabs TT (upd H L o) := fun p hp => by
  obtain ⟨ps, h1, h2, h3⟩ := t p hp
  refine ⟨ps, by rw [upd_ne (ne_of_two h1 h (fun z => by cases z))]; exact h1, h2, fun pos cv hc => ?_⟩
  obtain ⟨c', e1, e2⟩ := h3 pos cv hc
  exact ⟨c', e1, by rw [upd_ne (ne_of_two e2 h (fun z => by cases z))]; exact e2⟩
def dueA (i : Nat) : List V := [[V.str "text", V.str "one"], [V.str "text", V.str "other"], [V.str "signs", V.int 300], [V.str "signs", V.int 300]].getD (i % 4) []
/-- what was heard, as far as it goes -/
structure Say (H4 : Hp) (L : Addr) (H : Hp) (k : Nat) : Prop where
  nL : H4 L = none
  ext : ExtN H4 H
  row : ∃ qs : List Addr, H L = some (.lst (qs.map V.ref)) ∧ qs.length = k ∧ ∀ (i : Nat) (q : Addr), qs[i]? = some q → H q = some (.tup (dueA i))
theorem Say.at_ {H4 H : Hp} {L : Addr} {k : Nat} (h : Say H4 L H k) : ∃ qs : List Addr, H L = some (.lst (qs.map V.ref)) := by
  obtain ⟨qs, h1, _⟩ := h.row
  exact ⟨qs, h1⟩
theorem Say.add {H4 H H' : Hp} {L t : Addr} {k : Nat} (h : Say H4 L H k) (e : ExtN H H') (ht : H' t = some (.tup (dueA k))) : ∃ qs : List Addr, H' L = some (.lst (qs.map V.ref)) ∧ qs.length = k ∧ Say H4 L (upd H' L (.lst (qs.map V.ref ++ [V.ref t]))) (k + 1) := by
  obtain ⟨nL, x, qs, h1, h2, h3⟩ := h
  have h1' := ext_at e h1
  have ne : ∀ {q : Addr} {xs : List V}, H' q = some (.tup xs) → q ≠ L := fun hq z => by
    rw [z, h1'] at hq
    cases hq
  refine ⟨qs, h1', h2, nL, fun b o hb n => ?_, qs ++ [t], by rw [upd_same, List.map_append]; rfl, by rw [List.length_append, h2]; rfl, fun i q z => ?_⟩
  · rw [upd_ne (ne_of_none hb nL)]
    exact (x.trans e) b o hb n
  · by_cases hi : i < qs.length
    · rw [List.getElem?_append_left hi] at z
      have := ext_at e (h3 i q z)
      rw [upd_ne (ne this)]
      exact this
    · have hi2 : i = qs.length := by
        have := (List.getElem?_eq_some_iff.mp z).1
        rw [List.length_append] at this
        have h1 : ([t] : List Addr).length = 1 := rfl
        omega
      subst hi2
      rw [List.getElem?_append_right (Nat.le_refl _), Nat.sub_self] at z
      cases z
      rw [upd_ne (ne ht), h2]
      exact ht
theorem dueA_mod (j r : Nat) : dueA (4 * j + r) = dueA r := by
  unfold dueA
  rw [show (4 * j + r) % 4 = r % 4 by omega]
def dueD : List PyData := [.tuple [.str "text", .str "one"], .tuple [.str "text", .str "other"], .tuple [.str "signs", .int 300], .tuple [.str "signs", .int 300], .tuple [.str "text", .str "one"], .tuple [.str "text", .str "other"], .tuple [.str "signs", .int 300], .tuple [.str "signs", .int 300]]
def lamTab (Pt : Addr) : List (Addr × Str) := [(Pt, "_law_bounds_right.<locals>.<lambda>")]
def sp_law_bounds_right (K : PySem.W.Frag) (Pt : Addr) : Sp := fun vs H Q _ => ∃ (a c : Addr) (n : Nat), vs = [.ref a] ∧ Wh H a c n ∧ n + 4 ≤ 1000000 ∧ H Pt = some (.tbl #[]) ∧ ∀ H', Q (.bl true) H'
theorem ok_law_bounds_right [SupX.PaperP P] {c Pt : Addr} (FC : FunC K "_law_bounds_right" "_law_bounds_right" s_law_bounds_right T.f_law_bounds_right T.fd_law_bounds_right c) (TB : TabB base mg c Pt) : FnG P w K mg base CX0 21 T.f_law_bounds_right T.fd_law_bounds_right ["ferry"] (sp_law_bounds_right K Pt) := by
  obtain ⟨oc, od, kV, doc, pm, an, cdv, ct, osl, efd, lk, hcd⟩ := T.F_law_heard.ex
  rw [efd] at lk
  have hbd : Binds K _ ["ask"] [] := efd ▸ T.b_law_heard
  refine okC FC sc_law_bounds_right (fun vs H Q E h => ?_) (fun A outer s H vs Q E hg hr h => ?_)
  · obtain ⟨a, c, n, rfl, _⟩ := h
    rfl
  · obtain ⟨a, c1, n, rfl, wh, hn, hP, q⟩ := h
    have T0 : Tabs (lamTab Pt) H := fun p hp => by
      rw [List.mem_singleton.mp hp]
      exact TabS.nil hP
    refine ⟨_, (pss_cons (ps_asg (pe_tup (pa_cons (pe_call (ok_law_one T) (hr.mono (by decide)) (by rfl) T.g_law_one T.F_law_one.kp T.b_law_one .nil pass0 (pa_cons (pv 0) (pa_cons (pe_lst (pa_cons pe_non (pa_cons pe_int (pa_cons pe_str (pa_cons (pe_lst (pa_cons pe_str pa_nil)) (pa_cons pe_str pa_nil)))))) pa_nil))) (pa_cons (pe_op op_repS (pe_call (ok_law_one T) (hr.mono (by decide)) (by rfl) T.g_law_one T.F_law_one.kp T.b_law_one .nil pass0 (pa_cons (pv 0) (pa_cons (pe_lst (pa_cons pe_str (pa_cons pe_str (pa_cons pe_str pa_nil)))) pa_nil))) pe_int) pa_nil))) (pg_tup rfl (pgs_cons (pg_name (i := 1) sc_law_bounds_right.nd rfl (.inr rfl)) (pgs_cons (pg_name (i := 2) sc_law_bounds_right.nd rfl (.inr rfl)) pgs_nil))))
    (pss_cons (ps_set (i := 3) sc_law_bounds_right.nd rfl (.inl rfl) (pe_lst pa_nil))
    (pss_cons (ps_for PassesOwn.never rfl (pi_tup (pe_tup (pa_cons (pe_glob (v := .ref T.f_least_edits) (by rfl) T.g_least_edits rfl) (pa_cons (pe_glob (v := .ref T.f_edits_between) (by rfl) T.g_edits_between rfl) pa_nil)))) (pg_name (i := 4) sc_law_bounds_right.nd rfl (.inr rfl))
      (pss_cons (ps_expr (pe_bm PySem.F.plainAttrs_list PySem.F.slot_list_append PySem.F.type_list_append mt_append (pv 3) (pa_cons (pe_lamcall (T := (lamTab Pt)) (c := c) (P := Pt) (k := 17) (by rfl) T.g_law_heard T.F_law_heard.kp lk hcd hbd sc_law_heard rfl (.inl rfl) (heard_gives T) TB rfl (List.mem_singleton.mpr rfl) (fun p hp _ => by rw [List.mem_singleton.mp hp]; rfl) (hr.mono (by decide)) (lamS_by (sc := defScope s_law_bounds_right) (by decide +kernel)) rfl (fun _ _ _ _ _ => rfl) (fun A outer s H E f c' hr2 => (pe_callV (i := 4) (by rfl) (by first | exact Or.inl rfl | exact Or.inr (Or.inl rfl) | exact Or.inr (Or.inr rfl)) (ask_runs T rfl rfl (hr2.mono (show 15 ≤ 17 by decide)) (passes_call (takes_of rfl rfl rfl rfl) (fun _ _ _ _ h => h))) (pa_cons (pv 1) (pa_cons (pv 1) pa_nil))))) pa_nil)))
      (pss_cons (ps_expr (pe_bm PySem.F.plainAttrs_list PySem.F.slot_list_append PySem.F.type_list_append mt_append (pv 3) (pa_cons (pe_lamcall (T := (lamTab Pt)) (c := c) (P := Pt) (k := 17) (by rfl) T.g_law_heard T.F_law_heard.kp lk hcd hbd sc_law_heard rfl (.inl rfl) (heard_gives T) TB rfl (List.mem_singleton.mpr rfl) (fun p hp _ => by rw [List.mem_singleton.mp hp]; rfl) (hr.mono (by decide)) (lamS_by (sc := defScope s_law_bounds_right) (by decide +kernel)) rfl (fun _ _ _ _ _ => rfl) (fun A outer s H E f c' hr2 => (pe_callV (i := 4) (by rfl) (by first | exact Or.inl rfl | exact Or.inr (Or.inl rfl) | exact Or.inr (Or.inr rfl)) (ask_runs T rfl rfl (hr2.mono (show 15 ≤ 17 by decide)) (passes_call (takes_of rfl rfl rfl rfl) (fun _ _ _ _ h => h))) (pa_cons (pv 2) (pa_cons (pv 1) pa_nil))))) pa_nil)))
      (pss_cons (ps_expr (pe_bm PySem.F.plainAttrs_list PySem.F.slot_list_append PySem.F.type_list_append mt_append (pv 3) (pa_cons (pe_lamcall (T := (lamTab Pt)) (c := c) (P := Pt) (k := 17) (by rfl) T.g_law_heard T.F_law_heard.kp lk hcd hbd sc_law_heard rfl (.inl rfl) (heard_gives T) TB rfl (List.mem_singleton.mpr rfl) (fun p hp _ => by rw [List.mem_singleton.mp hp]; rfl) (hr.mono (by decide)) (lamS_by (sc := defScope s_law_bounds_right) (by decide +kernel)) rfl (fun _ _ _ _ _ => rfl) (fun A outer s H E f c' hr2 => (pe_callV (i := 4) (by rfl) (by first | exact Or.inl rfl | exact Or.inr (Or.inl rfl) | exact Or.inr (Or.inr rfl)) (ask_runs T rfl rfl (hr2.mono (show 15 ≤ 17 by decide)) (passes_call (takes_of rfl rfl rfl rfl) (fun _ _ _ _ h => h))) (pa_cons (pe_slice C8.sl_txt (pv 2) po_none (po_some pe_int)) (pa_cons pe_str pa_nil))))) pa_nil)))
      (pss_one (ps_expr (pe_bm PySem.F.plainAttrs_list PySem.F.slot_list_append PySem.F.type_list_append mt_append (pv 3) (pa_cons (pe_lamcall (T := (lamTab Pt)) (c := c) (P := Pt) (k := 17) (by rfl) T.g_law_heard T.F_law_heard.kp lk hcd hbd sc_law_heard rfl (.inl rfl) (heard_gives T) TB rfl (List.mem_singleton.mpr rfl) (fun p hp _ => by rw [List.mem_singleton.mp hp]; rfl) (hr.mono (by decide)) (lamS_by (sc := defScope s_law_bounds_right) (by decide +kernel)) rfl (fun _ _ _ _ _ => rfl) (fun A outer s H E f c' hr2 => (pe_callV (i := 4) (by rfl) (by first | exact Or.inl rfl | exact Or.inr (Or.inl rfl) | exact Or.inr (Or.inr rfl)) (ask_runs T rfl rfl (hr2.mono (show 15 ≤ 17 by decide)) (passes_call (takes_of rfl rfl rfl rfl) (fun _ _ _ _ h => h))) (pa_cons pe_str (pa_cons (pe_slice C8.sl_txt (pv 2) po_none (po_some pe_int)) pa_nil))))) pa_nil))))))))
    (pss_one (ps_ret (pe_cmpR (op_eqD hr.units) (pv 3) (pe_op op_rep (pe_lst (pa_cons (pe_tup (pa_cons pe_str (pa_cons pe_str pa_nil))) (pa_cons (pe_tup (pa_cons pe_str (pa_cons pe_str pa_nil))) (pa_cons (pe_tup (pa_cons pe_str (pa_cons pe_int pa_nil))) (pa_cons (pe_tup (pa_cons pe_str (pa_cons pe_int pa_nil))) pa_nil))))) pe_int) (nomark _))))))), ?_⟩
    have tyn : ∀ {H' : Hp}, ∃ n, TyX K H' .non (.type n) ∧ kitB n "str" = some false := fun {H'} => ⟨"NoneType", .base .non, by decide +kernel⟩
    have tyi : ∀ {H' : Hp}, ∃ n, TyX K H' (.int 5) (.type n) ∧ kitB n "str" = some false := fun {H'} => ⟨"int", .base (.int 5), by decide +kernel⟩
    refine go_seq (go_asg (go_tup (go_cons (go_call (go_cons (go_var rfl ?_))))))
    refine go_cons (go_lst (go_cons (go_c (go_cons (go_c (go_cons (go_c ?_)))))))
    refine go_cons (go_lst (go_cons (go_c (go_nil ⟨sz1, fun b1 n1 => ?_⟩))))
    have e1 := same_new (o := HO.lst [V.str "a"]) n1
    have h1 := upd_same (H := H) (a := b1) (o := HO.lst [V.str "a"])
    have v1 := wh.ne n1
    have wh1 := wh.same e1
    have T1 := Tabs.same T0 e1
    generalize upd H b1 (HO.lst [V.str "a"]) = I1 at e1 h1 wh1 T1 ⊢
    refine go_cons (go_c (go_nil ⟨sz5, fun p5 n5 => go_nil (pick_new n5 wh1 (by omega) (by simp) (show 5 ≤ 1000000 by decide) fun nv H2 hv m2 w2 => ?_)⟩))
    have hp1 := m2 _ _ v1 h1
    have T2 := Tabs.mv T1 wh1 m2
    have hO : ∃ o, StrIs K (core a H2) nv o ∧ o.elim false textB = false := by
      simp only [List.mem_cons, List.not_mem_nil, or_false] at hv
      rcases hv with rfl | rfl | rfl | rfl | rfl
      · exact ⟨none, tyn, rfl⟩
      · exact ⟨none, tyi, rfl⟩
      · exact ⟨some [65], ⟨rfl, by decide⟩, by decide +kernel⟩
      · exact ⟨none, ⟨"list", tyL (.inl (.inl (core_at hp1 v1 (fun _ z => by cases z)))), by decide +kernel⟩, rfl⟩
      · exact ⟨some [97, 45, 98], ⟨rfl, by decide⟩, by decide +kernel⟩
    clear hv m2 n5 wh1 T1 hp1 n1 v1 h1 e1 wh T0 hP
    obtain ⟨o, hO, hOf⟩ := hO
    refine go_cons (go_op (go_call (go_cons (go_var rfl (go_cons (go_lst (go_cons (go_c (go_cons (go_c (go_cons (go_c (go_nil ⟨sz3, fun p6 n6 => go_nil (pick_new n6 w2 (by omega) (by simp) (show 3 ≤ 1000000 by decide) fun fv H3 hv m3 w3 => ?_)⟩)))))))))))))
    have T3 := Tabs.mv T2 w2 m3
    have hO := hO.same (core_same2 m3)
    obtain ⟨l0, rfl, l01, l02, l03⟩ : ∃ l0 : List Nat, fv = .str (S l0) ∧ 1 ≤ l0.length ∧ l0.length ≤ 2 ∧ ∀ x ∈ l0, sg x = true := by
      simp only [List.mem_cons, List.not_mem_nil, or_false] at hv
      rcases hv with rfl | rfl | rfl
      · exact ⟨[97], rfl, by decide, by decide, by decide +kernel⟩
      · exact ⟨[97, 98], rfl, by decide, by decide, by decide +kernel⟩
      · exact ⟨[97, 32], rfl, by decide, by decide, by decide +kernel⟩
    clear hv m3 n6 w2 T2
    obtain ⟨far, hfar⟩ : ∃ far : List Nat, far = (List.replicate 301 l0).flatten := ⟨_, rfl⟩
    have f1 : 301 ≤ far.length ∧ far.length ≤ 602 := by
      rw [hfar, rep_len]
      omega
    have f2 : ∀ x ∈ far, sg x = true := fun x hx => l03 x (rep_mem (hfar ▸ hx))
    refine go_c ⟨l0, 301, rfl, rfl, by omega, by decide, ?_⟩
    rw [← hfar]
    clear hfar l01 l02 l03
    refine go_nil ⟨sz2, fun pt npt => ⟨pt, _, rfl, .inl (.inl upd_same), rfl, _, _, rfl, _, _, rfl, rfl, ?_⟩⟩
    have x1 := same_new (o := HO.tup [nv, .str (S far)]) npt
    have T4 := Tabs.same T3 x1
    have hO := hO.same (core_same2 (Mv.of x1))
    generalize upd H3 pt (HO.tup [nv, .str (S far)]) = H4 at T4 hO ⊢
    clear x1 npt T3 w3
    have far1 : textB far = true := textB_of (by omega) f2
    have cut : ∃ few : List Nat, few = far.take 301 ∧ few.length = 301 ∧ textB few = true := ⟨_, rfl, by rw [List.length_take]; omega, textB_of (by rw [List.length_take]; omega) fun x m => f2 x (List.mem_of_mem_take m)⟩
    dsimp only [gName]
    refine go_seq (go_asg (go_lst (go_nil ⟨Nat.zero_le _, fun L nL => ?_⟩)))
    have x1 := same_new (o := HO.lst []) nL
    have T5 := Tabs.same T4 x1
    have hL := upd_same (H := H4) (a := L) (o := HO.lst [])
    generalize upd H4 L (HO.lst []) = H5 at T5 x1 hL ⊢
    dsimp only [gName]
    refine go_seq ?_
    refine ⟨sz2, fun p9 n9 => ⟨p9, rfl, ⟨_, .inl (.inl upd_same)⟩, ?_⟩⟩
    have x9 := same_new (o := HO.tup [V.ref T.f_least_edits, V.ref T.f_edits_between]) n9
    have h9 : upd H5 p9 (HO.tup [V.ref T.f_least_edits, V.ref T.f_edits_between]) p9 = some (.tup [V.ref T.f_least_edits, V.ref T.f_edits_between]) := upd_same
    have T6 := Tabs.same T5 x9
    have hL := x9 _ _ hL
    have E6 := ExtN.of (x1.trans x9)
    generalize upd H5 p9 (HO.tup [V.ref T.f_least_edits, V.ref T.f_edits_between]) = H6 at h9 E6 T6 hL ⊢
    clear x1 x9 n9 T5 T4
    refine for_tup (xs := [V.ref T.f_least_edits, V.ref T.f_edits_between]) (fun j σ H' => ∃ (o4 : Option V), σ = [some (.ref a), some nv, some (.str (S far)), some (.ref L), o4] ∧ Say H4 L H' (4 * j) ∧ H' p9 = some (.tup [V.ref T.f_least_edits, V.ref T.f_edits_between]) ∧ Tabs (lamTab Pt) H')
      ⟨_, rfl, ⟨nL, E6, [], hL, rfl, fun i q z => by cases z⟩, h9, T6⟩ (fun j σ' H' _ h => ?_) (fun j v σ' Hd hv h => ?_) (fun σ' Hd h => ?_)
    · obtain ⟨_, _, _, h9, _⟩ := h
      exact .inl (.inl h9)
    · clear h9 T6 E6 hL
      obtain ⟨o4, rfl, hS, h9, Td⟩ := h
      have hj : j < 2 := (List.getElem?_eq_some_iff.mp hv).1
      obtain ⟨f, hf, rfl⟩ : ∃ f, f ∈ [T.f_least_edits, T.f_edits_between] ∧ v = .ref f := by
        have := List.mem_of_getElem? hv
        simp only [List.mem_cons, List.not_mem_nil, or_false] at this ⊢
        rcases this with rfl | rfl
        · exact ⟨_, .inl rfl, rfl⟩
        · exact ⟨_, .inr rfl, rfl⟩
      dsimp only [gName]
      obtain ⟨qs, hL⟩ := hS.at_
      refine go_seq (go_drop ⟨_, rfl, .inl ⟨rfl, _, .inl (.inl hL)⟩, go_cons ⟨Td, fun H15 e15 T15 N1 hN1 => ?_⟩⟩)
      refine ⟨f, hf, rfl, _, rfl, _, rfl, nv, nv, rfl, o, hO.same (core_ext core_sub (hS.ext.trans e15)), .inl ⟨hOf, fun d H16 e16 hd => ⟨d, rfl, .inl ⟨.str "one", "text", ⟨rfl, rfl⟩, hd, fun v1 H17 e17 hv1 => ?_⟩⟩⟩⟩
      have E0 := e15.trans (ExtN.of (e16.trans e17))
      have T17 := Tabs.same T15 (e16.trans e17)
      have h9 := ext_at E0 h9
      obtain ⟨qs, b1, b2, hS⟩ := hS.add E0 (hv1.trans (by rw [show dueA (4 * j) = dueA 0 from dueA_mod j 0]; rfl))
      refine go_nil ⟨L, _, _, rfl, rfl, b1, ?_, ?_⟩
      · rw [List.length_map, b2]
        exact Nat.lt_of_lt_of_le (show 4 * j + 0 < 100 by omega) (by decide)
      have Td := tabs_put (o := HO.lst (qs.map V.ref ++ [V.ref v1])) T17 b1
      have h9 : upd H17 L (HO.lst (qs.map V.ref ++ [V.ref v1])) p9 = some (.tup [V.ref T.f_least_edits, V.ref T.f_edits_between]) := by
        rw [upd_ne (ne_of_two h9 b1 (fun z => by cases z))]
        exact h9
      generalize upd H17 L (HO.lst (qs.map V.ref ++ [V.ref v1])) = Hd at hS Td h9 ⊢
      clear E0 T17 b1 b2 hv1 e17 hd e16 T15 e15 hN1 hL
      dsimp only
      obtain ⟨qs, hL⟩ := hS.at_
      refine go_seq (go_drop ⟨_, rfl, .inl ⟨rfl, _, .inl (.inl hL)⟩, go_cons ⟨Td, fun H15 e15 T15 N1 hN1 => ?_⟩⟩)
      refine ⟨f, hf, rfl, _, rfl, _, rfl, _, nv, rfl, some far, ⟨rfl, by omega⟩, .inr ⟨far, rfl, far1, o, hO.same (core_ext core_sub (hS.ext.trans e15)), .inl ⟨hOf, fun d H16 e16 hd => ⟨d, rfl, .inl ⟨.str "other", "text", ⟨rfl, rfl⟩, hd, fun v1 H17 e17 hv1 => ?_⟩⟩⟩⟩⟩
      have E1 := e15.trans (ExtN.of (e16.trans e17))
      have T17 := Tabs.same T15 (e16.trans e17)
      have h9 := ext_at E1 h9
      obtain ⟨qs, b1, b2, hS⟩ := hS.add E1 (hv1.trans (by rw [show dueA (4 * j + 1) = dueA 1 from dueA_mod j 1]; rfl))
      refine go_nil ⟨L, _, _, rfl, rfl, b1, ?_, ?_⟩
      · rw [List.length_map, b2]
        exact Nat.lt_of_lt_of_le (show 4 * j + 1 < 100 by omega) (by decide)
      have Td := tabs_put (o := HO.lst (qs.map V.ref ++ [V.ref v1])) T17 b1
      have h9 : upd H17 L (HO.lst (qs.map V.ref ++ [V.ref v1])) p9 = some (.tup [V.ref T.f_least_edits, V.ref T.f_edits_between]) := by
        rw [upd_ne (ne_of_two h9 b1 (fun z => by cases z))]
        exact h9
      generalize upd H17 L (HO.lst (qs.map V.ref ++ [V.ref v1])) = Hd at hS Td h9 ⊢
      clear E1 T17 b1 b2 hv1 e17 hd e16 T15 e15 hN1 hL
      dsimp only
      obtain ⟨few, hfew, lfew, few1⟩ := cut
      have few3 : ∀ s : Str, s = S far → Txt.slice s none (some 301) = S few := fun s e => by
        rw [e, hfew]
        exact cut_toN far 301
      obtain ⟨qs, hL⟩ := hS.at_
      refine go_seq (go_drop ⟨_, rfl, .inl ⟨rfl, _, .inl (.inl hL)⟩, go_cons ⟨Td, fun H15 e15 T15 N1 hN1 => ?_⟩⟩)
      refine ⟨f, hf, rfl, go_cons ⟨_, rfl, 301, rfl, S far, rfl, len_le (by omega), ?_⟩⟩
      rw [few3 _ rfl]
      refine go_cons (go_c (go_nil ⟨_, _, rfl, some few, ⟨rfl, by omega⟩, .inr ⟨few, rfl, few1, some [], ⟨rfl, by decide⟩, .inr ⟨[], rfl, by decide +kernel, .inl ⟨by rw [lfew]; decide, fun d H16 e16 hd => ⟨d, rfl, .inr ⟨.str "signs", .int 300, rfl, hd, fun v1 H17 e17 hv1 => ?_⟩⟩⟩⟩⟩⟩))
      have E2 := e15.trans (ExtN.of (e16.trans e17))
      have T17 := Tabs.same T15 (e16.trans e17)
      have h9 := ext_at E2 h9
      obtain ⟨qs, b1, b2, hS⟩ := hS.add E2 (hv1.trans (by rw [show dueA (4 * j + 2) = dueA 2 from dueA_mod j 2]; rfl))
      refine go_nil ⟨L, _, _, rfl, rfl, b1, ?_, ?_⟩
      · rw [List.length_map, b2]
        exact Nat.lt_of_lt_of_le (show 4 * j + 2 < 100 by omega) (by decide)
      have Td := tabs_put (o := HO.lst (qs.map V.ref ++ [V.ref v1])) T17 b1
      have h9 : upd H17 L (HO.lst (qs.map V.ref ++ [V.ref v1])) p9 = some (.tup [V.ref T.f_least_edits, V.ref T.f_edits_between]) := by
        rw [upd_ne (ne_of_two h9 b1 (fun z => by cases z))]
        exact h9
      generalize upd H17 L (HO.lst (qs.map V.ref ++ [V.ref v1])) = Hd at hS Td h9 ⊢
      clear E2 T17 b1 b2 hv1 e17 hd e16 T15 e15 hN1 hL
      dsimp only
      obtain ⟨qs, hL⟩ := hS.at_
      refine ⟨_, rfl, .inl ⟨rfl, _, .inl (.inl hL)⟩, go_cons ⟨Td, fun H15 e15 T15 N1 hN1 => ?_⟩⟩
      refine ⟨f, hf, rfl, go_cons (go_c (go_cons ⟨_, rfl, 301, rfl, S far, rfl, len_le (by omega), ?_⟩))⟩
      rw [few3 _ rfl]
      refine go_nil ⟨_, _, rfl, some [], ⟨rfl, by decide⟩, .inr ⟨[], rfl, by decide +kernel, some few, ⟨rfl, by omega⟩, .inr ⟨few, rfl, few1, .inl ⟨by rw [lfew]; decide, fun d H16 e16 hd => ⟨d, rfl, .inr ⟨.str "signs", .int 300, rfl, hd, fun v1 H17 e17 hv1 => ?_⟩⟩⟩⟩⟩⟩
      have E3 := e15.trans (ExtN.of (e16.trans e17))
      have T17 := Tabs.same T15 (e16.trans e17)
      have h9 := ext_at E3 h9
      obtain ⟨qs, b1, b2, hS⟩ := hS.add E3 (hv1.trans (by rw [show dueA (4 * j + 3) = dueA 3 from dueA_mod j 3]; rfl))
      refine go_nil ⟨L, _, _, rfl, rfl, b1, ?_, ?_⟩
      · rw [List.length_map, b2]
        exact Nat.lt_of_lt_of_le (show 4 * j + 3 < 100 by omega) (by decide)
      have Td := tabs_put (o := HO.lst (qs.map V.ref ++ [V.ref v1])) T17 b1
      have h9 : upd H17 L (HO.lst (qs.map V.ref ++ [V.ref v1])) p9 = some (.tup [V.ref T.f_least_edits, V.ref T.f_edits_between]) := by
        rw [upd_ne (ne_of_two h9 b1 (fun z => by cases z))]
        exact h9
      generalize upd H17 L (HO.lst (qs.map V.ref ++ [V.ref v1])) = Hd at hS Td h9 ⊢
      clear E3 T17 b1 b2 hv1 e17 hd e16 T15 e15 hN1 hL
      exact ⟨_, rfl, hS, h9, Td⟩
    · obtain ⟨o4, rfl, hS, h9', Td⟩ := h
      clear h9' h9 T6 E6 hL
      obtain ⟨_, _, qs, hL, lq, hq⟩ := hS
      dsimp only
      refine go_ret (go_op (go_var rfl (go_op (go_lst ?_))))
      refine go_cons (go_tup (go_cons (go_c (go_cons (go_c (go_nil ⟨sz2, fun a1 n1 => ?_⟩))))))
      have y1 := same_new (o := HO.tup [V.str "text", V.str "one"]) n1
      have g1 := upd_same (H := Hd) (a := a1) (o := HO.tup [V.str "text", V.str "one"])
      generalize upd Hd a1 (HO.tup [V.str "text", V.str "one"]) = J1 at y1 g1 ⊢
      refine go_cons (go_tup (go_cons (go_c (go_cons (go_c (go_nil ⟨sz2, fun a2 n2 => ?_⟩))))))
      have y2 := same_new (o := HO.tup [V.str "text", V.str "other"]) n2
      have g2 := upd_same (H := J1) (a := a2) (o := HO.tup [V.str "text", V.str "other"])
      generalize upd J1 a2 (HO.tup [V.str "text", V.str "other"]) = J2 at y2 g2 ⊢
      refine go_cons (go_tup (go_cons (go_c (go_cons (go_c (go_nil ⟨sz2, fun a3 n3 => ?_⟩))))))
      have y3 := same_new (o := HO.tup [V.str "signs", V.int 300]) n3
      have g3 := upd_same (H := J2) (a := a3) (o := HO.tup [V.str "signs", V.int 300])
      generalize upd J2 a3 (HO.tup [V.str "signs", V.int 300]) = J3 at y3 g3 ⊢
      refine go_cons (go_tup (go_cons (go_c (go_cons (go_c (go_nil ⟨sz2, fun a4 n4 => ?_⟩))))))
      have y4 := same_new (o := HO.tup [V.str "signs", V.int 300]) n4
      have g4 := upd_same (H := J3) (a := a4) (o := HO.tup [V.str "signs", V.int 300])
      generalize upd J3 a4 (HO.tup [V.str "signs", V.int 300]) = J4 at y4 g4 ⊢
      refine go_nil ⟨sz4, fun a5 n5 => ?_⟩
      have y5 := same_new (o := HO.lst [V.ref a1, V.ref a2, V.ref a3, V.ref a4]) n5
      have g5 := upd_same (H := J4) (a := a5) (o := HO.lst [V.ref a1, V.ref a2, V.ref a3, V.ref a4])
      generalize upd J4 a5 (HO.lst [V.ref a1, V.ref a2, V.ref a3, V.ref a4]) = J5 at y5 g5 ⊢
      refine go_c ⟨a5, _, _, rfl, rfl, g5, by decide, by decide, ?_, fun a6 n6 => ?_⟩
      · show 4 * 2 ≤ sizeLine
        decide
      have y6 := same_new (o := HO.lst [V.ref a1, V.ref a2, V.ref a3, V.ref a4, V.ref a1, V.ref a2, V.ref a3, V.ref a4]) n6
      have z5 := y5.trans y6
      have z4 := y4.trans z5
      have z3 := y3.trans z4
      have z2 := y2.trans z3
      have yA := y1.trans z2
      match qs, lq with
      | [q0, q1, q2, q3, q4, q5, q6, q7], _ =>
        have h0 := yA _ _ (hq 0 q0 rfl)
        have h1 := yA _ _ (hq 1 q1 rfl)
        have h2 := yA _ _ (hq 2 q2 rfl)
        have h3 := yA _ _ (hq 3 q3 rfl)
        have h4 := yA _ _ (hq 4 q4 rfl)
        have h5 := yA _ _ (hq 5 q5 rfl)
        have h6 := yA _ _ (hq 6 q6 rfl)
        have h7 := yA _ _ (hq 7 q7 rfl)
        have hL := yA _ _ hL
        have g1 := z2 _ _ g1
        have g2 := z3 _ _ g2
        have g3 := z4 _ _ g3
        have g4 := z5 _ _ g4
        have S2 : ∀ {G : Hp} {q : Addr} {x y : Str}, G q = some (.tup [.str x, .str y]) → Dp K G (.ref q) (.tuple [.str x, .str y]) := fun h => .tup (.inl (.inl h)) (.cons (.str _) (.cons (.str _) .nil))
        have S3 : ∀ {G : Hp} {q : Addr} {x : Str} {y : Int}, G q = some (.tup [.str x, .int y]) → Dp K G (.ref q) (.tuple [.str x, .int y]) := fun h => .tup (.inl (.inl h)) (.cons (.str _) (.cons (.int _) .nil))
        refine ⟨.list dueD, .list dueD, .lst (.inl (.inl hL)) (.cons (S2 h0) (.cons (S2 h1) (.cons (S3 h2) (.cons (S3 h3) (.cons (S2 h4) (.cons (S2 h5) (.cons (S3 h6) (.cons (S3 h7) .nil)))))))),
          .lst (.inl (.inl upd_same)) (.cons (S2 g1) (.cons (S2 g2) (.cons (S3 g3) (.cons (S3 g4) (.cons (S2 g1) (.cons (S2 g2) (.cons (S3 g3) (.cons (S3 g4) .nil)))))))), by decide +kernel, by decide +kernel, ?_⟩
        rw [show PyData.eqv (.list dueD) (.list dueD) = true by decide +kernel]
        exact q _
end
end K06
namespace K06
open PySem PySem.Spec PyProof.Rows L2 Kx SX LamX Ms PnX
open Lev
/-- edits lead no farther than they are many -/
theorem far_step {t u : List Nat} {e : Ed} (d : doE t e = some u) : far t u ≤ 1 := by
  cases e with
  | put a c =>
    obtain ⟨_, rfl⟩ := inv_put d
    have := far_put (t.take a) (t.drop a) c
    rwa [List.take_append_drop] at this
  | lost a =>
    obtain ⟨h, rfl⟩ := inv_lost d
    have := far_lost (t.take a) (t.drop (a + 1)) (t.getD a 0)
    rwa [List.append_assoc, List.singleton_append, ← drop_cut h, List.take_append_drop] at this
  | chg a c =>
    obtain ⟨h, rfl⟩ := inv_chg d
    have := far_chg (t.take a) (t.drop (a + 1)) (t.getD a 0) c
    rwa [List.append_assoc (t.take a) [t.getD a 0], List.singleton_append, ← drop_cut h.1, List.take_append_drop] at this
theorem far_path {t u : List Nat} {es : List Ed} (h : Path t es u) : far t u ≤ es.length := by
  induction h with
  | nil t => rw [far_zero.mpr rfl]; exact Nat.zero_le _
  | @cons t t' u e r d _ ih =>
    have h1 := far_tri t t' u
    have h2 := far_step d
    rw [List.length_cons]
    omega
/-- the numbers of a row of the law's table -/
def rowM (txts : List (List Nat)) (m : List Nat) : List Nat := txts.map (far m)
theorem rowM_ne {txts : List (List Nat)} {m : List Nat} {ps : List Addr} (ht : txts ≠ []) (h : nv (rowM txts m) = ps.map V.ref) : False := by
  cases txts with
  | nil => exact ht rfl
  | cons t r =>
    cases ps with
    | nil => cases h
    | cons p q => injection h with h _; cases h
/-- the law's table, as far as it is -/
structure Tab (H0 : Hp) (txts : List (List Nat)) (D : Addr) (k : Nat) (H : Hp) : Prop where
  same : Same H0 H
  row : ∃ ps : List Addr, H D = some (.lst (ps.map V.ref)) ∧ ps.length = k ∧ ∀ (i : Nat) (p : Addr) (m : List Nat), ps[i]? = some p → txts[i]? = some m → H p = some (.lst (nv (rowM txts m)))
theorem Tab.ext {H0 H H' : Hp} {txts : List (List Nat)} {D : Addr} {k : Nat} (h : Tab H0 txts D k H) (e : Same H H') : Tab H0 txts D k H' := by
  obtain ⟨s, ps, h1, h2, h3⟩ := h
  exact ⟨s.trans e, ps, e _ _ h1, h2, fun i p m a b => e _ _ (h3 i p m a b)⟩
theorem Tab.add {H0 H H' : Hp} {txts : List (List Nat)} {D p : Addr} {k : Nat} {m : List Nat} (ht : txts ≠ []) (h : Tab H0 txts D k H) (nD : H0 D = none) (e : Same H H') (hm : txts[k]? = some m) (hp : H' p = some (.lst (nv (rowM txts m)))) :
    ∃ ps : List Addr, H' D = some (.lst (ps.map V.ref)) ∧ ps.length = k ∧ Tab H0 txts D (k + 1) (upd H' D (.lst (ps.map V.ref ++ [V.ref p]))) := by
  obtain ⟨s, ps, h1, h2, h3⟩ := h.ext e
  have ne : ∀ {q : Addr} {m : List Nat}, H' q = some (.lst (nv (rowM txts m))) → q ≠ D := fun hq z => by
    rw [z, h1] at hq
    injection hq with hq
    injection hq with hq
    exact rowM_ne ht hq.symm
  refine ⟨ps, h1, h2, same_put nD s, ps ++ [p], by rw [upd_same, List.map_append]; rfl, by rw [List.length_append, h2]; rfl, fun i q m' a b => ?_⟩
  by_cases hi : i < ps.length
  · rw [List.getElem?_append_left hi] at a
    have := h3 i q m' a b
    rw [upd_ne (ne this)]
    exact this
  · have hi2 : i = ps.length := by
      have := (List.getElem?_eq_some_iff.mp a).1
      rw [List.length_append] at this
      have h1 : ([p] : List Addr).length = 1 := rfl
      omega
    subst hi2
    rw [List.getElem?_append_right (Nat.le_refl _), Nat.sub_self] at a
    cases a
    rw [h2, hm] at b
    cases b
    rw [upd_ne (ne hp)]
    exact hp
theorem Tab.get {H0 H : Hp} {txts : List (List Nat)} {D : Addr} {i j : Nat} (h : Tab H0 txts D txts.length H) (hi : i < txts.length) (hj : j < txts.length) : ∃ (ps : List Addr) (p : Addr), H D = some (.lst (ps.map V.ref)) ∧ atI (ps.map V.ref) (i : Int) = some (.ref p) ∧ H p = some (.lst (nv (rowM txts (txts.getD i [])))) ∧ atI (nv (rowM txts (txts.getD i []))) (j : Int) = some (.int (far (txts.getD i []) (txts.getD j []) : Nat)) := by
  obtain ⟨s, ps, h1, h2, h3⟩ := h
  have hl : i < ps.length := by omega
  have e1 : ∀ k, k < txts.length → txts[k]? = some (txts.getD k []) := fun k hk => by
    rw [List.getD_eq_getElem?_getD, List.getElem?_eq_getElem hk]
    rfl
  refine ⟨ps, ps[i], h1, ?_, h3 i _ _ (List.getElem?_eq_getElem hl) (e1 i hi), ?_⟩
  · rw [at_nat (by rw [List.length_map]; exact hl), List.getElem_map]
  · have lr : (rowM txts (txts.getD i [])).length = txts.length := List.length_map ..
    rw [nv_at (by rw [lr]; exact hj)]
    unfold rowM
    rw [List.getD_eq_getElem?_getD, List.getElem?_map, e1 j hj]
    rfl
section
variable {P : Program} {w : World} {K : PySem.W.Frag} {mg : Str → Option Value} {base : Heap} (T : Tx K mg)
section
variable {a : Addr} {xs : List V} {g : TG} {tt : TT} {te : TE} {vs : List Nat} {σ : L2.St} {H : Hp} {k : Nat} {Q : VK}
/-- [e for x in NAME], NAME a list: by the turn and the heap -/
theorem lc_lstit (hi : σ[k]? = some (some (.ref a))) (hq : SqL K H a xs) (Pv : Addr → Nat → Hp → Prop) (h0 : ∀ D, H D = none → Pv D 0 (upd H D (.lst []))) (hG : ∀ D i H', Pv D i H' → Same H H')
    (hs : ∀ D i x H', H D = none → xs[i]? = some x → Pv D i H' → g x (wipe σ vs) H' fun σ2 H2 => wipe σ2 vs = wipe σ vs ∧ tt σ2 H2 fun b H3 => if b = true then te σ2 H3 fun y H4 => ∃ acc, H4 D = some (.lst acc) ∧ acc.length < sizeLine ∧ Pv D (i + 1) (upd H4 D (.lst (acc ++ [y]))) else Pv D (i + 1) H3)
    (hd : ∀ D H', H D = none → Pv D xs.length H' → Q (.ref D) H') : tLc (iList K (tVar k)) g tt te vs σ H Q :=
  ⟨_, hi, a, rfl, ⟨_, hq⟩, fun D nD => lc_it (walk_list (xs := xs)) (Pv D) (h0 D nD) (fun i H' _ p => (hG D i H' p).seq hq) (fun i x Hc Hx hi p y => by
      obtain ⟨rfl, hx⟩ := y
      exact hs D i x _ nD hx p) (fun H' p => hd D H' nD p)⟩
end
theorem inV_none (d : List Nat) : inV .non (nv d) = false := by
  unfold inV
  rw [List.any_eq_false]
  intro x hx
  obtain ⟨z, _, rfl⟩ := nv_mem hx
  simp
  rfl
theorem midS {t : TS} {σ : L2.St} {H : Hp} {D : Ends} (R : L2.St → Hp → Prop) (h1 : ∀ D1 : Ends, (∀ σ' H', R σ' H' → D1.nx σ' H') → t D1 σ H) (h2 : ∀ σ' H', R σ' H' → D.nx σ' H') : t D σ H := h1 D h2
theorem inK_pi_list {X : Cx} {K : PySem.W.Frag} (e : X.K = K) {tg l : Expr} {tl : TE} (hl : PE X l tl) : PI X tg l (iList K tl) := e ▸ pi_list hl
def sp_law (K : PySem.W.Frag) (Pt : Addr) : Sp := fun vs H Q _ => ∃ (a : Addr) (ns : List Int), vs = [.ref a] ∧ SqL K H a (ns.map V.int) ∧ H Pt = some (.tbl #[]) ∧ ∀ H', Q (.bl true) H'
theorem ok_law [SupX.PaperP P] {c Pt : Addr} (FC : FunC K "_law_bounds_right" "_law_bounds_right" s_law_bounds_right T.f_law_bounds_right T.fd_law_bounds_right c) (TB : TabB base mg c Pt) : FnG P w K mg base CX0 26 T.f_law T.fd_law ["script"] (sp_law K Pt) := by
  have FG_law_bounds_right := ok_law_bounds_right (P := P) (w := w) (base := base) T FC TB
  refine okG T.F_law sc_law (fun vs H Q E h => ?_) (fun cdv A outer s H vs Q E hg hr h => ?_)
  · obtain ⟨a, ns, rfl, _⟩ := h
    rfl
  · obtain ⟨s0, ns, rfl, hs, hP, q⟩ := h
    refine ⟨_, (pss_cons (ps_set (i := 1) sc_law.nd rfl (.inl rfl) (pe_call (ok_law_ferry T) (hr.mono (by decide)) (by rfl) T.g_law_ferry T.F_law_ferry.kp T.b_law_ferry .nil pass0 (pa_cons (pv 0) pa_nil)))
    (pss_cons (ps_for PassesOwn.never rfl (pi_range1 (by rfl) T.m_range (pa_cons pe_int pa_nil)) (pg_name (i := 2) sc_law.nd rfl (.inl rfl))
      (pss_cons (ps_par (i := 3) (j := 4) rfl sc_law.nd rfl rfl (by decide) rfl rfl (pa_cons (pe_call (ok_law_text T) (hr.mono (by decide)) (by rfl) T.g_law_text T.F_law_text.kp T.b_law_text .nil pass0 (pa_cons (pv 1) (pa_cons (pe_call (ok_law_one T) (hr.mono (by decide)) (by rfl) T.g_law_one T.F_law_one.kp T.b_law_one .nil pass0 (pa_cons (pv 1) (pa_cons (pe_lst (pa_cons pe_int (pa_cons pe_int (pa_cons pe_int pa_nil)))) pa_nil))) pa_nil))) (pa_cons (pe_call (ok_law_one T) (hr.mono (by decide)) (by rfl) T.g_law_one T.F_law_one.kp T.b_law_one .nil pass0 (pa_cons (pv 1) (pa_cons (pe_lst (pa_cons pe_int (pa_cons pe_int (pa_cons pe_int pa_nil)))) pa_nil))) pa_nil)) (by rfl))
      (pss_cons (ps_asg (pe_call (ok_law_damage T) (hr.mono (by decide)) (by rfl) T.g_law_damage T.F_law_damage.kp T.b_law_damage .nil pass0 (pa_cons (pv 1) (pa_cons (pv 3) (pa_cons (pe_call (ok_law_row T) (hr.mono (by decide)) (by rfl) T.g_law_row T.F_law_row.kp T.b_law_row .nil pass0 (pa_cons (pv 1) (pa_cons pe_int pa_nil))) (pa_cons pe_str pa_nil))))) (pg_tup rfl (pgs_cons (pg_name (i := 5) sc_law.nd rfl (.inl rfl)) (pgs_cons (pg_name (i := 6) sc_law.nd rfl (.inl rfl)) pgs_nil))))
      (pss_cons (ps_set (i := 7) sc_law.nd rfl (.inr rfl) (pe_lst (pa_cons (pv 3) (pa_cons (pv 6) (pa_cons (pe_call (ok_law_one T) (hr.mono (by decide)) (by rfl) T.g_law_one T.F_law_one.kp T.b_law_one .nil pass0 (pa_cons (pv 1) (pa_cons (pe_lst (pa_cons (pe_call (ok_law_text T) (hr.mono (by decide)) (by rfl) T.g_law_text T.F_law_text.kp T.b_law_text .nil pass0 (pa_cons (pv 1) (pa_cons (pv 4) pa_nil))) (pa_cons (pv 3) (pa_cons (pe_revS (pv 3)) pa_nil)))) pa_nil))) pa_nil)))))
      (pss_cons (ps_setLc (i := 10) (own := [("mine", 9)]) rfl sc_law.nd rfl rfl (sw_true rfl rfl rfl (by decide +kernel)) (pi_list (pv 7)) (blkOk_by (own := [("mine", 9)]) (N := ["script", "ferry", "turn", "one", "most", "edits", "near", "some", "its", "mine", "far", "row", "at", "spot"]) (sc := defScope s_law) (by decide +kernel)) (fun _ _ _ _ _ => (pg_name (i := 9) sc_law.nd rfl (.inr rfl))) (fun _ _ _ _ _ => pts_nil) (fun _ _ _ _ _ => (pe_lc (own := [("its", 8)]) rfl sc_law.nd (inK_pi_list (K := K) rfl (pv 7)) (blkOk_by (own := [("its", 8)]) (N := ["script", "ferry", "turn", "one", "most", "edits", "near", "some", "its", "mine", "far", "row", "at", "spot"]) (sc := relS _ (defScope s_law)) (by decide +kernel)) (fun _ _ _ _ _ => (pg_name (i := 8) sc_law.nd rfl (.inl rfl))) (fun _ _ _ _ _ => pts_nil) (fun _ _ _ _ _ => (pe_callG (ok_law_way_right T) hg (hr.mono (by decide)) (by rfl) T.g_law_way_right T.F_law_way_right.kp T.b_law_way_right (pa_cons (pv 9) (pa_cons (pv 8) pa_nil)))))))
      (pss_cons (ps_if (PW.pt (pw_or (pt_cmpR (op_neD hr.units) (pe_lc (own := [("row", 11)]) rfl sc_law.nd (pi_list (pv 10)) (blkOk_by (own := [("row", 11)]) (N := ["script", "ferry", "turn", "one", "most", "edits", "near", "some", "its", "mine", "far", "row", "at", "spot"]) (sc := defScope s_law) (by decide +kernel)) (fun _ _ _ _ _ => (pg_name (i := 11) sc_law.nd rfl (.inl rfl))) (fun _ _ _ _ _ => pts_one (pt_cmpR (inK_op_in_seq (K := K) rfl) pe_non (pv 11) rfl)) (fun _ _ _ _ _ => (pv 11))) (pe_lst pa_nil) (nomark _)) (pw_or1 (pt_cmpR op_gt (pe_ix ix_list (pe_ix ix_list (pv 10) pe_int (fun _ _ => rfl)) pe_int (fun _ _ => rfl)) (pe_callB call_len_seq (by rfl) T.m_len PySem.boot_len (pa_cons (pv 5) pa_nil)) (nomark _)))))
        (pss_one (ps_ret pe_bl))
        pss_nil)
      (pss_one (ps_for PassesOwn.never rfl (pi_range1 (by rfl) T.m_range (pa_cons pe_int pa_nil)) (pg_name (i := 12) sc_law.nd rfl (.inl rfl))
        (pss_one (ps_for PassesOwn.never rfl (pi_range1 (by rfl) T.m_range (pa_cons pe_int pa_nil)) (pg_name (i := 13) sc_law.nd rfl (.inl rfl))
          (pss_one (ps_if (PW.pt (pw_or (pt_cmpR op_ne (pe_ix ix_list (pe_ix ix_list (pv 10) (pv 12) (fun _ _ => rfl)) (pv 13) (fun _ _ => rfl)) (pe_ix ix_list (pe_ix ix_list (pv 10) (pv 13) (fun _ _ => rfl)) (pv 12) (fun _ _ => rfl)) (nomark _)) (pw_or (pt_cmpR op_ne (pe_cmpR op_eq (pe_ix ix_list (pe_ix ix_list (pv 10) (pv 12) (fun _ _ => rfl)) (pv 13) (fun _ _ => rfl)) pe_int (nomark _)) (pe_cmpR op_eq (pe_ix ix_list (pv 7) (pv 12) (fun _ _ => rfl)) (pe_ix ix_list (pv 7) (pv 13) (fun _ _ => rfl)) (nomark _)) (nomark _)) (pw_or1 (pt_cmpR op_lt (pe_op op_add (pe_ix ix_list (pe_ix ix_list (pv 10) (pv 12) (fun _ _ => rfl)) pe_int (fun _ _ => rfl)) (pe_ix ix_list (pe_ix ix_list (pv 10) pe_int (fun _ _ => rfl)) (pv 13) (fun _ _ => rfl))) (pe_ix ix_list (pe_ix ix_list (pv 10) (pv 12) (fun _ _ => rfl)) (pv 13) (fun _ _ => rfl)) (nomark _))))))
            (pss_one (ps_ret pe_bl))
            pss_nil))))))))))))
    (pss_cons (ps_if (pt_cmpR op_eq (pe_call (ok_law_row T) (hr.mono (by decide)) (by rfl) T.g_law_row T.F_law_row.kp T.b_law_row .nil pass0 (pa_cons (pv 1) (pa_cons pe_int pa_nil))) pe_int (nomark _))
      (pss_cons (ps_set (i := 3) sc_law.nd rfl (.inl rfl) (pe_op op_add_str (pe_call (ok_law_text T) (hr.mono (by decide)) (by rfl) T.g_law_text T.F_law_text.kp T.b_law_text .nil pass0 (pa_cons (pv 1) (pa_cons pe_int pa_nil))) (pe_op op_repS pe_str pe_int)))
      (pss_one (ps_if (pt_cmpR op_isN (pe_callG (ok_law_way_right T) hg (hr.mono (by decide)) (by rfl) T.g_law_way_right T.F_law_way_right.kp T.b_law_way_right (pa_cons (pe_slice C8.sl_txt (pv 3) po_none (po_some pe_int)) (pa_cons (pe_slice C8.sl_txt (pe_op op_add_str pe_str (pv 3)) po_none (po_some pe_int)) pa_nil))) pe_non (nomark _))
        (pss_one (ps_ret pe_bl))
        pss_nil)))
      pss_nil)
    (pss_one (ps_ret (pe_callG FG_law_bounds_right hg (hr.mono (by decide)) (by rfl) T.g_law_bounds_right T.F_law_bounds_right.kp T.b_law_bounds_right (pa_cons (pv 1) pa_nil))))))), ?_⟩
    refine go_seq (go_asg ⟨_, rfl, s0, ns, rfl, hs, fun a c H1 na e1 w0 => ?_⟩)
    have hP1 := e1 _ _ hP
    clear hP na e1 hs
    dsimp only [gName]
    refine go_seq ⟨3, rfl, by decide, by decide, for_range (lo := 0) (n := 3) (fun i σ H' => ∃ (o2 o3 o4 o5 o6 o7 o8 o9 o10 o11 o12 o13 : Option V), σ = [some (.ref s0), some (.ref a), o2, o3, o4, o5, o6, o7, o8, o9, o10, o11, o12, o13] ∧ Wh H' a c (200 * i) ∧ H' Pt = some (.tbl #[])) ⟨none, none, none, none, none, none, none, none, none, none, none, none, rfl, w0, hP1⟩ (fun i σ' Hc hi h => ?_) (fun σ' Hc h => ?_)⟩
    · obtain ⟨o2, o3, o4, o5, o6, o7, o8, o9, o10, o11, o12, o13, rfl, wi, hPi⟩ := h
      dsimp only [gName]
      have hmv : ∀ {H H' : Hp} {n : Nat}, Wh H a c n → Mv a H H' → H Pt = some (.tbl #[]) → H' Pt = some (.tbl #[]) := fun w m h => by
        obtain ⟨cs, x, l', g1, _⟩ := w
        exact m _ _ (ne_of_two h g1 (fun z => by cases z)) h
      refine go_seq (go_par (go_cons (go_call (go_cons (go_var rfl (go_cons (go_call (go_cons (go_var rfl ?_)))))))))
      refine go_cons (go_lst (go_cons (go_c (go_cons (go_c (go_cons (go_c (go_nil ⟨sz3, fun p6 n6 => go_nil (pick_new n6 wi (by omega) (by simp) (show 3 ≤ 1000000 by decide) fun mv H2 hv m2 w2 => ?_)⟩))))))))
      obtain ⟨m0, rfl, lm⟩ : ∃ m0 : Nat, mv = .int (m0 : Nat) ∧ m0 ≤ 20 := by
        simp only [List.mem_cons, List.not_mem_nil, or_false] at hv
        rcases hv with rfl | rfl | rfl
        · exact ⟨8, rfl, by decide⟩
        · exact ⟨20, rfl, by decide⟩
        · exact ⟨3, rfl, by decide⟩
      have hP2 := hmv wi m2 hPi
      clear hv m2 n6 hPi
      refine go_nil ⟨a, c, m0, _, rfl, w2, by omega, by omega, fun one H3 l1 g1 m3 w3 => ?_⟩
      have hP3 := hmv w2 m3 hP2
      have w3 := w3.lt (show 200 * i + 1 + m0 + 3 ≤ 200 * i + 24 by omega)
      clear m3 w2 hP2 wi
      refine go_cons (go_call (go_cons (go_var rfl ?_)))
      refine go_cons (go_lst (go_cons (go_c (go_cons (go_c (go_cons (go_c (go_nil ⟨sz3, fun p6 n6 => go_nil (pick_new n6 w3 (by omega) (by simp) (show 3 ≤ 1000000 by decide) fun mv H4 hv m4 w4 => ?_)⟩))))))))
      obtain ⟨most, rfl, lm2⟩ : ∃ m0 : Nat, mv = .int (m0 : Nat) ∧ m0 ≤ 20 := by
        simp only [List.mem_cons, List.not_mem_nil, or_false] at hv
        rcases hv with rfl | rfl | rfl
        · exact ⟨8, rfl, by decide⟩
        · exact ⟨20, rfl, by decide⟩
        · exact ⟨3, rfl, by decide⟩
      have hP4 := hmv w3 m4 hP3
      clear hv m4 n6 hP3 w3
      refine go_nil ⟨_, _, rfl, ?_⟩
      dsimp only
      -- a damage
      refine go_seq (go_asg (go_call (go_cons (go_var rfl (go_cons (go_var rfl (go_cons (go_call (go_cons (go_var rfl ?_))))))))))
      refine go_cons (go_c (go_nil ⟨a, c, 7, _, rfl, by decide, by decide, w4, by omega, fun r H5 r0 r7 m5 w5 => ?_⟩))
      obtain ⟨k, rfl⟩ : ∃ k : Nat, r = k := ⟨r.toNat, by omega⟩
      have hP5 := hmv w4 m5 hP4
      clear m5 w4 hP4
      refine go_cons (go_c (go_nil ⟨a, c, one, [97, 98, 32, 122], k, _, rfl, w5, by omega, by omega, by simp, by decide, by decide +kernel, fun p De es u H6 les hok hp hE hpt nD m6 w6 => ?_⟩))
      have hP6 := hmv w5 m6 hP5
      have w6 := w6.lt (show 200 * i + 24 + 1 + 1 + 10 * k ≤ 200 * i + 90 by omega)
      clear m6 w5 hP5 nD
      have gu : ∀ x ∈ u, sg x = true := (path_sg g1 hok hp).1
      have lu := (Path.len hp).1
      have hfp := far_path hp
      refine ⟨p, _, rfl, .inl (.inl hpt), rfl, _, _, rfl, _, _, rfl, rfl, ?_⟩
      dsimp only
      -- three texts
      refine go_seq (go_asg (go_lst (go_cons (go_var rfl (go_cons (go_var rfl (go_cons (go_call (go_cons (go_var rfl ?_))))))))))
      refine go_cons (go_lst (go_cons (go_call (go_cons (go_var rfl (go_cons (go_var rfl (go_nil ⟨a, c, most, _, rfl, w6, by omega, by omega, fun t2 H7 l2 g2 m7 w7 => ?_⟩))))))))
      have hP7 := hmv w6 m7 hP6
      have hE7 : EdsL H7 De es := by
        obtain ⟨qs, h1, h2, h3⟩ := hE
        obtain ⟨cs, x, l', k1, _⟩ := id w6
        have ne1 : De ≠ a := fun z => by
          rw [z, k1] at h1
          injection h1 with h1
          injection h1 with h1
          cases qs with
          | nil => cases h1
          | cons q r =>
            cases r with
            | nil => cases h1
            | cons q2 r =>
              injection h1 with _ h1
              injection h1 with h1 _
              cases h1
        exact ⟨qs, m7 _ _ ne1 h1, h2, fun i q e x y => m7 _ _ (ne_of_two (h3 i q e x y) k1 (fun z => by cases z)) (h3 i q e x y)⟩
      have w7 := w7.lt (show 200 * i + 90 + most + 3 ≤ 200 * i + 113 by omega)
      clear hpt
      refine go_cons (go_var rfl (go_cons ⟨_, rfl, one, rfl, by omega, ?_⟩))
      refine go_nil ⟨sz3, fun p6 n6 => go_nil (pick_new n6 w7 (by omega) (by simp) (show 3 ≤ 1000000 by decide) fun mv H8 hv m8 w8 => ?_)⟩
      obtain ⟨third, rfl, l3, g3⟩ : ∃ z : List Nat, mv = .str (S z) ∧ z.length ≤ 26 ∧ ∀ x ∈ z, sg x = true := by
        simp only [List.mem_cons, List.not_mem_nil, or_false] at hv
        rcases hv with rfl | rfl | rfl
        · exact ⟨t2, rfl, by omega, g2⟩
        · exact ⟨one, rfl, by omega, g1⟩
        · exact ⟨one.reverse, rfl, by rw [List.length_reverse]; omega, fun x hx => g1 x (List.mem_reverse.mp hx)⟩
      have hP8 := hmv w7 m8 hP7
      have hE8 : EdsL H8 De es := by
        obtain ⟨qs, h1, h2, h3⟩ := hE7
        obtain ⟨cs, x, l', k1, _⟩ := id w7
        have ne1 : De ≠ a := fun z => by
          rw [z, k1] at h1
          injection h1 with h1
          injection h1 with h1
          cases qs with
          | nil => cases h1
          | cons q r =>
            cases r with
            | nil => cases h1
            | cons q2 r =>
              injection h1 with _ h1
              injection h1 with h1 _
              cases h1
        exact ⟨qs, m8 _ _ ne1 h1, h2, fun i q e x y => m8 _ _ (ne_of_two (h3 i q e x y) k1 (fun z => by cases z)) (h3 i q e x y)⟩
      clear hv m8 n6 hP7 hP6 w7 w6 hE7 hE g2 l2 m7
      refine go_nil ⟨sz3, fun X nX => ?_⟩
      have e9 := same_new (o := HO.lst [V.str (S one), V.str (S u), V.str (S third)]) nX
      have hX := upd_same (H := H8) (a := X) (o := HO.lst [V.str (S one), V.str (S u), V.str (S third)])
      have hP9 := e9 _ _ hP8
      have hE9 := hE8.same e9
      have w9 := w8.same e9
      generalize upd H8 X (HO.lst [V.str (S one), V.str (S u), V.str (S third)]) = H9 at hX hP9 hE9 w9 ⊢
      clear e9 nX hP8 hE8 w8
      have hgs : ∀ t ∈ [one, u, third], t.length ≤ 300 ∧ ∀ x ∈ t, sg x = true := fun t ht => by
        simp only [List.mem_cons, List.not_mem_nil, or_false] at ht
        rcases ht with rfl | rfl | rfl
        · exact ⟨by omega, g1⟩
        · exact ⟨by omega, gu⟩
        · exact ⟨by omega, g3⟩
      have hX2 : H9 X = some (.lst ([one, u, third].map tx)) := hX
      have e0 : ([one, u, third].getD 0 [] : List Nat) = one := rfl
      have e1 : ([one, u, third].getD 1 [] : List Nat) = u := rfl
      have lt : ([one, u, third] : List (List Nat)).length = 3 := rfl
      have hne : ([one, u, third] : List (List Nat)) ≠ [] := by simp
      dsimp only [gName]
      generalize [one, u, third] = txts at hgs hX2 e0 e1 lt hne
      clear hX
      -- the table
      refine go_seq (go_asg ?_)
      refine lc_lstit (K := K) rfl (.inl (.inl hX2)) (fun D k H' => Tab H9 txts D k H') (fun D nD => ⟨same_new nD, [], upd_same, rfl, fun i p m z => by cases z⟩) (fun D i H' h => h.same) (fun D k x H' nD hx h => ?_) (fun D H' nD h => ?_)
      · obtain ⟨m, hm, rfl⟩ := map_at hx
        refine ⟨rfl, go_yes (iteT (A := tLc _ _ _ _ _ _ _ _) ?_)⟩
        refine lc_lstk (K := K) (txts.map fun t => some (V.int (far m t : Nat))) (by rw [List.length_map, List.length_map]) rfl (.inl (.inl (h.same _ _ hX2))) (by rw [List.length_map, lt]; decide) (fun j y z Hc Q' R' hy hz e q' r' => ?_) (fun D2 Hc e hD2 => ?_)
        · obtain ⟨t, ht, rfl⟩ := map_at hy
          obtain ⟨t', ht', rfl⟩ := map_at hz
          rw [ht] at ht'
          cases ht'
          obtain ⟨a1, a2⟩ := hgs m (List.mem_of_getElem? hm)
          obtain ⟨b1, b2⟩ := hgs t (List.mem_of_getElem? ht)
          refine ⟨rfl, iteT (B := True) ?_⟩
          exact go_call (go_cons (go_var rfl (go_cons (go_var rfl (go_nil ⟨m, t, rfl, a1, b1, a2, b2, fun H5 e5 => q' _ _ rfl e5⟩)))))
        · have hfm : (txts.map fun t => some (V.int (far m t : Nat))).filterMap id = nv (rowM txts m) := by
            unfold nv iv rowM
            rw [List.filterMap_map, List.map_map, List.map_map]
            exact congrFun (List.filterMap_eq_map (f := fun t => V.int (far m t : Nat))) _
          rw [hfm] at hD2
          obtain ⟨ps, b1, b2, b3⟩ := h.add hne nD e hm hD2
          refine ⟨_, b1, ?_, b3⟩
          have := (List.getElem?_eq_some_iff.mp hm).1
          rw [List.length_map, b2]
          exact Nat.lt_of_lt_of_le (show k < 100 by omega) (by decide)
      rw [List.length_map] at h
      have hP10 := h.same _ _ hP9
      have hX10 := h.same _ _ hX2
      have hE10 := hE9.same h.same
      have w10 := w9.same h.same
      clear hP9 hX2 hE9 w9
      dsimp only [gName]
      -- none is missing
      obtain ⟨ps, hD, lps, hrows⟩ := id h.row
      refine go_seq (go_if (go_or2 (go_test (go_op ?_))))
      refine lc_lstk (K := K) (ps.map fun _ => none) (by rw [List.length_map, List.length_map]) rfl (.inl (.inl hD)) (by rw [List.length_map, lps, lt]; decide) (fun j y z Hc Q' R' hy hz e q' r' => ?_) (fun D2 Hc e hD2 => ?_)
      · obtain ⟨p, hp, rfl⟩ := map_at hy
        obtain ⟨p', hp', rfl⟩ := map_at hz
        have hj := (List.getElem?_eq_some_iff.mp hp).1
        have hm := List.getElem?_eq_getElem (l := txts) (i := j) (by omega)
        have hr1 := e _ _ (hrows j p _ hp hm)
        refine ⟨rfl, go_test (go_op (go_c (go_var rfl ⟨p, _, rfl, .inl (.inl (.inl hr1)), rfl, nv_flat _, false, ?_, iteF (A := _) (r' _ rfl (Same.refl _))⟩)))⟩
        rw [show (if false = true then !inV V.non (nv (rowM txts txts[j])) else inV V.non (nv (rowM txts txts[j]))) = inV V.non (nv (rowM txts txts[j])) from rfl, inV_none]
      · have hnil : (ps.map fun _ => (none : Option V)).filterMap id = [] := by
          rw [List.filterMap_map]
          exact List.filterMap_eq_nil_iff.mpr fun _ _ => rfl
        rw [hnil] at hD2
        refine go_lst (go_nil ⟨Nat.zero_le _, fun D3 n3 => ?_⟩)
        have x3 := same_new (o := HO.lst []) n3
        refine ⟨.list [], .list [], .lst (.inl (.inl (x3 _ _ hD2))) .nil, .lst (.inl (.inl upd_same)) .nil, by decide, by decide, ?_⟩
        rw [show PyData.eqv (.list []) (.list []) = true by decide]
        refine ⟨_, rfl, iteF (A := _) ?_⟩
        have e11 := e.trans x3
        have hT := h.ext e11
        have hP11 := e11 _ _ hP10
        have hX11 := e11 _ _ hX10
        have hE11 := hE10.same e11
        have w11 := w10.same e11
        generalize upd Hc D3 (HO.lst []) = H11 at hT hP11 hX11 hE11 w11 ⊢
        clear hP10 hX10 hE10 w10 e11 x3 n3 hD2 e hD hrows lps h
        obtain ⟨ps2, p2, b1, b2, b3, b4⟩ := hT.get (i := 0) (j := 1) (by omega) (by omega)
        obtain ⟨qs, c1, c2, _⟩ := id hE11
        refine go_test (go_op (go_op (go_op (go_var rfl (go_c ⟨D, _, ((0 : Nat) : Int), _, rfl, rfl, .inl (.inl b1), b2, go_c ⟨p2, _, ((1 : Nat) : Int), _, rfl, rfl, .inl (.inl b3), b4, ?_⟩⟩)))))
        refine go_cb (go_cons (go_var rfl (go_nil ⟨De, _, rfl, .inl (.inl (.inl c1)), ?_⟩)))
        rw [List.length_map, c2, les, e0, e1]
        refine ⟨_, _, rfl, rfl, _, rfl, ?_⟩
        rw [decide_eq_false (by omega)]
        refine iteF (A := _) ?_
        dsimp only [tNext]
        have hat : ∀ k : Nat, k < 3 → atI (txts.map tx) (0 + (k : Int)) = some (tx (txts.getD k [])) := fun k hk => by
          rw [Int.zero_add, at_nat (by rw [List.length_map, lt]; exact hk), List.getElem_map, List.getD_eq_getElem?_getD, List.getElem?_eq_getElem (by omega)]
          rfl
        refine ⟨3, rfl, by decide, by decide, for_range (lo := 0) (n := 3) (fun x σ H' => ∃ (o8 o9 o11 o12 o13 : Option V), σ = [some (.ref s0), some (.ref a), some (.int (0 + (i : Int))), some (.str (S one)), some (.int (most : Nat)), some (.ref De), some (.str (S u)), some (.ref X), o8, o9, some (.ref D), o11, o12, o13] ∧ H' = H11)
          ⟨_, _, _, _, _, rfl, rfl⟩ (fun x σ2 H2 hx h => ?_) (fun σ2 H2 h => ?_)⟩
        · obtain ⟨o8, o9, o11, o12, o13, rfl, rfl⟩ := h
          dsimp only [gName]
          refine ⟨3, rfl, by decide, by decide, for_range (lo := 0) (n := 3) (fun y σ H' => ∃ (o13 : Option V), σ = [some (.ref s0), some (.ref a), some (.int (0 + (i : Int))), some (.str (S one)), some (.int (most : Nat)), some (.ref De), some (.str (S u)), some (.ref X), o8, o9, some (.ref D), o11, some (.int (0 + (x : Int))), o13] ∧ H' = H2)
            ⟨_, rfl, rfl⟩ (fun y σ3 H3 hy h => ?_) (fun σ3 H3 h => ?_)⟩
          · obtain ⟨o13, rfl, rfl⟩ := h
            dsimp only [gName]
            obtain ⟨p3, q3, f1, f2, f3, f4⟩ := hT.get (i := x) (j := y) (by omega) (by omega)
            obtain ⟨p4, q4, k1, k2, k3, k4⟩ := hT.get (i := y) (j := x) (by omega) (by omega)
            obtain ⟨p5, q5, n1, n2, n3, n4⟩ := hT.get (i := x) (j := 0) (by omega) (by omega)
            obtain ⟨p6, q6, r1, r2, r3, r4⟩ := hT.get (i := 0) (j := y) (by omega) (by omega)
            rw [← Int.zero_add (x : Int)] at f2 n2 k4
            rw [← Int.zero_add (y : Int)] at f4 k2 r4
            have ax := hat x hx
            have ay := hat y hy
            have tri := far_tri (txts.getD x []) (txts.getD 0 []) (txts.getD y [])
            have com := far_comm (txts.getD x []) (txts.getD y [])
            have zer := far_zero (a := txts.getD x []) (b := txts.getD y [])
            generalize txts.getD x [] = tx1 at f3 f4 k4 n3 n4 ax tri com zer
            generalize txts.getD y [] = ty1 at f4 k3 k4 r4 ay tri com zer
            refine go_if (go_or2 (go_test (go_op (go_op (go_op (go_var rfl (go_var rfl ⟨D, _, _, _, rfl, rfl, .inl (.inl f1), f2, go_var rfl ⟨q3, _, _, _, rfl, rfl, .inl (.inl f3), f4, ?_⟩⟩)))))))
            refine go_op (go_op (go_var rfl (go_var rfl ⟨D, _, _, _, rfl, rfl, .inl (.inl k1), k2, go_var rfl ⟨q4, _, _, _, rfl, rfl, .inl (.inl k3), k4, ⟨rfl, false, ?_, iteF (A := _) ?_⟩⟩⟩)))
            · rw [com, ne_self]
            refine go_or2 (go_test (go_op (go_op (go_op (go_op (go_var rfl (go_var rfl ⟨D, _, _, _, rfl, rfl, .inl (.inl f1), f2, go_var rfl ⟨q3, _, _, _, rfl, rfl, .inl (.inl f3), f4, go_c ⟨rfl, ?_⟩⟩⟩)))))))
            refine go_op (go_op (go_var rfl (go_var rfl ⟨X, _, _, _, rfl, rfl, .inl (.inl hX11), ax, ?_⟩)))
            refine go_op (go_var rfl (go_var rfl ⟨X, _, _, _, rfl, rfl, .inl (.inl hX11), ay, ⟨rfl, ⟨rfl, false, ?_, iteF (A := _) ?_⟩⟩⟩))
            · have e : decide (V.int (far tx1 ty1 : Nat) = V.int 0) = decide (tx tx1 = tx ty1) := by
                rw [eqi]
                by_cases z : tx1 = ty1
                · rw [decide_eq_true (by have := zer.mpr z; omega), decide_eq_true (by rw [z])]
                · rw [decide_eq_false (fun w => z (zer.mp (by omega))), decide_eq_false (fun w => z ?_)]
                  have w2 : V.str (S tx1) = V.str (S ty1) := w
                  injection w2 with w2
                  have w3 : (S tx1).cps.toList = (S ty1).cps.toList := by rw [w2]
                  simpa [S] using w3
              rw [e, ne_self]
            refine go_test (go_op (go_op (go_op (go_op (go_var rfl (go_var rfl ⟨D, _, _, _, rfl, rfl, .inl (.inl n1), n2, go_c ⟨q5, _, ((0 : Nat) : Int), _, rfl, rfl, .inl (.inl n3), n4, ?_⟩⟩))))))
            refine go_op (go_op (go_var rfl (go_c ⟨D, _, ((0 : Nat) : Int), _, rfl, rfl, .inl (.inl r1), r2, go_var rfl ⟨q6, _, _, _, rfl, rfl, .inl (.inl r3), r4, ?_⟩⟩)))
            refine ⟨_, _, rfl, rfl, ?_⟩
            refine go_op (go_op (go_var rfl (go_var rfl ⟨D, _, _, _, rfl, rfl, .inl (.inl f1), f2, go_var rfl ⟨q3, _, _, _, rfl, rfl, .inl (.inl f3), f4, ⟨_, _, rfl, rfl, _, rfl, ?_⟩⟩⟩)))
            rw [decide_eq_false (by omega)]
            exact iteF (A := _) ⟨_, rfl, rfl⟩
          · obtain ⟨o13, rfl, rfl⟩ := h
            exact ⟨_, _, _, _, _, rfl, rfl⟩
        · obtain ⟨o8, o9, o11, o12, o13, rfl, rfl⟩ := h
          exact ⟨_, _, _, _, _, _, _, _, _, _, _, _, rfl, w11.lt (by omega), hP11⟩
    · obtain ⟨o2, o3, o4, o5, o6, o7, o8, o9, o10, o11, o12, o13, rfl, w3, hP3⟩ := h
      dsimp only
      have hmv : ∀ {H H' : Hp} {n : Nat}, Wh H a c n → Mv a H H' → H Pt = some (.tbl #[]) → H' Pt = some (.tbl #[]) := fun w m h => by
        obtain ⟨cs, x, l', g1, _⟩ := w
        exact m _ _ (ne_of_two h g1 (fun z => by cases z)) h
      refine go_seq (midS (fun σ' H' => (∃ o : Option V, σ' = [some (.ref s0), some (.ref a), o2, o, o4, o5, o6, o7, o8, o9, o10, o11, o12, o13]) ∧ (∃ n, Wh H' a c n ∧ n + 4 ≤ 1000000) ∧ H' Pt = some (.tbl #[])) (fun D1 d1 => ?_) (fun σ' H2 h2 => ?_))
      · refine go_if (go_test (go_op (go_call (go_cons (go_var rfl (go_cons (go_c (go_nil ⟨a, c, 60, _, rfl, by decide, by decide, w3, by omega, fun r H4 r0 r6 m4 w4 => ?_⟩))))))))
        have hP4 := hmv w3 m4 hP3
        refine go_c ⟨rfl, _, rfl, iteC (fun hh => ?_) (fun hh => d1 _ _ ⟨⟨_, rfl⟩, ⟨_, w4, by omega⟩, hP4⟩)⟩
        refine go_seq (go_asg (go_op (go_call (go_cons (go_var rfl (go_cons (go_c (go_nil ⟨a, c, 300, _, rfl, w4, by omega, by omega, fun t H5 lt gt m5 w5 => ?_⟩))))))))
        have hP5 := hmv w4 m5 hP4
        refine go_op (go_c (go_c ⟨[97, 98], 150, rfl, rfl, by decide, by decide, ?_⟩))
        obtain ⟨tail, ht⟩ : ∃ tail : List Nat, tail = (List.replicate 150 [97, 98]).flatten := ⟨_, rfl⟩
        have t1 : tail.length = 300 := by rw [ht, rep_len]; rfl
        have t2 : ∀ x ∈ tail, sg x = true := fun x hx => by
          have h1 : ∀ y ∈ [97, 98], sg y = true := by decide +kernel
          exact h1 x (rep_mem (ht ▸ hx))
        rw [← ht]
        clear ht
        refine ⟨S t, S tail, rfl, rfl, app_le (by omega), ?_⟩
        rw [S_app]
        have o1 : (t ++ tail).length ≤ 600 := by rw [List.length_append]; omega
        have o2 : ∀ x ∈ t ++ tail, sg x = true := fun x hx => (List.mem_append.mp hx).elim (gt x) (t2 x)
        generalize t ++ tail = one at o1 o2 ⊢
        clear t1 t2 lt gt
        dsimp only [gName]
        have cutA : Txt.slice (S one) none (some 300) = S (one.take 300) := cut_toN one 300
        have cutB : Txt.slice (S ([98, 97] ++ one)) none (some 300) = S (([98, 97] ++ one).take 300) := cut_toN ([98, 97] ++ one) 300
        refine go_if (go_test (go_op (go_call (go_cons ⟨_, rfl, 300, rfl, S one, rfl, len_le (by omega), ?_⟩))))
        rw [cutA]
        refine go_cons (go_op (go_c (go_var rfl ⟨S [98, 97], S one, rfl, rfl, app_le (by show 2 + one.length ≤ 400000; omega), ?_⟩)))
        rw [S_app]
        refine ⟨300, rfl, S ([98, 97] ++ one), rfl, len_le (by rw [List.length_append]; show 2 + one.length ≤ 200000; omega), ?_⟩
        rw [cutB]
        refine go_nil ⟨_, _, rfl, by rw [List.length_take]; omega, by rw [List.length_take]; omega, fun x hx => o2 x (List.mem_of_mem_take hx), fun x hx => ?_, fun H6 e6 => ?_⟩
        · have h1 : ∀ y ∈ [98, 97], sg y = true := by decide +kernel
          exact (List.mem_append.mp (List.mem_of_mem_take hx)).elim (h1 x) (o2 x)
        · refine go_c ⟨rfl, _, rfl, iteF (A := _) (d1 _ _ ⟨⟨_, rfl⟩, ⟨_, w5.same e6, by omega⟩, e6 _ _ hP5⟩)⟩
      · obtain ⟨⟨o, rfl⟩, ⟨n, wn, ln⟩, hPn⟩ := h2
        exact go_ret (go_call (go_cons (go_var rfl (go_nil ⟨a, c, n, rfl, wn, ln, hPn, fun H' => q H'⟩))))
end
end K06
namespace K06
open PySem PySem.Spec PyProof.Rows L2 Kx SX LamX Ms PnX
def tx_mk {K : PySem.W.Frag} {h : Heap} {mg : Str → Option Value} (X : K.In h) (G : h.Ns mainGlobals mg)
    {f0 : Addr} {od0 an0 : Option Addr} {sl0 : Array (Option Value)} {oc0 kV0 dc0 pm0 cd0 ct0 : Value}
    {f1 : Addr} {od1 an1 : Option Addr} {sl1 : Array (Option Value)} {oc1 kV1 dc1 pm1 cd1 ct1 : Value}
    {f2 : Addr} {od2 an2 : Option Addr} {sl2 : Array (Option Value)} {oc2 kV2 dc2 pm2 cd2 ct2 : Value}
    {f3 : Addr} {od3 an3 : Option Addr} {sl3 : Array (Option Value)} {oc3 kV3 dc3 pm3 cd3 ct3 : Value}
    {f4 : Addr} {od4 an4 : Option Addr} {sl4 : Array (Option Value)} {oc4 kV4 dc4 pm4 cd4 ct4 : Value}
    {f5 : Addr} {od5 an5 : Option Addr} {sl5 : Array (Option Value)} {oc5 kV5 dc5 pm5 cd5 ct5 : Value}
    {f6 : Addr} {od6 an6 : Option Addr} {sl6 : Array (Option Value)} {oc6 kV6 dc6 pm6 cd6 ct6 : Value}
    {f7 : Addr} {od7 an7 : Option Addr} {sl7 : Array (Option Value)} {oc7 kV7 dc7 pm7 cd7 ct7 : Value}
    {f8 : Addr} {od8 an8 : Option Addr} {sl8 : Array (Option Value)} {oc8 kV8 dc8 pm8 cd8 ct8 : Value}
    {f9 : Addr} {od9 an9 : Option Addr} {sl9 : Array (Option Value)} {oc9 kV9 dc9 pm9 cd9 ct9 : Value}
    {f10 : Addr} {od10 an10 : Option Addr} {sl10 : Array (Option Value)} {oc10 kV10 dc10 pm10 cd10 ct10 : Value}
    {f11 : Addr} {od11 an11 : Option Addr} {sl11 : Array (Option Value)} {oc11 kV11 dc11 pm11 cd11 ct11 : Value}
    {f12 : Addr} {od12 an12 : Option Addr} {sl12 : Array (Option Value)} {oc12 kV12 dc12 pm12 cd12 ct12 : Value}
    {f13 : Addr} {od13 an13 : Option Addr} {sl13 : Array (Option Value)} {oc13 kV13 dc13 pm13 cd13 ct13 : Value}
    {f14 : Addr} {od14 an14 : Option Addr} {sl14 : Array (Option Value)} {oc14 kV14 dc14 pm14 cd14 ct14 : Value}
    {f15 : Addr} {od15 an15 : Option Addr} {sl15 : Array (Option Value)} {oc15 kV15 dc15 pm15 cd15 ct15 : Value}
    {f16 : Addr} {od16 an16 : Option Addr} {sl16 : Array (Option Value)} {oc16 kV16 dc16 pm16 cd16 ct16 : Value}
    {f17 : Addr} {od17 an17 : Option Addr} {sl17 : Array (Option Value)} {oc17 kV17 dc17 pm17 cd17 ct17 : Value}
    {f18 : Addr} {od18 an18 : Option Addr} {sl18 : Array (Option Value)} {oc18 kV18 dc18 pm18 cd18 ct18 : Value}
    {f19 : Addr} {od19 an19 : Option Addr} {sl19 : Array (Option Value)} {oc19 kV19 dc19 pm19 cd19 ct19 : Value}
    {f20 : Addr} {od20 an20 : Option Addr} {sl20 : Array (Option Value)} {oc20 kV20 dc20 pm20 cd20 ct20 : Value}
    {mf0 : Addr} {mod0 man0 : Option Addr} {msl0 : Array (Option Value)} {moc0 mkV0 mdc0 mpm0 mcd0 mct0 : Value}
    {mf1 : Addr} {mod1 man1 : Option Addr} {msl1 : Array (Option Value)} {moc1 mkV1 mdc1 mpm1 mcd1 mct1 : Value}
    {mf2 : Addr} {mod2 man2 : Option Addr} {msl2 : Array (Option Value)} {moc2 mkV2 mdc2 mpm2 mcd2 mct2 : Value}
    {mf3 : Addr} {mod3 man3 : Option Addr} {msl3 : Array (Option Value)} {moc3 mkV3 mdc3 mpm3 mct3 : Value} {mca3 mcc3 mD3 : Addr} {mo13 mo33 : Value} {mo23 mo43 : Option Addr} {ms13 ms23 : Array (Option Value)} {mvs3 : Array Value} {mtf3 : Tok} {mcl3 : ClassData}
    {KC_Paper : Addr}
    {KC_Ways : Addr}
    {KD_TooMany : Addr}
    {KD_BadText : Addr}
    {KD_BadEdits : Addr}
    {KD_BadNumber : Addr}
    {KD_BadBook : Addr}
    {KD_BadMachine : Addr}
    {KD_BadRow : Addr}
    {KD_Misfit : Addr}
    {KD_Denial : Addr}
    {koc_Ways : Value} {kod_Ways : Option Addr} {kcd_Ways : ClassData} {ksl_Ways : Array (Option Value)} {ktk_Ways : Tok}
    {t0 : Tok}
    {t1 : Tok}
    (a0 : PySem.W.nsIn K mainGlobals "are_letters" = some (some (.ref f0))) (l0 : K.lookup f0 = some ⟨oc0, od0, .func (PySem.W.fnOf "are_letters" "are_letters" (defArgs s_are_letters) (defBody s_are_letters) (defScope s_are_letters) .none kV0 dc0 pm0 an0 cd0 ct0), sl0⟩) (c0 : PySem.W.codeIn K cd0 "are_letters" = true) (k0 : PySem.W.keepIn K (.ref f0) = true)
    (a1 : PySem.W.nsIn K mainGlobals "is_text" = some (some (.ref f1))) (l1 : K.lookup f1 = some ⟨oc1, od1, .func (PySem.W.fnOf "is_text" "is_text" (defArgs s_is_text) (defBody s_is_text) (defScope s_is_text) .none kV1 dc1 pm1 an1 cd1 ct1), sl1⟩) (c1 : PySem.W.codeIn K cd1 "is_text" = true) (k1 : PySem.W.keepIn K (.ref f1) = true)
    (a2 : PySem.W.nsIn K mainGlobals "fixed" = some (some (.ref f2))) (l2 : K.lookup f2 = some ⟨oc2, od2, .func (PySem.W.fnOf "fixed" "fixed" (defArgs s_fixed) (defBody s_fixed) (defScope s_fixed) .none kV2 dc2 pm2 an2 cd2 ct2), sl2⟩) (c2 : PySem.W.codeIn K cd2 "fixed" = true) (k2 : PySem.W.keepIn K (.ref f2) = true)
    (a3 : PySem.W.nsIn K mainGlobals "are_alike" = some (some (.ref f3))) (l3 : K.lookup f3 = some ⟨oc3, od3, .func (PySem.W.fnOf "are_alike" "are_alike" (defArgs s_are_alike) (defBody s_are_alike) (defScope s_are_alike) .none kV3 dc3 pm3 an3 cd3 ct3), sl3⟩) (c3 : PySem.W.codeIn K cd3 "are_alike" = true) (k3 : PySem.W.keepIn K (.ref f3) = true)
    (a4 : PySem.W.nsIn K mainGlobals "check_pair" = some (some (.ref f4))) (l4 : K.lookup f4 = some ⟨oc4, od4, .func (PySem.W.fnOf "check_pair" "check_pair" (defArgs s_check_pair) (defBody s_check_pair) (defScope s_check_pair) .none kV4 dc4 pm4 an4 cd4 ct4), sl4⟩) (c4 : PySem.W.codeIn K cd4 "check_pair" = true) (k4 : PySem.W.keepIn K (.ref f4) = true)
    (a5 : PySem.W.nsIn K mainGlobals "next_numbers" = some (some (.ref f5))) (l5 : K.lookup f5 = some ⟨oc5, od5, .func (PySem.W.fnOf "next_numbers" "next_numbers" (defArgs s_next_numbers) (defBody s_next_numbers) (defScope s_next_numbers) .none kV5 dc5 pm5 an5 cd5 ct5), sl5⟩) (c5 : PySem.W.codeIn K cd5 "next_numbers" = true) (k5 : PySem.W.keepIn K (.ref f5) = true)
    (a6 : PySem.W.nsIn K mainGlobals "least_numbers" = some (some (.ref f6))) (l6 : K.lookup f6 = some ⟨oc6, od6, .func (PySem.W.fnOf "least_numbers" "least_numbers" (defArgs s_least_numbers) (defBody s_least_numbers) (defScope s_least_numbers) .none kV6 dc6 pm6 an6 cd6 ct6), sl6⟩) (c6 : PySem.W.codeIn K cd6 "least_numbers" = true) (k6 : PySem.W.keepIn K (.ref f6) = true)
    (a7 : PySem.W.nsIn K mainGlobals "edits_between" = some (some (.ref f7))) (l7 : K.lookup f7 = some ⟨oc7, od7, .func (PySem.W.fnOf "edits_between" "edits_between" (defArgs s_edits_between) (defBody s_edits_between) (defScope s_edits_between) .none kV7 dc7 pm7 an7 cd7 ct7), sl7⟩) (c7 : PySem.W.codeIn K cd7 "edits_between" = true) (k7 : PySem.W.keepIn K (.ref f7) = true)
    (a8 : PySem.W.nsIn K mainGlobals "least_edits" = some (some (.ref f8))) (l8 : K.lookup f8 = some ⟨oc8, od8, .func (PySem.W.fnOf "least_edits" "least_edits" (defArgs s_least_edits) (defBody s_least_edits) (defScope s_least_edits) .none kV8 dc8 pm8 an8 cd8 ct8), sl8⟩) (c8 : PySem.W.codeIn K cd8 "least_edits" = true) (k8 : PySem.W.keepIn K (.ref f8) = true)
    (a9 : PySem.W.nsIn K mainGlobals "_law_ferry" = some (some (.ref f9))) (l9 : K.lookup f9 = some ⟨oc9, od9, .func (PySem.W.fnOf "_law_ferry" "_law_ferry" (defArgs s_law_ferry) (defBody s_law_ferry) (defScope s_law_ferry) .none kV9 dc9 pm9 an9 cd9 ct9), sl9⟩) (c9 : PySem.W.codeIn K cd9 "_law_ferry" = true) (k9 : PySem.W.keepIn K (.ref f9) = true)
    (a10 : PySem.W.nsIn K mainGlobals "_law_row" = some (some (.ref f10))) (l10 : K.lookup f10 = some ⟨oc10, od10, .func (PySem.W.fnOf "_law_row" "_law_row" (defArgs s_law_row) (defBody s_law_row) (defScope s_law_row) .none kV10 dc10 pm10 an10 cd10 ct10), sl10⟩) (c10 : PySem.W.codeIn K cd10 "_law_row" = true) (k10 : PySem.W.keepIn K (.ref f10) = true)
    (a11 : PySem.W.nsIn K mainGlobals "_law_one" = some (some (.ref f11))) (l11 : K.lookup f11 = some ⟨oc11, od11, .func (PySem.W.fnOf "_law_one" "_law_one" (defArgs s_law_one) (defBody s_law_one) (defScope s_law_one) .none kV11 dc11 pm11 an11 cd11 ct11), sl11⟩) (c11 : PySem.W.codeIn K cd11 "_law_one" = true) (k11 : PySem.W.keepIn K (.ref f11) = true)
    (a12 : PySem.W.nsIn K mainGlobals "_law_done" = some (some (.ref f12))) (l12 : K.lookup f12 = some ⟨oc12, od12, .func (PySem.W.fnOf "_law_done" "_law_done" (defArgs s_law_done) (defBody s_law_done) (defScope s_law_done) .none kV12 dc12 pm12 an12 cd12 ct12), sl12⟩) (c12 : PySem.W.codeIn K cd12 "_law_done" = true) (k12 : PySem.W.keepIn K (.ref f12) = true)
    (a13 : PySem.W.nsIn K mainGlobals "_law_edit" = some (some (.ref f13))) (l13 : K.lookup f13 = some ⟨oc13, od13, .func (PySem.W.fnOf "_law_edit" "_law_edit" (defArgs s_law_edit) (defBody s_law_edit) (defScope s_law_edit) .none kV13 dc13 pm13 an13 cd13 ct13), sl13⟩) (c13 : PySem.W.codeIn K cd13 "_law_edit" = true) (k13 : PySem.W.keepIn K (.ref f13) = true)
    (a14 : PySem.W.nsIn K mainGlobals "_law_damage" = some (some (.ref f14))) (l14 : K.lookup f14 = some ⟨oc14, od14, .func (PySem.W.fnOf "_law_damage" "_law_damage" (defArgs s_law_damage) (defBody s_law_damage) (defScope s_law_damage) .none kV14 dc14 pm14 an14 cd14 ct14), sl14⟩) (c14 : PySem.W.codeIn K cd14 "_law_damage" = true) (k14 : PySem.W.keepIn K (.ref f14) = true)
    (a15 : PySem.W.nsIn K mainGlobals "_law_text" = some (some (.ref f15))) (l15 : K.lookup f15 = some ⟨oc15, od15, .func (PySem.W.fnOf "_law_text" "_law_text" (defArgs s_law_text) (defBody s_law_text) (defScope s_law_text) .none kV15 dc15 pm15 an15 cd15 ct15), sl15⟩) (c15 : PySem.W.codeIn K cd15 "_law_text" = true) (k15 : PySem.W.keepIn K (.ref f15) = true)
    (a16 : PySem.W.nsIn K mainGlobals "_law_apart" = some (some (.ref f16))) (l16 : K.lookup f16 = some ⟨oc16, od16, .func (PySem.W.fnOf "_law_apart" "_law_apart" (defArgs s_law_apart) (defBody s_law_apart) (defScope s_law_apart) .none kV16 dc16 pm16 an16 cd16 ct16), sl16⟩) (c16 : PySem.W.codeIn K cd16 "_law_apart" = true) (k16 : PySem.W.keepIn K (.ref f16) = true)
    (a17 : PySem.W.nsIn K mainGlobals "_law_heard" = some (some (.ref f17))) (l17 : K.lookup f17 = some ⟨oc17, od17, .func (PySem.W.fnOf "_law_heard" "_law_heard" (defArgs s_law_heard) (defBody s_law_heard) (defScope s_law_heard) .none kV17 dc17 pm17 an17 cd17 ct17), sl17⟩) (c17 : PySem.W.codeIn K cd17 "_law_heard" = true) (k17 : PySem.W.keepIn K (.ref f17) = true)
    (a18 : PySem.W.nsIn K mainGlobals "_law_way_right" = some (some (.ref f18))) (l18 : K.lookup f18 = some ⟨oc18, od18, .func (PySem.W.fnOf "_law_way_right" "_law_way_right" (defArgs s_law_way_right) (defBody s_law_way_right) (defScope s_law_way_right) .none kV18 dc18 pm18 an18 cd18 ct18), sl18⟩) (c18 : PySem.W.codeIn K cd18 "_law_way_right" = true) (k18 : PySem.W.keepIn K (.ref f18) = true)
    (a19 : PySem.W.nsIn K mainGlobals "_law_bounds_right" = some (some (.ref f19))) (l19 : K.lookup f19 = some ⟨oc19, od19, .func (PySem.W.fnOf "_law_bounds_right" "_law_bounds_right" (defArgs s_law_bounds_right) (defBody s_law_bounds_right) (defScope s_law_bounds_right) .none kV19 dc19 pm19 an19 cd19 ct19), sl19⟩) (c19 : PySem.W.codeIn K cd19 "_law_bounds_right" = true) (k19 : PySem.W.keepIn K (.ref f19) = true)
    (a20 : PySem.W.nsIn K mainGlobals "law" = some (some (.ref f20))) (l20 : K.lookup f20 = some ⟨oc20, od20, .func (PySem.W.fnOf "law" "law" (defArgs s_law) (defBody s_law) (defScope s_law) .none kV20 dc20 pm20 an20 cd20 ct20), sl20⟩) (c20 : PySem.W.codeIn K cd20 "law" = true) (k20 : PySem.W.keepIn K (.ref f20) = true)
    (ca_Paper : PySem.W.nsIn K mainGlobals "Paper" = some (some (.ref KC_Paper)))
    (cp_Paper : PySem.W.plainGet K KC_Paper Str.empty = true)
    (cd_Paper : PySem.W.hasDictIn K KC_Paper = true)
    (co_Paper : PySem.W.plainOver K KC_Paper = true)
    (cs_Paper : PySem.W.findIn K (.ref KC_Paper) "__setattr__" = some (some (.builtin "object.__setattr__")))
    (cm_Paper : PySem.W.makesIn K KC_Paper = true)
    (ck_Paper : PySem.W.keepIn K (.ref KC_Paper) = true)
    (cb_Paper : PySem.W.mroIn K KC_Paper (.type "object") = some true)
    (cn_Paper : PySem.W.findIn K (.ref KC_Paper) "__ne__" = some (some (.builtin "object.__ne__")))
    (cc_Paper : PySem.W.findIn K (.ref KC_Paper) "__class__" = some (some (.builtin "object.__class__")))
    (cg_Paper : PySem.W.specialIn K (.builtin "object.__class__") "__get__" = some (some (.builtin "getset_descriptor.__get__")))
    (ct_Paper : PySem.W.takesIn K (.builtin "object.__class__") = some true)
    (ci_Paper : PySem.W.isClsIn K KC_Paper = true)
    (cy_Paper : PySem.W.typeIn K (.ref KC_Paper) = some (.type "type"))
    (cx_Paper_word : PySem.W.findIn K (.ref KC_Paper) "word" = some none)
    (cx_Paper_parts : PySem.W.findIn K (.ref KC_Paper) "parts" = some none)
    (ca_Ways : PySem.W.nsIn K mainGlobals "Ways" = some (some (.ref KC_Ways)))
    (cp_Ways : PySem.W.plainGet K KC_Ways Str.empty = true)
    (cd_Ways : PySem.W.hasDictIn K KC_Ways = true)
    (co_Ways : PySem.W.plainOver K KC_Ways = true)
    (cs_Ways : PySem.W.findIn K (.ref KC_Ways) "__setattr__" = some (some (.builtin "object.__setattr__")))
    (cm_Ways : PySem.W.makesIn K KC_Ways = true)
    (ck_Ways : PySem.W.keepIn K (.ref KC_Ways) = true)
    (cb_Ways : PySem.W.mroIn K KC_Ways (.type "object") = some true)
    (cn_Ways : PySem.W.findIn K (.ref KC_Ways) "__ne__" = some (some (.builtin "object.__ne__")))
    (cc_Ways : PySem.W.findIn K (.ref KC_Ways) "__class__" = some (some (.builtin "object.__class__")))
    (cg_Ways : PySem.W.specialIn K (.builtin "object.__class__") "__get__" = some (some (.builtin "getset_descriptor.__get__")))
    (ct_Ways : PySem.W.takesIn K (.builtin "object.__class__") = some true)
    (ci_Ways : PySem.W.isClsIn K KC_Ways = true)
    (cy_Ways : PySem.W.typeIn K (.ref KC_Ways) = some (.type "type"))
    (cx_Ways_word : PySem.W.findIn K (.ref KC_Ways) "word" = some none)
    (cx_Ways_parts : PySem.W.findIn K (.ref KC_Ways) "parts" = some none)
    (cx_Ways_edits : PySem.W.findIn K (.ref KC_Ways) "edits" = some none)
    (da_TooMany : PySem.W.nsIn K mainGlobals "TooMany" = some (some (.ref KD_TooMany)))
    (di_TooMany : PySem.W.isClsIn K KD_TooMany = true)
    (dy_TooMany : PySem.W.typeIn K (.ref KD_TooMany) = some (.type "type"))
    (da_BadText : PySem.W.nsIn K mainGlobals "BadText" = some (some (.ref KD_BadText)))
    (di_BadText : PySem.W.isClsIn K KD_BadText = true)
    (dy_BadText : PySem.W.typeIn K (.ref KD_BadText) = some (.type "type"))
    (da_BadEdits : PySem.W.nsIn K mainGlobals "BadEdits" = some (some (.ref KD_BadEdits)))
    (di_BadEdits : PySem.W.isClsIn K KD_BadEdits = true)
    (dy_BadEdits : PySem.W.typeIn K (.ref KD_BadEdits) = some (.type "type"))
    (da_BadNumber : PySem.W.nsIn K mainGlobals "BadNumber" = some (some (.ref KD_BadNumber)))
    (di_BadNumber : PySem.W.isClsIn K KD_BadNumber = true)
    (dy_BadNumber : PySem.W.typeIn K (.ref KD_BadNumber) = some (.type "type"))
    (da_BadBook : PySem.W.nsIn K mainGlobals "BadBook" = some (some (.ref KD_BadBook)))
    (di_BadBook : PySem.W.isClsIn K KD_BadBook = true)
    (dy_BadBook : PySem.W.typeIn K (.ref KD_BadBook) = some (.type "type"))
    (da_BadMachine : PySem.W.nsIn K mainGlobals "BadMachine" = some (some (.ref KD_BadMachine)))
    (di_BadMachine : PySem.W.isClsIn K KD_BadMachine = true)
    (dy_BadMachine : PySem.W.typeIn K (.ref KD_BadMachine) = some (.type "type"))
    (da_BadRow : PySem.W.nsIn K mainGlobals "BadRow" = some (some (.ref KD_BadRow)))
    (di_BadRow : PySem.W.isClsIn K KD_BadRow = true)
    (dy_BadRow : PySem.W.typeIn K (.ref KD_BadRow) = some (.type "type"))
    (da_Misfit : PySem.W.nsIn K mainGlobals "Misfit" = some (some (.ref KD_Misfit)))
    (di_Misfit : PySem.W.isClsIn K KD_Misfit = true)
    (dy_Misfit : PySem.W.typeIn K (.ref KD_Misfit) = some (.type "type"))
    (da_Denial : PySem.W.nsIn K mainGlobals "Denial" = some (some (.ref KD_Denial)))
    (di_Denial : PySem.W.isClsIn K KD_Denial = true)
    (dy_Denial : PySem.W.typeIn K (.ref KD_Denial) = some (.type "type"))
    (ds_BadText_TooMany : PySem.W.subIn K (.ref KD_BadText) (.ref KD_TooMany) = some false)
    (ds_BadText_BadText : PySem.W.subIn K (.ref KD_BadText) (.ref KD_BadText) = some true)
    (ds_BadText_BadEdits : PySem.W.subIn K (.ref KD_BadText) (.ref KD_BadEdits) = some false)
    (ds_BadText_BadNumber : PySem.W.subIn K (.ref KD_BadText) (.ref KD_BadNumber) = some false)
    (ds_BadText_BadBook : PySem.W.subIn K (.ref KD_BadText) (.ref KD_BadBook) = some false)
    (ds_BadText_BadMachine : PySem.W.subIn K (.ref KD_BadText) (.ref KD_BadMachine) = some false)
    (ds_BadText_BadRow : PySem.W.subIn K (.ref KD_BadText) (.ref KD_BadRow) = some false)
    (ds_BadText_Misfit : PySem.W.subIn K (.ref KD_BadText) (.ref KD_Misfit) = some false)
    (ds_TooMany_TooMany : PySem.W.subIn K (.ref KD_TooMany) (.ref KD_TooMany) = some true)
    (ds_TooMany_BadText : PySem.W.subIn K (.ref KD_TooMany) (.ref KD_BadText) = some false)
    (ds_TooMany_BadEdits : PySem.W.subIn K (.ref KD_TooMany) (.ref KD_BadEdits) = some false)
    (ds_TooMany_BadNumber : PySem.W.subIn K (.ref KD_TooMany) (.ref KD_BadNumber) = some false)
    (ds_TooMany_BadBook : PySem.W.subIn K (.ref KD_TooMany) (.ref KD_BadBook) = some false)
    (ds_TooMany_BadMachine : PySem.W.subIn K (.ref KD_TooMany) (.ref KD_BadMachine) = some false)
    (ds_TooMany_BadRow : PySem.W.subIn K (.ref KD_TooMany) (.ref KD_BadRow) = some false)
    (ds_TooMany_Misfit : PySem.W.subIn K (.ref KD_TooMany) (.ref KD_Misfit) = some false)
    (ds_Ways_Ways : PySem.W.subIn K (.ref KC_Ways) (.ref KC_Ways) = some true)
    (ds_Ways_Denial : PySem.W.subIn K (.ref KC_Ways) (.ref KD_Denial) = some false)
    (ds_Ways_Paper : PySem.W.subIn K (.ref KC_Ways) (.ref KC_Paper) = some true)
    (ma0 : PySem.W.findIn K (.ref KC_Paper) "__init__" = some (some (.ref mf0))) (mi0 : PySem.W.isFn K (.ref mf0) = true) (ml0 : K.lookup mf0 = some ⟨moc0, mod0, .func (PySem.W.fnOf "__init__" "Paper.__init__" (defArgs s_Paper_init) (defBody s_Paper_init) (defScope s_Paper_init) .none mkV0 mdc0 mpm0 man0 mcd0 mct0), msl0⟩) (mc0 : PySem.W.codeIn K mcd0 "Paper.__init__" = true) (mk0 : PySem.W.keepIn K (.ref mf0) = true)
    (ma1 : PySem.W.findIn K (.ref KC_Paper) "__eq__" = some (some (.ref mf1))) (mi1 : PySem.W.isFn K (.ref mf1) = true) (ml1 : K.lookup mf1 = some ⟨moc1, mod1, .func (PySem.W.fnOf "__eq__" "Paper.__eq__" (defArgs s_Paper_eq) (defBody s_Paper_eq) (defScope s_Paper_eq) .none mkV1 mdc1 mpm1 man1 mcd1 mct1), msl1⟩) (mc1 : PySem.W.codeIn K mcd1 "Paper.__eq__" = true) (mk1 : PySem.W.keepIn K (.ref mf1) = true)
    (ma2 : PySem.W.findIn K (.ref KC_Paper) "__bool__" = some (some (.ref mf2))) (mi2 : PySem.W.isFn K (.ref mf2) = true) (ml2 : K.lookup mf2 = some ⟨moc2, mod2, .func (PySem.W.fnOf "__bool__" "Paper.__bool__" (defArgs s_Paper_bool) (defBody s_Paper_bool) (defScope s_Paper_bool) .none mkV2 mdc2 mpm2 man2 mcd2 mct2), msl2⟩) (mc2 : PySem.W.codeIn K mcd2 "Paper.__bool__" = true) (mk2 : PySem.W.keepIn K (.ref mf2) = true)
    (ma3 : PySem.W.findIn K (.ref KC_Ways) "__init__" = some (some (.ref mf3))) (mi3 : PySem.W.isFn K (.ref mf3) = true) (ml3 : K.lookup mf3 = some ⟨moc3, mod3, .func (PySem.W.fnX "__init__" "Ways.__init__" (defArgs s_Ways_init) (defBody s_Ways_init) (defScope s_Ways_init) [("__class__", mcc3)] .none mkV3 mdc3 mpm3 man3 (.ref mca3) mct3), msl3⟩) (mc3 : PySem.W.codeIn K (.ref mca3) "Ways.__init__" = true) (mk3 : PySem.W.keepIn K (.ref mf3) = true) (mq13 : K.lookup mcc3 = some ⟨mo13, mo23, .cell (some (.ref mD3)), ms13⟩) (mq23 : K.lookup mca3 = some ⟨mo33, mo43, .fields mvs3, ms23⟩) (mq33 : mvs3[2]? = some (.str "/claim/cut.py" mtf3)) (mq43 : PySem.W.clsIn K mD3 = some mcl3) (mq53 : PySem.W.mroIn K KC_Ways (.ref mD3) = some true) (mq63 : PySem.W.ks_superIn K KC_Ways mD3 "__init__" = some (some (.ref mf0))) (mq73 : PySem.W.typeIn K (.ref mf0) = some (.type "function")) (mq83 : PySem.W.fnIn K mf0 = true) (mq93 : PySem.W.nsIn K cStatics "thirdparty.any" = some none)
    (ia_Ways_eq : PySem.W.findIn K (.ref KC_Ways) "__eq__" = some (some (.ref mf1)))
    (kn1_Ways : PySem.W.nsIn K cStatics "thirdparty.any" = some none) (kn2_Ways : K.lookup KC_Ways = some ⟨koc_Ways, kod_Ways, .cls kcd_Ways, ksl_Ways⟩) (kn3_Ways : ksl_Ways[2]? = some (some (.str "Ways" ktk_Ways)))
    (z0 : PySem.W.nsIn K mainGlobals "isinstance" = some none)
    (z1 : PySem.W.nsIn K mainGlobals "str" = some none)
    (z2 : PySem.W.nsIn K mainGlobals "len" = some none)
    (z3 : PySem.W.nsIn K mainGlobals "list" = some none)
    (z4 : PySem.W.nsIn K mainGlobals "tuple" = some none)
    (z5 : PySem.W.nsIn K mainGlobals "max" = some none)
    (z6 : PySem.W.nsIn K mainGlobals "enumerate" = some none)
    (z7 : PySem.W.nsIn K mainGlobals "min" = some none)
    (z8 : PySem.W.nsIn K mainGlobals "range" = some none)
    (z9 : PySem.W.nsIn K mainGlobals "int" = some none)
    (z10 : PySem.W.nsIn K mainGlobals "abs" = some none)
    (z11 : PySem.W.nsIn K mainGlobals "repr" = some none)
    (z12 : PySem.W.nsIn K mainGlobals "super" = some none)
    (er_BadText : Er K mg "BadText" "BadText.__init__" s_BadText_init "LetterError")
    (e2_TooMany : Er2 K mg "TooMany" "TooMany.__init__" s_TooMany_init "LetterError" "what" "most")
    (q0 : PySem.W.nsIn K mainGlobals "MOST_SIGNS" = some (some (.int 200000 t0)))
    (q1 : PySem.W.nsIn K mainGlobals "MOST_WAY_SIGNS" = some (some (.int 300 t1))) : Tx K mg :=
  {
    f_are_letters := f0
    fd_are_letters := _
    F_are_letters := fun_mk (st := s_are_letters) l0 c0 k0
    g_are_letters := PySem.W.mg_of X G a0
    b_are_letters := (fun_mk (st := s_are_letters) l0 c0 k0).binds (ps := ["text"]) fun _ _ _ _ _ _ us hl => match us, hl with | [_], _ => rfl
    f_is_text := f1
    fd_is_text := _
    F_is_text := fun_mk (st := s_is_text) l1 c1 k1
    g_is_text := PySem.W.mg_of X G a1
    b_is_text := (fun_mk (st := s_is_text) l1 c1 k1).binds (ps := ["value"]) fun _ _ _ _ _ _ us hl => match us, hl with | [_], _ => rfl
    f_fixed := f2
    fd_fixed := _
    F_fixed := fun_mk (st := s_fixed) l2 c2 k2
    g_fixed := PySem.W.mg_of X G a2
    b_fixed := (fun_mk (st := s_fixed) l2 c2 k2).binds (ps := ["value"]) fun _ _ _ _ _ _ us hl => match us, hl with | [_], _ => rfl
    f_are_alike := f3
    fd_are_alike := _
    F_are_alike := fun_mk (st := s_are_alike) l3 c3 k3
    g_are_alike := PySem.W.mg_of X G a3
    b_are_alike := (fun_mk (st := s_are_alike) l3 c3 k3).binds (ps := ["paper", "other"]) fun _ _ _ _ _ _ us hl => match us, hl with | [_, _], _ => rfl
    f_check_pair := f4
    fd_check_pair := _
    F_check_pair := fun_mk (st := s_check_pair) l4 c4 k4
    g_check_pair := PySem.W.mg_of X G a4
    b_check_pair := (fun_mk (st := s_check_pair) l4 c4 k4).binds (ps := ["one", "other"]) fun _ _ _ _ _ _ us hl => match us, hl with | [_, _], _ => rfl
    f_next_numbers := f5
    fd_next_numbers := _
    F_next_numbers := fun_mk (st := s_next_numbers) l5 c5 k5
    g_next_numbers := PySem.W.mg_of X G a5
    b_next_numbers := (fun_mk (st := s_next_numbers) l5 c5 k5).binds (ps := ["above", "first", "sign", "wanted"]) fun _ _ _ _ _ _ us hl => match us, hl with | [_, _, _, _], _ => rfl
    f_least_numbers := f6
    fd_least_numbers := _
    F_least_numbers := fun_mk (st := s_least_numbers) l6 c6 k6
    g_least_numbers := PySem.W.mg_of X G a6
    b_least_numbers := (fun_mk (st := s_least_numbers) l6 c6 k6).binds (ps := ["one", "other"]) fun _ _ _ _ _ _ us hl => match us, hl with | [_, _], _ => rfl
    f_edits_between := f7
    fd_edits_between := _
    F_edits_between := fun_mk (st := s_edits_between) l7 c7 k7
    g_edits_between := PySem.W.mg_of X G a7
    b_edits_between := (fun_mk (st := s_edits_between) l7 c7 k7).binds (ps := ["one", "other"]) fun _ _ _ _ _ _ us hl => match us, hl with | [_, _], _ => rfl
    f_least_edits := f8
    fd_least_edits := _
    F_least_edits := fun_mk (st := s_least_edits) l8 c8 k8
    g_least_edits := PySem.W.mg_of X G a8
    b_least_edits := (fun_mk (st := s_least_edits) l8 c8 k8).binds (ps := ["one", "other"]) fun _ _ _ _ _ _ us hl => match us, hl with | [_, _], _ => rfl
    f_law_ferry := f9
    fd_law_ferry := _
    F_law_ferry := fun_mk (st := s_law_ferry) l9 c9 k9
    g_law_ferry := PySem.W.mg_of X G a9
    b_law_ferry := (fun_mk (st := s_law_ferry) l9 c9 k9).binds (ps := ["script"]) fun _ _ _ _ _ _ us hl => match us, hl with | [_], _ => rfl
    f_law_row := f10
    fd_law_row := _
    F_law_row := fun_mk (st := s_law_row) l10 c10 k10
    g_law_row := PySem.W.mg_of X G a10
    b_law_row := (fun_mk (st := s_law_row) l10 c10 k10).binds (ps := ["ferry", "many"]) fun _ _ _ _ _ _ us hl => match us, hl with | [_, _], _ => rfl
    f_law_one := f11
    fd_law_one := _
    F_law_one := fun_mk (st := s_law_one) l11 c11 k11
    g_law_one := PySem.W.mg_of X G a11
    b_law_one := (fun_mk (st := s_law_one) l11 c11 k11).binds (ps := ["ferry", "some"]) fun _ _ _ _ _ _ us hl => match us, hl with | [_, _], _ => rfl
    f_law_done := f12
    fd_law_done := _
    F_law_done := fun_mk (st := s_law_done) l12 c12 k12
    g_law_done := PySem.W.mg_of X G a12
    b_law_done := (fun_mk (st := s_law_done) l12 c12 k12).binds (ps := ["text", "edit"]) fun _ _ _ _ _ _ us hl => match us, hl with | [_, _], _ => rfl
    f_law_edit := f13
    fd_law_edit := _
    F_law_edit := fun_mk (st := s_law_edit) l13 c13 k13
    g_law_edit := PySem.W.mg_of X G a13
    b_law_edit := (fun_mk (st := s_law_edit) l13 c13 k13).binds (ps := ["ferry", "text", "signs"]) fun _ _ _ _ _ _ us hl => match us, hl with | [_, _, _], _ => rfl
    f_law_damage := f14
    fd_law_damage := _
    F_law_damage := fun_mk (st := s_law_damage) l14 c14 k14
    g_law_damage := PySem.W.mg_of X G a14
    b_law_damage := (fun_mk (st := s_law_damage) l14 c14 k14).binds (ps := ["ferry", "text", "many", "signs"]) fun _ _ _ _ _ _ us hl => match us, hl with | [_, _, _, _], _ => rfl
    f_law_text := f15
    fd_law_text := _
    F_law_text := fun_mk (st := s_law_text) l15 c15 k15
    g_law_text := PySem.W.mg_of X G a15
    b_law_text := (fun_mk (st := s_law_text) l15 c15 k15).binds (ps := ["ferry", "most"]) fun _ _ _ _ _ _ us hl => match us, hl with | [_, _], _ => rfl
    f_law_apart := f16
    fd_law_apart := _
    F_law_apart := fun_mk (st := s_law_apart) l16 c16 k16
    g_law_apart := PySem.W.mg_of X G a16
    b_law_apart := (fun_mk (st := s_law_apart) l16 c16 k16).binds (ps := ["one", "other"]) fun _ _ _ _ _ _ us hl => match us, hl with | [_, _], _ => rfl
    f_law_heard := f17
    fd_law_heard := _
    F_law_heard := fun_mk (st := s_law_heard) l17 c17 k17
    g_law_heard := PySem.W.mg_of X G a17
    b_law_heard := (fun_mk (st := s_law_heard) l17 c17 k17).binds (ps := ["ask"]) fun _ _ _ _ _ _ us hl => match us, hl with | [_], _ => rfl
    f_law_way_right := f18
    fd_law_way_right := _
    F_law_way_right := fun_mk (st := s_law_way_right) l18 c18 k18
    g_law_way_right := PySem.W.mg_of X G a18
    b_law_way_right := (fun_mk (st := s_law_way_right) l18 c18 k18).binds (ps := ["one", "other"]) fun _ _ _ _ _ _ us hl => match us, hl with | [_, _], _ => rfl
    f_law_bounds_right := f19
    fd_law_bounds_right := _
    F_law_bounds_right := fun_mk (st := s_law_bounds_right) l19 c19 k19
    g_law_bounds_right := PySem.W.mg_of X G a19
    b_law_bounds_right := (fun_mk (st := s_law_bounds_right) l19 c19 k19).binds (ps := ["ferry"]) fun _ _ _ _ _ _ us hl => match us, hl with | [_], _ => rfl
    n_law_bounds_right := a19
    f_law := f20
    fd_law := _
    F_law := fun_mk (st := s_law) l20 c20 k20
    g_law := PySem.W.mg_of X G a20
    b_law := (fun_mk (st := s_law) l20 c20 k20).binds (ps := ["script"]) fun _ _ _ _ _ _ us hl => match us, hl with | [_], _ => rfl
    f_Paper_init := mf0
    fd_Paper_init := _
    F_Paper_init := fun_mk (st := s_Paper_init) ml0 mc0 mk0
    mk_Paper := ⟨cm_Paper, ma0, mi0, ck_Paper⟩
    f_Paper_eq := mf1
    fd_Paper_eq := _
    F_Paper_eq := fun_mk (st := s_Paper_eq) ml1 mc1 mk1
    b_Paper_eq := (fun_mk (st := s_Paper_eq) ml1 mc1 mk1).binds (ps := ["self", "other"]) fun _ _ _ _ _ _ us hl => match us, hl with | [_, _], _ => rfl
    me_Paper_eq := ⟨ma1, mi1, mk1⟩
    f_Paper_bool := mf2
    fd_Paper_bool := _
    F_Paper_bool := fun_mk (st := s_Paper_bool) ml2 mc2 mk2
    b_Paper_bool := (fun_mk (st := s_Paper_bool) ml2 mc2 mk2).binds (ps := ["self"]) fun _ _ _ _ _ _ us hl => match us, hl with | [_], _ => rfl
    me_Paper_bool := ⟨ma2, mi2, mk2⟩
    f_Ways_init := mf3
    fd_Ways_init := _
    D_Ways_init := mD3
    F_Ways_init := (SupX.FunS.mk' (st := s_Ways_init) ml3 mc3 mk3 mq13 mq23 mq33)
    kD_Ways_init := ⟨_, mq43⟩
    b_Ways_init := SupX.FunS.binds (SupX.FunS.mk' (st := s_Ways_init) ml3 mc3 mk3 mq13 mq23 mq33) (ps := ["self", "edits"]) fun _ _ _ _ _ _ _ us hl => match us, hl with | [_, _], _ => rfl
    sm_Ways := ⟨mq53, mq63, mq73, mq83, mq93⟩
    mk_Ways := ⟨cm_Ways, ma3, mi3, ck_Ways⟩
    na_Paper_word := cx_Paper_word
    na_Paper_parts := cx_Paper_parts
    C_Paper := KC_Paper
    gC_Paper := PySem.W.mg_of X G ca_Paper
    cl_Paper := ⟨cp_Paper, cd_Paper, co_Paper, cs_Paper⟩
    ob_Paper := cb_Paper
    ne_Paper := cn_Paper
    oc_Paper := cc_Paper
    on_Paper := cg_Paper
    ot_Paper := ct_Paper
    kc_Paper := ci_Paper
    kt_Paper := cy_Paper
    na_Ways_word := cx_Ways_word
    na_Ways_parts := cx_Ways_parts
    na_Ways_edits := cx_Ways_edits
    C_Ways := KC_Ways
    gC_Ways := PySem.W.mg_of X G ca_Ways
    cl_Ways := ⟨cp_Ways, cd_Ways, co_Ways, cs_Ways⟩
    ob_Ways := cb_Ways
    ne_Ways := cn_Ways
    oc_Ways := cc_Ways
    on_Ways := cg_Ways
    ot_Ways := ct_Ways
    kc_Ways := ci_Ways
    kt_Ways := cy_Ways
    k_TooMany := KD_TooMany
    gk_TooMany := PySem.W.mg_of X G da_TooMany
    kc_TooMany := di_TooMany
    kt_TooMany := dy_TooMany
    k_BadText := KD_BadText
    gk_BadText := PySem.W.mg_of X G da_BadText
    kc_BadText := di_BadText
    kt_BadText := dy_BadText
    k_BadEdits := KD_BadEdits
    gk_BadEdits := PySem.W.mg_of X G da_BadEdits
    kc_BadEdits := di_BadEdits
    kt_BadEdits := dy_BadEdits
    k_BadNumber := KD_BadNumber
    gk_BadNumber := PySem.W.mg_of X G da_BadNumber
    kc_BadNumber := di_BadNumber
    kt_BadNumber := dy_BadNumber
    k_BadBook := KD_BadBook
    gk_BadBook := PySem.W.mg_of X G da_BadBook
    kc_BadBook := di_BadBook
    kt_BadBook := dy_BadBook
    k_BadMachine := KD_BadMachine
    gk_BadMachine := PySem.W.mg_of X G da_BadMachine
    kc_BadMachine := di_BadMachine
    kt_BadMachine := dy_BadMachine
    k_BadRow := KD_BadRow
    gk_BadRow := PySem.W.mg_of X G da_BadRow
    kc_BadRow := di_BadRow
    kt_BadRow := dy_BadRow
    k_Misfit := KD_Misfit
    gk_Misfit := PySem.W.mg_of X G da_Misfit
    kc_Misfit := di_Misfit
    kt_Misfit := dy_Misfit
    k_Denial := KD_Denial
    gk_Denial := PySem.W.mg_of X G da_Denial
    kc_Denial := di_Denial
    kt_Denial := dy_Denial
    su_BadText_TooMany := ds_BadText_TooMany
    su_BadText_BadText := ds_BadText_BadText
    su_BadText_BadEdits := ds_BadText_BadEdits
    su_BadText_BadNumber := ds_BadText_BadNumber
    su_BadText_BadBook := ds_BadText_BadBook
    su_BadText_BadMachine := ds_BadText_BadMachine
    su_BadText_BadRow := ds_BadText_BadRow
    su_BadText_Misfit := ds_BadText_Misfit
    su_TooMany_TooMany := ds_TooMany_TooMany
    su_TooMany_BadText := ds_TooMany_BadText
    su_TooMany_BadEdits := ds_TooMany_BadEdits
    su_TooMany_BadNumber := ds_TooMany_BadNumber
    su_TooMany_BadBook := ds_TooMany_BadBook
    su_TooMany_BadMachine := ds_TooMany_BadMachine
    su_TooMany_BadRow := ds_TooMany_BadRow
    su_TooMany_Misfit := ds_TooMany_Misfit
    su_Ways_Ways := ds_Ways_Ways
    su_Ways_Denial := ds_Ways_Denial
    su_Ways_Paper := ds_Ways_Paper
    mi_Ways_eq := ⟨ia_Ways_eq, mi1, mk1⟩
    cn_Ways := ⟨ci_Ways, cc_Ways, cg_Ways, ct_Ways, cb_Ways, cy_Ways, kn1_Ways, _, _, _, _, _, kn2_Ways, kn3_Ways⟩
    m_isinstance := PySem.W.mg_none_of X G z0
    m_str := PySem.W.mg_none_of X G z1
    m_len := PySem.W.mg_none_of X G z2
    m_list := PySem.W.mg_none_of X G z3
    m_tuple := PySem.W.mg_none_of X G z4
    m_max := PySem.W.mg_none_of X G z5
    m_enumerate := PySem.W.mg_none_of X G z6
    m_min := PySem.W.mg_none_of X G z7
    m_range := PySem.W.mg_none_of X G z8
    m_int := PySem.W.mg_none_of X G z9
    m_abs := PySem.W.mg_none_of X G z10
    m_repr := PySem.W.mg_none_of X G z11
    m_super := PySem.W.mg_none_of X G z12
    e_BadText := er_BadText
    e_TooMany := e2_TooMany
    t_MOST_SIGNS := t0
    c_MOST_SIGNS := PySem.W.mg_of X G q0
    t_MOST_WAY_SIGNS := t1
    c_MOST_WAY_SIGNS := PySem.W.mg_of X G q1 }
end K06
open PySem PySem.W PyProof.Rows
set_option maxHeartbeats 0 in
theorem PySem.Challenge.cw_anyletter_k06_whole_least_ways_holds : PySem.Challenge.rw_anyletter_k06_whole_least_ways.Holds := by
  w_on; o_law; k_head; (case hw => w_witness2)
  k_fill
  refine Kx.walkL (l := PySem.Challenge.rw_anyletter_k06_whole_least_ways) (n := 63) (k := 26) (x := "script") (y := "_law_bounds_right") K06.sp_law rfl (by decide) rfl ⟨rfl, by decide, by decide⟩ (fun w h Y => PySem.W.km_in_of Y) ?hcs ?FF (fun K Pt H a ns hl ht hS => ⟨a, ns, rfl, hS, ht, fun _ => rfl⟩)
  case hcs =>
    intro p
    refine' ⟨⟨_, rfl⟩, Kx.tabIn_of ?ta ?tl ?te ?tl2 ?tv ?tn⟩
    case ta => k_is
    case tl => k_is
    case te => rfl
    case tl2 => k_is
    case tv => rfl
    case tn => rfl
  case FF =>
    intro w mg fa h KX G hmg
    refine' Kx.useIt (K06.tx_mk KX G ?a0 ?l0 ?c0 ?k0 ?a1 ?l1 ?c1 ?k1 ?a2 ?l2 ?c2 ?k2 ?a3 ?l3 ?c3 ?k3 ?a4 ?l4 ?c4 ?k4 ?a5 ?l5 ?c5 ?k5 ?a6 ?l6 ?c6 ?k6 ?a7 ?l7 ?c7 ?k7 ?a8 ?l8 ?c8 ?k8 ?a9 ?l9 ?c9 ?k9 ?a10 ?l10 ?c10 ?k10 ?a11 ?l11 ?c11 ?k11 ?a12 ?l12 ?c12 ?k12 ?a13 ?l13 ?c13 ?k13 ?a14 ?l14 ?c14 ?k14 ?a15 ?l15 ?c15 ?k15 ?a16 ?l16 ?c16 ?k16 ?a17 ?l17 ?c17 ?k17 ?a18 ?l18 ?c18 ?k18 ?a19 ?l19 ?c19 ?k19 ?a20 ?l20 ?c20 ?k20 ?ca_Paper ?cp_Paper ?cd_Paper ?co_Paper ?cs_Paper ?cm_Paper ?ck_Paper ?cb_Paper ?cn_Paper ?cc_Paper ?cg_Paper ?ct_Paper ?ci_Paper ?cy_Paper ?cx_Paper_word ?cx_Paper_parts ?ca_Ways ?cp_Ways ?cd_Ways ?co_Ways ?cs_Ways ?cm_Ways ?ck_Ways ?cb_Ways ?cn_Ways ?cc_Ways ?cg_Ways ?ct_Ways ?ci_Ways ?cy_Ways ?cx_Ways_word ?cx_Ways_parts ?cx_Ways_edits ?da_TooMany ?di_TooMany ?dy_TooMany ?da_BadText ?di_BadText ?dy_BadText ?da_BadEdits ?di_BadEdits ?dy_BadEdits ?da_BadNumber ?di_BadNumber ?dy_BadNumber ?da_BadBook ?di_BadBook ?dy_BadBook ?da_BadMachine ?di_BadMachine ?dy_BadMachine ?da_BadRow ?di_BadRow ?dy_BadRow ?da_Misfit ?di_Misfit ?dy_Misfit ?da_Denial ?di_Denial ?dy_Denial ?ds_BadText_TooMany ?ds_BadText_BadText ?ds_BadText_BadEdits ?ds_BadText_BadNumber ?ds_BadText_BadBook ?ds_BadText_BadMachine ?ds_BadText_BadRow ?ds_BadText_Misfit ?ds_TooMany_TooMany ?ds_TooMany_BadText ?ds_TooMany_BadEdits ?ds_TooMany_BadNumber ?ds_TooMany_BadBook ?ds_TooMany_BadMachine ?ds_TooMany_BadRow ?ds_TooMany_Misfit ?ds_Ways_Ways ?ds_Ways_Denial ?ds_Ways_Paper ?ma0 ?mi0 ?ml0 ?mc0 ?mk0 ?ma1 ?mi1 ?ml1 ?mc1 ?mk1 ?ma2 ?mi2 ?ml2 ?mc2 ?mk2 ?ma3 ?mi3 ?ml3 ?mc3 ?mk3 ?mq13 ?mq23 ?mq33 ?mq43 ?mq53 ?mq63 ?mq73 ?mq83 ?mq93 ?ia_Ways_eq ?kn1_Ways ?kn2_Ways ?kn3_Ways ?z0 ?z1 ?z2 ?z3 ?z4 ?z5 ?z6 ?z7 ?z8 ?z9 ?z10 ?z11 ?z12 ?er_BadText ?e2_TooMany ?q0 ?q1) (fun T => ?main)
    (case a0 => k_is)
    (case l0 => k_is)
    (case c0 => k_is)
    (case k0 => k_is)
    (case a1 => k_is)
    (case l1 => k_is)
    (case c1 => k_is)
    (case k1 => k_is)
    (case a2 => k_is)
    (case l2 => k_is)
    (case c2 => k_is)
    (case k2 => k_is)
    (case a3 => k_is)
    (case l3 => k_is)
    (case c3 => k_is)
    (case k3 => k_is)
    (case a4 => k_is)
    (case l4 => k_is)
    (case c4 => k_is)
    (case k4 => k_is)
    (case a5 => k_is)
    (case l5 => k_is)
    (case c5 => k_is)
    (case k5 => k_is)
    (case a6 => k_is)
    (case l6 => k_is)
    (case c6 => k_is)
    (case k6 => k_is)
    (case a7 => k_is)
    (case l7 => k_is)
    (case c7 => k_is)
    (case k7 => k_is)
    (case a8 => k_is)
    (case l8 => k_is)
    (case c8 => k_is)
    (case k8 => k_is)
    (case a9 => k_is)
    (case l9 => k_is)
    (case c9 => k_is)
    (case k9 => k_is)
    (case a10 => k_is)
    (case l10 => k_is)
    (case c10 => k_is)
    (case k10 => k_is)
    (case a11 => k_is)
    (case l11 => k_is)
    (case c11 => k_is)
    (case k11 => k_is)
    (case a12 => k_is)
    (case l12 => k_is)
    (case c12 => k_is)
    (case k12 => k_is)
    (case a13 => k_is)
    (case l13 => k_is)
    (case c13 => k_is)
    (case k13 => k_is)
    (case a14 => k_is)
    (case l14 => k_is)
    (case c14 => k_is)
    (case k14 => k_is)
    (case a15 => k_is)
    (case l15 => k_is)
    (case c15 => k_is)
    (case k15 => k_is)
    (case a16 => k_is)
    (case l16 => k_is)
    (case c16 => k_is)
    (case k16 => k_is)
    (case a17 => k_is)
    (case l17 => k_is)
    (case c17 => k_is)
    (case k17 => k_is)
    (case a18 => k_is)
    (case l18 => k_is)
    (case c18 => k_is)
    (case k18 => k_is)
    (case a19 => k_is)
    (case l19 => k_is)
    (case c19 => k_is)
    (case k19 => k_is)
    (case a20 => k_is)
    (case l20 => k_is)
    (case c20 => k_is)
    (case k20 => k_is)
    (case ca_Paper => k_is)
    (case cp_Paper => k_is)
    (case cd_Paper => k_is)
    (case co_Paper => k_is)
    (case cs_Paper => k_is)
    (case cm_Paper => k_is)
    (case ck_Paper => k_is)
    (case cb_Paper => k_is)
    (case cn_Paper => k_is)
    (case cc_Paper => k_is)
    (case cg_Paper => k_is)
    (case ct_Paper => k_is)
    (case ci_Paper => k_is)
    (case cy_Paper => k_is)
    (case cx_Paper_word => k_is)
    (case cx_Paper_parts => k_is)
    (case ca_Ways => k_is)
    (case cp_Ways => k_is)
    (case cd_Ways => k_is)
    (case co_Ways => k_is)
    (case cs_Ways => k_is)
    (case cm_Ways => k_is)
    (case ck_Ways => k_is)
    (case cb_Ways => k_is)
    (case cn_Ways => k_is)
    (case cc_Ways => k_is)
    (case cg_Ways => k_is)
    (case ct_Ways => k_is)
    (case ci_Ways => k_is)
    (case cy_Ways => k_is)
    (case cx_Ways_word => k_is)
    (case cx_Ways_parts => k_is)
    (case cx_Ways_edits => k_is)
    (case da_TooMany => k_is)
    (case di_TooMany => k_is)
    (case dy_TooMany => k_is)
    (case da_BadText => k_is)
    (case di_BadText => k_is)
    (case dy_BadText => k_is)
    (case da_BadEdits => k_is)
    (case di_BadEdits => k_is)
    (case dy_BadEdits => k_is)
    (case da_BadNumber => k_is)
    (case di_BadNumber => k_is)
    (case dy_BadNumber => k_is)
    (case da_BadBook => k_is)
    (case di_BadBook => k_is)
    (case dy_BadBook => k_is)
    (case da_BadMachine => k_is)
    (case di_BadMachine => k_is)
    (case dy_BadMachine => k_is)
    (case da_BadRow => k_is)
    (case di_BadRow => k_is)
    (case dy_BadRow => k_is)
    (case da_Misfit => k_is)
    (case di_Misfit => k_is)
    (case dy_Misfit => k_is)
    (case da_Denial => k_is)
    (case di_Denial => k_is)
    (case dy_Denial => k_is)
    (case ds_BadText_TooMany => k_is)
    (case ds_BadText_BadText => k_is)
    (case ds_BadText_BadEdits => k_is)
    (case ds_BadText_BadNumber => k_is)
    (case ds_BadText_BadBook => k_is)
    (case ds_BadText_BadMachine => k_is)
    (case ds_BadText_BadRow => k_is)
    (case ds_BadText_Misfit => k_is)
    (case ds_TooMany_TooMany => k_is)
    (case ds_TooMany_BadText => k_is)
    (case ds_TooMany_BadEdits => k_is)
    (case ds_TooMany_BadNumber => k_is)
    (case ds_TooMany_BadBook => k_is)
    (case ds_TooMany_BadMachine => k_is)
    (case ds_TooMany_BadRow => k_is)
    (case ds_TooMany_Misfit => k_is)
    (case ds_Ways_Ways => k_is)
    (case ds_Ways_Denial => k_is)
    (case ds_Ways_Paper => k_is)
    (case ma0 => k_is)
    (case mi0 => k_is)
    (case ml0 => k_is)
    (case mc0 => k_is)
    (case mk0 => k_is)
    (case ma1 => k_is)
    (case mi1 => k_is)
    (case ml1 => k_is)
    (case mc1 => k_is)
    (case mk1 => k_is)
    (case ma2 => k_is)
    (case mi2 => k_is)
    (case ml2 => k_is)
    (case mc2 => k_is)
    (case mk2 => k_is)
    (case ma3 => k_is)
    (case mi3 => k_is)
    (case ml3 => k_is)
    (case mc3 => k_is)
    (case mk3 => k_is)
    (case mq13 => k_is)
    (case mq23 => k_is)
    (case mq33 => first | rfl | decide +kernel)
    (case mq43 => k_is)
    (case mq53 => k_is)
    (case mq63 => ks_is)
    (case mq73 => k_is)
    (case mq83 => k_is)
    (case mq93 => k_is)
    (case ia_Ways_eq => k_is)
    (case kn1_Ways => k_is)
    (case kn2_Ways => k_is)
    (case kn3_Ways => first | rfl | decide +kernel)
    (case z0 => k_is)
    (case z1 => k_is)
    (case z2 => k_is)
    (case z3 => k_is)
    (case z4 => k_is)
    (case z5 => k_is)
    (case z6 => k_is)
    (case z7 => k_is)
    (case z8 => k_is)
    (case z9 => k_is)
    (case z10 => k_is)
    (case z11 => k_is)
    (case z12 => k_is)
    (case er_BadText =>
      refine' Kx.er_mk KX G ?waC ?waL ?wxL ?whbm ?wsa ?weC ?wtC ?wkC ?wa1 ?wt1 ?wl1 ?wc1 ?wk1 ?wb1 ?wnb ?wga ?wgg ?whd ?whc ?whn ?wht ?whm ?weL ?wdL ?wtL ?wsCL
      (case waC => k_is); (case waL => k_is); (case wxL => k_is); (case whbm => rfl); (case wsa => k_is); (case weC => k_is); (case wtC => k_is); (case wkC => k_is); (case wa1 => k_is); (case wt1 => k_is); (case wl1 => k_is); (case wc1 => k_is); (case wk1 => k_is)
      (case wb1 => exact fun _ _ _ _ _ _ us hl => match us, hl with | [_, _], _ => rfl)
      (case wnb => k_is); (case wga => k_is); (case wgg => k_is); (case whd => k_is); (case whc => k_is); (case whn => k_is); (case wht => k_is); (case whm => k_is); (case weL => k_is); (case wdL => k_is); (case wtL => k_is); (case wsCL => k_is))
    (case e2_TooMany =>
      refine' Kx.er2_mk KX G ?waC ?waL ?wxL ?whbm ?wsa ?weC ?wtC ?wkC ?wa1 ?wt1 ?wl1 ?wc1 ?wk1 ?wb1 ?wnb ?wnb2 ?wga ?wgg ?whd ?whc ?whn ?wht ?whm ?weL ?wdL ?wtL ?wsCL
      (case waC => k_is); (case waL => k_is); (case wxL => k_is); (case whbm => rfl); (case wsa => k_is); (case weC => k_is); (case wtC => k_is); (case wkC => k_is); (case wa1 => k_is); (case wt1 => k_is); (case wl1 => k_is); (case wc1 => k_is); (case wk1 => k_is)
      (case wb1 => exact fun _ _ _ _ _ _ us hl => match us, hl with | [_, _, _], _ => rfl)
      (case wnb => k_is); (case wnb2 => k_is); (case wga => k_is); (case wgg => k_is); (case whd => k_is); (case whc => k_is); (case whn => k_is); (case wht => k_is); (case whm => k_is); (case weL => k_is); (case wdL => k_is); (case wtL => k_is); (case wsCL => k_is))
    (case q0 => k_is)
    (case q1 => k_is)
    case main =>
      obtain rfl := Kx.same_ref (x := "law") T.g_law hmg
      exact ⟨T.fd_law, Kx.binds_one T.F_law (fun _ _ _ _ _ _ _ => rfl), fun c Pt ht base hk hg hTB => (haveI : SupX.PaperP PySem.Challenge.rw_anyletter_k06_whole_least_ways.prog := ⟨by decide +kernel, by decide +kernel⟩; K06.ok_law (P := PySem.Challenge.rw_anyletter_k06_whole_least_ways.prog) T (Kx.funC_of T.F_law_bounds_right T.n_law_bounds_right ht) hTB)⟩
