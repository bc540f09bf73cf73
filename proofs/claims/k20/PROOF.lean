import PyProof.Rows.All
import Wide.All
import OpenK.AllK
import Wide.FinOn
import PyProof.EqAt
import PyProof.EqKinds
import PyProof.TupleCall
import PyProof.ReprRoads
import HandS.ForMost
import HandS.Evl
import HandS.Defaults
import HandS.SetFor
import HandS.Strs
import HandS.TupSets
import HandS.IsInst
import HandS.NoneIn
import HandS.Style
import HandS.TupAny
import HandS.Conv
import HandS.Ends
import PyProof.Rows.StrJoinMade
import KE.DataCmp
import PyProof.SliceList
import PyProof.Rows.RuleB_mod
import HandS.Star
import HandS.Small
import HandS.Dict
import PySem.Challenge.RW_apartcalls_k20_whole_calls_and_rounds
set_option Elab.async false
set_option linter.all false
set_option maxRecDepth 110000
set_option maxHeartbeats 0
/-! Rules of our own: defs that are called where no guard stands (for repr), repr of data, powers, calls by keywords alone. -/
namespace Vf
open PySem PySem.Spec PyProof.Rows L2

/-! ### defs that are called where no guard stands -/
structure FnG (P : Program) (w : World) (K : PySem.W.Frag) (mg : Str → Option Value) (base : Heap) (CX : CXT) (k : Nat) (f : Addr) (fd : FuncData) (ps : List Str) (sp : Sp) : Prop where
  lenG : ∀ vs H Q E, sp vs H Q E → vs.length = ps.length
  runG : ∀ (A : Around) (outer : List Env) (s : Shared) (H : Hp) (args : Args) (us : List Value) (vs : List V) (Q : VK) (E : XK),
    A.guards = some [] → Room k A → Env0 P w K mg base A outer s H → BindsTo s fd args (ps.zip us) → Vals vs us → sp vs H Q E →
      codeAny (model P w) A (.call (.ref f) args) (CR CX outer P w H s Q E) s

theorem FnG.of {P : Program} {w : World} {K : PySem.W.Frag} {mg : Str → Option Value} {base : Heap} {CX : CXT} {k : Nat} {f : Addr} {fd : FuncData} {ps : List Str} {sp : Sp}
    (F : FnOk P w K mg base CX k f fd ps sp) : FnG P w K mg base CX k f fd ps sp :=
  ⟨F.len, fun A outer s H args us vs Q E _ => F.run A outer s H args us vs Q E⟩

section
variable {P : Program} {w : World} {K : PySem.W.Frag} {mg : Str → Option Value} {base : Heap}
theorem okG {x qual : Str} {st : Stmt} {f : Addr} {fd : FuncData} {N ps : List Str} {k : Nat} {sp : Sp} (F : Fun K x qual st f fd) (S : FnScope N ps (defScope st))
    (len : ∀ vs H Q E, sp vs H Q E → vs.length = ps.length)
    (hbody : ∀ (cdv : Value) (A : Around) (outer : List Env) (s : Shared) (H : Hp) (vs : List V) (Q : VK) (E : XK), A.guards = some [] →
      Room k (A.deeper (envOfC qual (defScope st) s.heap.objs.size f cdv)) → sp vs H Q E →
      ∃ t, PSs (cxOf CX0 P w K mg base N qual (defScope st) f cdv A outer s H E).nox (defBody st) t ∧ t { nx := fun _ H' => Q .non H', rt := Q } (start N vs) H) :
    FnG P w K mg base CX0 (k + 1) f fd ps sp := by
  obtain ⟨oc, od, kV, doc, pm, an, cdv, ct, osl, rfl, lk, hcd⟩ := F.ex
  refine ⟨len, fun A outer s H args us vs Q E hg hr e0 hb r hsp => ?_⟩
  have KX : K.In s.heap := e0.mod.kin.keeps fun b o e => (e0.bs b o e).1
  have lim : s.heap.NoLimit := e0.mod.nolimit.keeps fun b o e => (e0.bs b o e).1
  have hkind : ∀ y ∈ ps.zip us, (defScope st).names.lookup y.1 = some .local ∨
      ((defScope st).names.lookup y.1 = some .cell ∧ ((cellsFrom (s.heap.objs.size + 1) (defScope st).names []).lookup y.1).isSome = true) := by
    rintro ⟨n, v⟩ hy
    rcases S.par n (List.of_mem_zip hy).1 with q | q
    · exact .inl q
    · exact .inr ⟨q, PySem.W.cellsFrom_some _ _ _ (.inl q)⟩
  refine codeAny_call_function hr.depth (KX _ _ lk) rfl S.co S.gen rfl (PySem.W.codeRec_of KX hcd)
    (hb _ _ _ _ (wpAny_newFunctionEnv_cells S.kind hkind fun env he s1 x => ?_))
  subst he
  refine ⟨lim.keeps x.toInCall.keep, codeAny_func ?_⟩
  obtain ⟨t, ht0, hq⟩ := hbody cdv A outer s H vs Q E hg (hr.deeper _) hsp
  have ht := ht0.nox
  have I := inv_start (CX := CX0) (E := E) S hr.hd e0 (len _ _ _ _ hsp) r x
  refine wpAny_mono (ht.run [] s1 (start N vs) H _ I hq) ?_ (fun e s' hs => hs)
  intro fl s' hs
  cases fl with
  | ret u =>
    obtain ⟨v, σ', H', J, rv, q⟩ := hs
    exact ⟨v, H', J.os, J.bare, J.base, J.hok, rv, q⟩
  | next =>
    obtain ⟨σ', H', J, q⟩ := hs
    exact ⟨V.non, H', J.os, J.bare, J.base, J.hok, rfl, q⟩
  | brk =>
    obtain ⟨_, _, _, q⟩ := hs
    exact q.elim
  | cont =>
    obtain ⟨_, _, _, q⟩ := hs
    exact q.elim
end

section
variable {X : Cx} {CX : CXT} {k : Nat} {f : Addr} {fd : FuncData} {ps : List Str} {sp : Sp} {dvs : List V} {ds : List Value} {E : XK} {x : Str} {p pos : Pos} {e : Expr} {es : List Expr} {t : TA}
theorem runG_fn {pins : List (Addr × Obj)} {σ : L2.St} {H : Hp} {s : Shared} {Q : VK} {us : List Value} {vs : List V}
    (F : FnG X.prog X.w X.K X.mg X.base CX0 k f fd ps sp) (hgd : X.A.guards = some []) (hr : Room k X.A) (hb : Binds X.K fd ps []) (I : Inv X pins σ H s) (r : Vals vs us) (h : sp vs H Q E0) :
    wpAny (model X.prog X.w) X.A (call (.ref f) us) (EP X pins σ Q) X.xe s := by
  have hl : us.length = ps.length := by rw [← r.length]; exact F.lenG _ _ _ _ h
  have hb' := hb s us I.kIn (by rw [List.append_nil]; exact hl)
  rw [List.append_nil] at hb'
  refine wpAny_call (codeAny_mono (F.runG X.A X.stack s H ⟨us, []⟩ us vs Q E0 hgd hr I.env0 hb' r h) ?_)
  intro r s' hq
  cases r with
  | error e => exact False.elim hq
  | ok fl =>
    cases fl with
    | ret u => exact I.after hq
    | next => exact False.elim hq
    | brk => exact False.elim hq
    | cont => exact False.elim hq
/-- f(e, ..), f such a def -/
theorem pe_callG (F : FnG X.prog X.w X.K X.mg X.base CX0 k f fd ps sp) (hgd : X.A.guards = some []) (hr : Room k X.A) (hg : Gl X x) (hm : X.mg x = some (.ref f)) (hk : PySem.W.keepIn X.K (.ref f) = true) (hb : Binds X.K fd ps [])
    (ha : PA X (e :: es) t) (hdb : (x == ("__debug__" : Str)) = false := by decide) (he : starEach (e :: es) X.env = (false, eval e X.env) :: starEach es X.env := by rfl)
    (hpl : (backTo pos (starEach es X.env)).any (·.1) = false := by rfl) :
    PE X (.Call (.Name x p) (e :: es) [] pos) (tCall sp [] E0 t) := by
  refine ⟨fun pins s σ H Q I h => wpAny_Call_Name_kw (ld_glob I hg hm ?_ hdb)⟩
  refine PySem.W.callWith_K (h₀ := X.base) I.ok.mod.kin hk (thn (ha.run pos pins s σ H _ I h) fun us s1 ⟨vs, H1, I1, r, q⟩ => ⟨I1.kIn, ?_⟩) he hpl
  simp only [List.append_nil] at q
  exact runG_fn F hgd hr hb I1 r q
end

/-! ### calls by keywords alone -/
section
variable {X : Cx} {CX : CXT} {k : Nat} {f : Addr} {fd : FuncData} {ps ks : List Str} {sp : Sp} {E : XK} {x : Str} {p pos : Pos} {kws : List Keyword} {tk : TA}
variable {g : List Value → List Value → List Value} {gV : List V → List V → List V}
/-- f(k = v, ..) -/
theorem pe_callK0 (F : FnOk X.prog X.w X.K X.mg X.base CX k f fd ps sp) (hr : Room k X.A) (hg : Gl X x) (hm : X.mg x = some (.ref f)) (hk : PySem.W.keepIn X.K (.ref f) = true) (hb : KBinds X.K fd ps ks g gV) (hx : Passes CX X E)
    (hkw : PK X kws tk) (hall : (backToKw pos (keywordEach kws X.env)).all (·.1.isSome) = true := by rfl) (hks : (backToKw pos (keywordEach kws X.env)).filterMap (·.1) = ks := by rfl)
    (hdb : (x == ("__debug__" : Str)) = false := by decide) :
    PE X (.Call (.Name x p) [] kws pos) (tCallK sp gV E tNil tk) := by
  refine ⟨fun pins s σ H Q I h => wpAny_Call_Name_kw (ld_glob I hg hm ?_ hdb)⟩
  refine PySem.W.callWith_KW0 (h₀ := X.base) I.ok.mod.kin hk hall (thn (hkw.run pos pins s σ H _ I h) fun ws s2 ⟨zs, H2, I2, rz, q2⟩ => ⟨I2.kIn, ?_⟩) (by
    show (false || (backToKw pos (keywordEach kws X.env)).any (·.1.isNone)) = false
    have h1 := List.all_eq_true.mp hall
    simp only [Bool.false_or, List.any_eq_false]
    intro y hy hz
    have h2 := h1 y hy
    cases hh : y.1 with
    | none => rw [hh] at h2; exact absurd h2 (by decide)
    | some z => rw [hh] at hz; simp at hz)
  rw [hks]
  exact run_fnk (us := []) F hr hb hx I2 .nil rz q2
end

/-- two parameters, told by name in the other order -/
def swap2 {α : Type} : List α → List α → List α
  | [], [a, b] => [b, a]
  | _, _ => []
theorem swap2_binds {K : PySem.W.Frag} {fd : FuncData} {p1 p2 : Str} (h : ∀ a b : Value, bindArgs fd ⟨[], [(p2, a), (p1, b)]⟩ = pure [(p1, b), (p2, a)]) :
    KBinds K fd [p1, p2] [p2, p1] swap2 swap2 := by
  refine ⟨fun s us ws _ hl => ?_, fun {vs us zs ws} r1 r2 => ?_⟩
  · match us, ws, hl with
    | [], [a, b], _ => exact .of_eq (h a b)
    | [], [], hl => exact absurd hl (by simp [swap2])
    | [], [_], hl => exact absurd hl (by simp [swap2])
    | [], _ :: _ :: _ :: _, hl => exact absurd hl (by simp [swap2])
    | _ :: _, _, hl => exact absurd hl (by simp [swap2])
  · cases r1 with
    | cons _ _ => exact .nil
    | nil =>
      cases r2 with
      | nil => exact .nil
      | cons a ra =>
        cases ra with
        | nil => exact .nil
        | cons b rb =>
          cases rb with
          | nil => exact .cons b (.cons a .nil)
          | cons _ _ => exact .nil

/-! ### powers of any size -/
section
variable {X : Cx}
def CPowW (i j : Int) : Prop := 0 ≤ j ∧ (Builtin.Int.intBits i : Int) * j ≤ 2 ^ 27
theorem op_powW : OpR X (binaryOp .Pow) (rI CPowW fun i j => .int (i ^ j.toNat)) := opI fun _ _ _ _ _ _ _ hc q => pow_int hc.1 hc.2 q
end

/-! ### repr of data -/
section
variable {X : Cx}
def rRepr (K : PySem.W.Frag) : List V → Hp → VK → Prop := fun xs H Q => ∃ (a : Addr) (d : PyData), xs = [.ref a] ∧ Dp K H (.ref a) d ∧ d.showable = true ∧ d.hasDict = false ∧ d.depth ≤ 60 ∧ d.shown.length ≤ sizeLine ∧ Q (.str d.shown) H
theorem call_repr_D {k : Nat} (hgd : X.A.guards = some []) (hr : Room k X.A) : CallR X (.builtin "repr") (rRepr X.K) := by
  intro pins s σ H xs us Q I r h
  obtain ⟨a, d, rfl, hd, hs, hn, hdp, hz, q⟩ := h
  obtain ⟨u, rfl, ru⟩ := vals1 r
  cases (show u = Value.ref a from ru)
  obtain ⟨as, rd⟩ := Dp.reads I d (.ref a) (.ref a) hd rfl
  refine PySem.repr_of_reads' rd hs (fun z => absurd z (by rw [hn]; decide)) hgd (by have := hr.un; omega) (fun _ _ e => e) (fun h' u tk hk => ?_) hz
  exact ⟨.str d.shown, H, I.kept (t' := tk) hk, ⟨u, rfl⟩, q⟩
end
end Vf

/-! set(xs) of a list of ints, kept as an object. -/
namespace Vf
open PySem PySem.Spec PyProof.Rows L2

/-- an empty set, as it is made -/
abbrev freshSet (w : World) : Obj := { cls := .type "set", dict := none, data := .set #[] 0 (.fresh 0 0 (!w.params.followText "set-order")) }
section
variable {P : Program} {w : World} {A : Around} {E : Value → Shared → Prop} {s : Shared}
theorem mk_set_list {l : Addr} {items : Array Value} (ns : List Int) {Q : Value → Shared → Prop} (hh : A.handled = none) (hl : s.heap.IsList l items)
    (hit : IntsAre items.toList ns) (hb : ns.length + 1 < scanBound)
    (h : ∀ (h' : Heap) (tk c : Nat), SetR w h' s.heap.objs.size (fun j => decide (j ∈ ns)) c → c ≤ ns.length →
      (∀ b o, s.heap.get? b = some o → h'.get? b = some o) → Q (.ref s.heap.objs.size) { s with heap := h', toks := tk }) :
    wpAny (model P w) A (call (.type "set") [.ref l]) Q E s := by
  have hisz : items.size = ns.length := (Array.length_toList (xs := items)).symm.trans (IntsAre.length hit)
  obtain ⟨c, tl, hmro⟩ := F.called_set.mro
  have hmade := F.called_set.made
  have hsub := F.called_set.sub
  refine wpAny_call (codeAny_of_tree ?_)
  show wpAny _ _ (callAny (.type "set") _) _ _ _
  refine wpAny_pure ⟨Code.quiet_builtin _ (by decide +kernel), codeAny_builtin F.entry_type_call ?_⟩
  rw [Around.under_plain (weight_type_call_type "set" [.ref l] []) rfl]
  have k1 := F.called_set.notType
  have k2 := F.called_set.canCreate
  have k3 := F.typeCall_set_1 (.ref l)
  repeat (any_goals (first | assumption | wp_step))
  refine codeAny_mono (code_set_led1 (.ref l) (E := E) (Q₁ := fun obj s₁ => obj = .ref s.heap.objs.size ∧ s₁ = { s with heap := s.heap.push (freshSet w) }) ⟨rfl, rfl⟩) ?_
  intro r s₁ hr
  cases r with
  | error e => exact hr
  | ok fl =>
    cases fl with
    | ret obj =>
      obtain ⟨rfl, rfl⟩ := hr
      have hS : (s.heap.push (freshSet w)).get? s.heap.objs.size = some (freshSet w) := Heap.get?_push_size _ rfl
      have hT : Shared.TypeIs { s with heap := s.heap.push (freshSet w) } (.ref s.heap.objs.size) "set" := ⟨_, hS, rfl⟩
      have k4 := F.called_set.init.lookup
      have k5 := F.called_set.init.bind (.ref s.heap.objs.size)
      repeat (any_goals (first | assumption | wp_step))
      let G : Value → Shared → Prop := fun r s₂ => r = .none ∧ ∃ h' tk c, s₂ = { s with heap := h', toks := tk } ∧
        SetR w h' s.heap.objs.size (fun j => decide (j ∈ ns)) c ∧ c ≤ ns.length ∧ (∀ b o, s.heap.get? b = some o → h'.get? b = some o)
      refine codeAny_mono (codeAny_call_builtin (R := wants G E) F.called_set.init.plain F.entry_set_init (check_set_init_1 hT ?_)) ?_
      · obtain ⟨ol, hol, hcl, nl, hdl⟩ := hl
        obtain ⟨ocls, odict, odata, oslots⟩ := ol
        simp only at hcl hdl
        subst hcl
        subst hdl
        have hol' : (s.heap.push (freshSet w)).get? l = some { cls := .type "list", dict := odict, data := .seq items nl, slots := oslots } := Heap.get?_push_of_some _ hol
        have k6 := F.sub_list_set
        have k7 := F.sub_list_frozenset
        have k8 : (Value.type "list" == Value.type "dict") = false := by decide
        have hl1 : (s.heap.push (freshSet w)).IsList l items := ⟨_, hol', rfl, nl, rfl⟩
        unfold Builtin.«set.__init__» noKeywords Builtin.Frozenset.updateFrom
        generalize hPI : pyIter = PI
        wp_walk
        subst hPI
        refine wpAny_pyIter_list hl1 (wpAny_bind (wpAny_runValue ?_))
        have hlS : l < s.heap.objs.size := Heap.lt_size hol
        have hh3 : A.in1.in1.in1.handled = none := by simp [hh]
        have hz : (s.heap.push (freshSet w)).objs.size = s.heap.objs.size + 1 := Heap.size_push ..
        have hneI : l ≠ (s.heap.push (freshSet w)).objs.size := by rw [hz]; exact Nat.ne_of_lt (Nat.lt_succ_of_lt hlS)
        have hSf : s.heap.objs.size ∉ [(s.heap.push (freshSet w)).objs.size, l] := by
          rw [hz]
          intro hm
          rcases List.mem_cons.mp hm with e | hm
          · exact absurd e (Nat.ne_of_lt (Nat.lt_succ_self _))
          · exact absurd (List.mem_singleton.mp hm) (Nat.ne_of_gt hlS)
        have hval : ∀ (i : Nat) (v : Value), items[i]? = some v → ∃ k t, ns[i]? = some k ∧ v = .int k t := by
          intro i v hv
          have hi : i < ns.length := hisz ▸ (Array.getElem?_eq_some_iff.mp hv).1
          obtain ⟨t, e⟩ := PyProof.Rows.IntsAre.int_at hit i v (by rw [Array.getElem?_toList]; exact hv)
          exact ⟨ns[i], t, List.getElem?_eq_getElem hi, by rw [e, List.getD_eq_getElem?_getD, List.getElem?_eq_getElem hi] <;> rfl⟩
        refine set_update_ints ((Walks.list hh3 _ l hneI items).toS) s.heap.objs.size hSf ns hisz hb hval (items.size - 0) 0 _ (by omega) (Nat.zero_le _)
          ⟨⟨_, Heap.get?_push_size _ rfl, rfl, rfl⟩, (hl1.push _)⟩ ⟨0, Nat.le_refl 0, setR_new_at (Heap.get?_push_of_some _ hS)⟩ ?_
        intro s' c' hm hc' hS'
        obtain ⟨h', g2, d', tk', os'⟩ := s'
        obtain rfl : g2 = s.gens := hm.gens
        obtain rfl : d' = s.drawn := hm.drawn
        obtain rfl : os' = s.os := hm.os
        show wpAny _ _ _ _ _ _
        refine wpAny_pure ?_
        show wpAny _ _ (ret Value.none) _ _ _
        rw [hisz] at hc'
        refine wpAny_pure ⟨rfl, h', tk', c', rfl, hS', hc', fun b o e => ?_⟩
        have hb0 : b < s.heap.objs.size := Heap.lt_size e
        refine hm.heap b o (fun hmem => ?_) (Heap.get?_push_of_some _ (Heap.get?_push_of_some _ e))
        rcases List.mem_cons.mp hmem with e1 | hmem
        · exact absurd e1 (Nat.ne_of_lt hb0)
        · have e1 := List.mem_singleton.mp hmem
          rw [hz] at e1
          exact absurd e1 (Nat.ne_of_lt (Nat.lt_succ_of_lt hb0))
      · intro r₂ s₂ hr₂
        cases r₂ with
        | error e => exact hr₂
        | ok fl₂ =>
          cases fl₂ with
          | ret r =>
            obtain ⟨rfl, h', tk, c', rfl, hS', hc', hk'⟩ := hr₂
            repeat (any_goals (first | assumption | wp_step))
            exact h _ _ _ hS' hc' hk'
          | _ => exact hr₂.elim
    | _ => exact hr.elim
end
section
variable {X : Cx}
/-- set(xs), ints -/
def rSetOfI (K : PySem.W.Frag) (w : World) : List V → Hp → VK → Prop := fun xs H Q => ∃ (p : Addr) (ns : List Int), xs = [.ref p] ∧ SqL K H p (ns.map V.int) ∧ ns.length ≤ 1000 ∧
  ∀ a c, H a = none → c ≤ ns.length → Q (.ref a) (upd H a (SetO w a (fun j => decide (j ∈ ns)) c))
theorem cr_setOfI (hc : X.calm = true) : CallR X (.type "set") (rSetOfI X.K X.w) := by
  intro pins s σ H xs us Q I r h
  obtain ⟨p, ns, rfl, hs, hl, q⟩ := h
  obtain ⟨its, rv, pl, _⟩ := I.list hs
  rw [Vals.ref1 r]
  refine mk_set_list ns (I.ok.hd hc) pl.isList rv.ints (by unfold scanBound; omega) fun h' tk c R hcn k => ?_
  have hf : H s.heap.objs.size = none := I.hok.fresh (Nat.le_refl _)
  exact ⟨.ref s.heap.objs.size, _, I.laid (t' := tk) k (Nat.le_refl _) (setO_new R), rfl, q _ c hf hcn⟩
end
end Vf

/-! Sets of tuples of ints, of more than a thousand members: in, add. -/
namespace Vf
open PySem PySem.Spec PyProof.Rows L2

/-! ### the round of a table's slots, larger tables -/
def MaskW (m : Nat) : Prop := m = 7 ∨ m = 31 ∨ m = 127 ∨ m = 511 ∨ m = 2047
def mark (m : Nat) : Nat → Nat → Nat → Nat
  | 0, _, acc => acc
  | k + 1, x, acc => mark m k ((x * 5 + 1) % (m + 1)) (acc ||| (1 <<< x))
def walkT (m : Nat) : Nat → Nat → Nat
  | 0, x => x
  | k + 1, x => walkT m k ((x * 5 + 1) % (m + 1))
theorem lcgI_shift (m x : Nat) : ∀ k, lcgI m ((x * 5 + 1) % (m + 1)) k = lcgI m x (k + 1)
  | 0 => rfl
  | k + 1 => by
    have ih := lcgI_shift m x k
    show (lcgI m ((x * 5 + 1) % (m + 1)) k * 5 + 1) % (m + 1) = (lcgI m x (k + 1) * 5 + 1) % (m + 1)
    rw [ih]
theorem lcgI_plus (m x a : Nat) : ∀ k, lcgI m (lcgI m x a) k = lcgI m x (a + k)
  | 0 => rfl
  | k + 1 => by
    have ih := lcgI_plus m x a k
    show (lcgI m (lcgI m x a) k * 5 + 1) % (m + 1) = (lcgI m x (a + k) * 5 + 1) % (m + 1)
    rw [ih]
theorem walkT_eq (m : Nat) : ∀ k x, walkT m k x = lcgI m x k
  | 0, _ => rfl
  | k + 1, x => by
    show walkT m k ((x * 5 + 1) % (m + 1)) = _
    rw [walkT_eq m k, lcgI_shift]
theorem mark_bit (m j : Nat) : ∀ k x acc, (mark m k x acc).testBit j = true → acc.testBit j = true ∨ ∃ c, c < k ∧ lcgI m x c = j
  | 0, _, _, h => .inl h
  | k + 1, x, acc, h => by
    rcases mark_bit m j k _ _ h with h1 | ⟨c, hc, e⟩
    · rw [Nat.testBit_or, Bool.or_eq_true] at h1
      rcases h1 with h1 | h1
      · exact .inl h1
      · refine .inr ⟨0, Nat.succ_pos _, ?_⟩
        rw [Nat.one_shiftLeft, Nat.testBit_two_pow] at h1
        exact of_decide_eq_true h1
    · exact .inr ⟨c + 1, Nat.succ_lt_succ hc, by rw [← lcgI_shift]; exact e⟩
theorem mark_all {m : Nat} (h : mark m (m + 1) 0 0 = 2 ^ (m + 1) - 1) {j : Nat} (hj : j ≤ m) : ∃ c, c ≤ m ∧ lcgI m 0 c = j := by
  have hb : (mark m (m + 1) 0 0).testBit j = true := by
    rw [h, Nat.testBit_two_pow_sub_one]
    exact decide_eq_true (Nat.lt_succ_of_le hj)
  rcases mark_bit m j _ _ _ hb with h1 | ⟨c, hc, e⟩
  · rw [Nat.zero_testBit] at h1
    exact absurd h1 (by decide)
  · exact ⟨c, Nat.le_of_lt_succ hc, e⟩
theorem seen_slots {m : Nat} (hm : MaskW m) {j : Nat} (hj : j ≤ m) : ∃ c, c ≤ m ∧ lcgI m 0 c = j := by
  rcases hm with e | e | e | e | e
  · subst e; exact mark_all (by decide +kernel) hj
  · subst e; exact mark_all (by decide +kernel) hj
  · subst e; exact mark_all (by decide +kernel) hj
  · subst e; exact mark_all (by decide +kernel) hj
  · subst e; exact mark_all (by decide +kernel) hj
theorem round_slots {m : Nat} (hm : MaskW m) : lcgI m 0 (m + 1) = 0 := by
  rw [← walkT_eq]
  rcases hm with e | e | e | e | e
  · subst e; decide +kernel
  · subst e; decide +kernel
  · subst e; decide +kernel
  · subst e; decide +kernel
  · subst e; decide +kernel
theorem from_any {m : Nat} (hm : MaskW m) {i j : Nat} (hi : i ≤ m) (hj : j ≤ m) : ∃ k, k ≤ m ∧ lcgI m i k = j := by
  obtain ⟨a, ha, ea⟩ := seen_slots hm hi
  obtain ⟨b, hb, eb⟩ := seen_slots hm hj
  by_cases c : a ≤ b
  · refine ⟨b - a, Nat.le_trans (Nat.sub_le _ _) hb, ?_⟩
    rw [← ea, lcgI_plus, Nat.add_sub_cancel' c, eb]
  · refine ⟨m + 1 + b - a, by omega, ?_⟩
    rw [← ea, lcgI_plus, Nat.add_sub_cancel' (by omega), ← lcgI_plus, round_slots hm, eb]
theorem runs_meet {m : Nat} (hm : MaskW m) (h : Int) {j : Nat} (hj : j ≤ m) : ∃ n, n ≤ m + 12 ∧ runI m (SetTable.bits h) n = j := by
  obtain ⟨k, hk, e⟩ := from_any hm (runI_le m (SetTable.bits h) 12) hj
  refine ⟨12 + k, by omega, ?_⟩
  rw [runI_tail (bits_lt h), e]
theorem way_top (m : Nat) (h : Int) (k : Nat) : way m h k ≤ m := by
  have h0 : SetTable.bits h % (m + 1) ≤ m := Nat.le_of_lt_succ (Nat.mod_lt _ (Nat.succ_pos m))
  have h1 := runEnd_bd h0
  have h2 := nth_in (m := m) k (runAt m (SetTable.bits h % (m + 1)) (SetTable.bits h)) (by
    simp only [runAt]
    omega)
  exact Nat.le_trans (Nat.le_add_right _ _) h2
theorem way_meets {m : Nat} (hm : MaskW m) (h : Int) {j : Nat} (hj : j ≤ m) : ∃ k, k < 10 * SetTable.turns m ∧ way m h k = j := by
  obtain ⟨n, hn, e⟩ := runs_meet hm h hj
  obtain ⟨k, hk, e2⟩ := run_nth m (SetTable.bits h) n
  refine ⟨k, by unfold SetTable.turns; omega, ?_⟩
  unfold way
  rw [e2]
  exact e

/-! ### the table -/
structure TabW (t : SetTable) (hs : List Int) : Prop where
  ris : Ris t.place.toList
  dm : t.dummies = #[]
  sz : t.place.size = hs.length
  msk : MaskW t.mask
  top : ∀ x ∈ t.place.toList, x ≤ t.mask
  led : ∀ (i : Nat) (h : Int) (j : Nat), hs[i]? = some h → t.place.toList[i]? = some j → ∃ k, way t.mask h k = j ∧ ∀ c, c < k → way t.mask h c ∈ t.place.toList
theorem TabW.free {t : SetTable} {hs : List Int} (T : TabW t hs) (hl : hs.length ≤ t.mask) (h : Int) :
    ∃ K, K < 10 * SetTable.turns t.mask ∧ way t.mask h K ∉ t.place.toList ∧ ∀ c, c < K → way t.mask h c ∈ t.place.toList := by
  obtain ⟨j, hj, hn⟩ := st_missing t.place.toList (t.mask + 1) (by rw [Array.length_toList, T.sz]; omega)
  obtain ⟨k, hk, e⟩ := way_meets T.msk h (Nat.le_of_lt_succ hj)
  obtain ⟨K, a1, a2, a3⟩ := st_least (p := fun c => way t.mask h c ∉ t.place.toList) k (fun z => hn (e ▸ z))
  exact ⟨K, Nat.lt_of_le_of_lt a1 hk, a2, fun c hc => Classical.byContradiction (a3 c hc)⟩
theorem TabW.ahead {t : SetTable} {hs : List Int} (T : TabW t hs) {h : Int} {K i j : Nat} (hK : way t.mask h K ∉ t.place.toList) (hi : hs[i]? = some h) (hj : t.place.toList[i]? = some j) :
    ∃ c, c < K ∧ way t.mask h c = j := by
  obtain ⟨c, e, hb⟩ := T.led i h j hi hj
  refine ⟨c, Nat.lt_of_not_le fun z => hK ?_, e⟩
  rcases Nat.lt_or_eq_of_le z with y | y
  · exact hb K y
  · rw [y, e]
    exact List.mem_of_getElem? hj
theorem TabW.put {t : SetTable} {hs : List Int} (T : TabW t hs) {h : Int} {K : Nat} (hK : way t.mask h K ∉ t.place.toList) (hb : ∀ c, c < K → way t.mask h c ∈ t.place.toList) :
    SetTable.below t.place (way t.mask h K) ≤ hs.length ∧ (t.put (way t.mask h K)).1.fill = hs.length + 1 ∧
    TabW (t.put (way t.mask h K)).1 (hs.take (SetTable.below t.place (way t.mask h K)) ++ h :: hs.drop (SetTable.below t.place (way t.mask h K))) := by
  have top := way_top t.mask h K
  have cut := (below_cut T.ris (way t.mask h K)).1
  generalize hw : way t.mask h K = j at *
  have e1 : SetTable.below t.place j ≤ t.place.toList.length := by rw [Array.length_toList]; exact cut
  have e2 : SetTable.below t.place j ≤ hs.length := T.sz ▸ cut
  have pp := put_place t j
  have sz : (t.put j).1.place.size = hs.length + 1 := by
    rw [← Array.length_toList, pp, len_ins _ e1, Array.length_toList, T.sz]
  have nw : t.place[SetTable.below t.place j]? ≠ some j := fun e => hK (List.mem_of_getElem? ((Array.getElem?_toList (xs := t.place)).trans e))
  have more : ∀ x, x ∈ t.place.toList → x ∈ (t.put j).1.place.toList := fun x hx => by
    rw [pp]
    exact mem_ins.2 (.inr hx)
  refine ⟨e2, ?_, ris_insert T.ris nw, put_dm T.dm j, ?_, T.msk, ?_, ?_⟩
  · show (t.put j).1.place.size + (t.put j).1.dummies.size = _
    rw [sz, put_dm T.dm j]
    rfl
  · rw [sz, len_ins _ e2]
  · intro x hx
    rw [pp] at hx
    rcases mem_ins.1 hx with z | z
    · rw [z]; exact top
    · exact T.top x z
  · intro i h' j' h1 h2
    rw [tins_get hs e2] at h1
    rw [pp, tins_get _ e1] at h2
    show ∃ k, way t.mask h' k = j' ∧ _
    split at h1
    · rename_i c
      rw [if_pos c] at h2
      obtain ⟨k, a, b⟩ := T.led i h' j' h1 h2
      exact ⟨k, a, fun c hc => more _ (b c hc)⟩
    · rename_i c
      rw [if_neg c] at h2
      split at h1
      · rename_i d
        rw [if_pos d] at h2
        cases h1
        cases h2
        exact ⟨K, hw, fun c hc => more _ (hb c hc)⟩
      · rename_i d
        rw [if_neg d] at h2
        obtain ⟨k, a, b⟩ := T.led (i - 1) h' j' h1 h2
        exact ⟨k, a, fun c hc => more _ (b c hc)⟩

/-! ### the table laid anew -/
theorem slot_free {m : Nat} (hm : MaskW m) (owner : Array (Option Nat)) (h : Int) {j : Nat} (hj : j ≤ m) (hf : oAt owner j = none) :
    ∃ K, SetTable.layClean.free m owner (SetTable.turns m) (SetTable.bits h % (m + 1)) (SetTable.bits h) = some (way m h K) ∧ oAt owner (way m h K) = none ∧ ∀ k, k < K → oAt owner (way m h k) ≠ none := by
  obtain ⟨n, hn, e⟩ := runs_meet hm h hj
  have e2 : way m h (off m (SetTable.bits h % (m + 1)) (SetTable.bits h) n) = j := by
    unfold way
    rw [nth_off, itL_run]
    exact e
  obtain ⟨K, a1, a2, a3⟩ := st_least (p := fun k => oAt owner (way m h k) = none) _ (show oAt owner (way m h (off m (SetTable.bits h % (m + 1)) (SetTable.bits h) n)) = none by rw [e2]; exact hf)
  refine ⟨K, free_spec m owner _ n _ _ K (by unfold SetTable.turns; omega) a1 (fun k hk => ?_) ?_, a2, a3⟩
  · have z := a3 k hk
    revert z
    unfold way
    cases oAt owner (nth m (runAt m (SetTable.bits h % (m + 1)) (SetTable.bits h)) k).j with
    | none => intro z; exact absurd rfl z
    | some _ => intro _; rfl
  · have z : oAt owner (nth m (runAt m (SetTable.bits h % (m + 1)) (SetTable.bits h)) K).j = none := a2
    rw [z]
    rfl
theorem own_next {m : Nat} (hm : MaskW m) {done : List Int} {owner : Array (Option Nat)} (W : Own m done owner) (hl : done.length ≤ m) (h : Int) :
    ∃ j, SetTable.layClean.free m owner (SetTable.turns m) (SetTable.bits h % (m + 1)) (SetTable.bits h) = some j ∧ Own m (done ++ [h]) (owner.setIfInBounds j (some done.length)) := by
  obtain ⟨ps, hps, hin⟩ := W.ps
  obtain ⟨j0, h0, hn0⟩ := st_missing ps (m + 1) (by omega)
  have hj0 : oAt owner j0 = none := by
    cases z : oAt owner j0 with
    | none => rfl
    | some k => exact absurd (hin j0 (Nat.le_of_lt_succ h0) (fun e => by rw [z] at e; cases e)) hn0
  obtain ⟨K, e1, e2, e3⟩ := slot_free hm owner h (Nat.le_of_lt_succ h0) hj0
  have hjm := way_top m h K
  refine ⟨way m h K, e1, ?_⟩
  have self : oAt (owner.setIfInBounds (way m h K) (some done.length)) (way m h K) = some done.length := oAt_set_self _ (by rw [W.sz]; exact Nat.lt_succ_of_le hjm)
  have other : ∀ i, i ≠ way m h K → oAt (owner.setIfInBounds (way m h K) (some done.length)) i = oAt owner i := fun i hi => oAt_set_ne _ hi
  have size2 : (owner.setIfInBounds (way m h K) (some done.length)).size = m + 1 := by rw [Array.size_setIfInBounds]; exact W.sz
  generalize owner.setIfInBounds (way m h K) (some done.length) = own2 at *
  have keep : ∀ i, oAt owner i ≠ none → oAt own2 i ≠ none := fun i hi => by
    by_cases c : i = way m h K
    · rw [c, self]
      exact fun z => nomatch z
    · rw [other i c]
      exact hi
  refine ⟨size2, ?_, ?_, way m h K :: ps, by simp [hps], ?_⟩
  · intro j k hj e
    by_cases c : j = way m h K
    · rw [c, self] at e
      cases e
      exact ⟨h, K, by simp, c.symm, fun k' hk' => keep _ (e3 k' hk')⟩
    · rw [other j c] at e
      obtain ⟨h', K', a1, a2, a3⟩ := W.at_ j k hj e
      have hk : k < done.length := (List.getElem?_eq_some_iff.mp a1).1
      exact ⟨h', K', by rw [List.getElem?_append_left hk]; exact a1, a2, fun k' hk' => keep _ (a3 k' hk')⟩
  · intro k hk
    by_cases c : k < done.length
    · obtain ⟨j, hj, e⟩ := W.all k c
      exact ⟨j, hj, by rw [other j (fun z => by rw [z, e2] at e; cases e)]; exact e⟩
    · have ek : k = done.length := by
        rw [List.length_append, List.length_singleton] at hk
        omega
      exact ⟨way m h K, hjm, by rw [ek]; exact self⟩
  · intro j hj e
    by_cases c : j = way m h K
    · rw [c]; exact List.mem_cons_self
    · rw [other j c] at e
      exact List.mem_cons_of_mem _ (hin j hj e)
theorem owns_all {m : Nat} (hm : MaskW m) : ∀ (rest done : List Int) (owner : Array (Option Nat)), Own m done owner → done.length + rest.length ≤ m →
    ∃ own2, rest.foldl (stepF m) (some (owner, done.length)) = some (own2, (done ++ rest).length) ∧ Own m (done ++ rest) own2
  | [], done, owner, W, _ => ⟨owner, by simp, by simpa using W⟩
  | h :: rest, done, owner, W, hl => by
    simp only [List.length_cons] at hl
    obtain ⟨j, e, W2⟩ := own_next hm W (by omega) h
    obtain ⟨own2, a, b⟩ := owns_all hm rest (done ++ [h]) _ W2 (by simp; omega)
    have e1 : done ++ [h] ++ rest = done ++ h :: rest := by simp
    have e2 : (done ++ [h]).length = done.length + 1 := by simp
    rw [e1, e2] at a
    rw [e1] at b
    exact ⟨own2, by rw [List.foldl_cons, stepF_some e]; exact a, b⟩
theorem clean_all {m : Nat} (hm : MaskW m) {hs : Array Int} (hn : hs.size ≤ m) : ∃ owner, SetTable.layClean m hs = some owner ∧ Own m hs.toList owner := by
  obtain ⟨owner, a, b⟩ := owns_all hm hs.toList [] _ (Own.init m) (by simpa using hn)
  refine ⟨owner, ?_, by simpa using b⟩
  have a2 : hs.toList.foldl (stepF m) (some (Array.replicate (m + 1) none, 0)) = some (owner, ([] ++ hs.toList).length) := a
  rw [layClean_eq, a2]
  rfl
theorem relaid_all (t : SetTable) {hs : Array Int} {wanted M : Nat} (hw : SetTable.sizeAbove wanted - 1 = M) (hM : MaskW M) (hn : hs.size ≤ M) :
    ∃ t2 order, t.relaid hs wanted = some (t2, order) ∧ order.toList.Perm (List.range hs.size) ∧ TabW t2 (order.toList.map fun i => hs.getD i 0) ∧ t2.mask = M ∧ t2.led = t.led ∧ t2.plain = t.plain := by
  obtain ⟨owner, e, W⟩ := clean_all hM hn
  have two := ris_live (fun j => owner.getD j none) (List.range (M + 1)) (by
    unfold Ris
    exact List.pairwise_lt_range)
  have up : Ris ((liveOf M owner).map (·.1)) := two.1
  have inr : ∀ x ∈ (liveOf M owner).map (·.1), x ∈ List.range (M + 1) := two.2
  have mem : ∀ j k, (j, k) ∈ liveOf M owner ↔ j ≤ M ∧ oAt owner j = some k := fun j k => mem_live W.sz
  have every : ∀ k, k < hs.size → k ∈ (liveOf M owner).map (·.2) := fun k hk => by
    obtain ⟨j, a, b⟩ := W.all k (by simpa using hk)
    exact List.mem_map.mpr ⟨(j, k), (mem j k).2 ⟨a, b⟩, rfl⟩
  have len : (liveOf M owner).length = hs.size := by
    refine Nat.le_antisymm ?_ ?_
    · obtain ⟨ps, a, b⟩ := W.ps
      have nd : ((liveOf M owner).map (·.1)).Nodup := List.Pairwise.imp (fun z => Nat.ne_of_lt z) up
      have z := nat_nodup_len _ ps nd (by
        intro x hx
        obtain ⟨⟨y, k⟩, hq, rfl⟩ := List.mem_map.mp hx
        obtain ⟨c1, c2⟩ := (mem y k).1 hq
        exact b y c1 (fun z => by rw [z] at c2; cases c2))
      simpa [a] using z
    · have z := nat_nodup_len (List.range hs.size) ((liveOf M owner).map (·.2)) List.nodup_range fun k hk => every k (List.mem_range.mp hk)
      simpa using z
  refine ⟨tabOf t M owner, ((liveOf M owner).map (·.2)).toArray, ?_, perm_range hs.size _ (by simpa using len) every, ⟨up, rfl, ?_, hM, ?_, ?_⟩, rfl, rfl, rfl⟩
  · rw [relaid_eq, hw, e]
    rfl
  · show ((liveOf M owner).map (·.1)).toArray.size = _
    simp
  · intro x hx
    exact Nat.le_of_lt_succ (List.mem_range.mp (inr x hx))
  · intro i h j h1 h2
    have h1' : (((liveOf M owner).map (·.2)).map fun i => hs.getD i 0)[i]? = some h := h1
    have h2' : ((liveOf M owner).map (·.1))[i]? = some j := h2
    simp only [List.getElem?_map, Option.map_eq_some_iff] at h1' h2'
    obtain ⟨k, ⟨⟨y, k'⟩, g1, rfl⟩, rfl⟩ := h1'
    obtain ⟨q, g2, rfl⟩ := h2'
    rw [g1] at g2
    cases g2
    obtain ⟨c1, c2⟩ := (mem y k').1 (List.mem_of_getElem? g1)
    obtain ⟨h0, K, a1, a2, a3⟩ := W.at_ y k' c1 c2
    have eh : hs.getD k' 0 = h0 := by
      rw [Array.getElem?_toList] at a1
      rw [Array.getD_eq_getD_getElem?, a1]
      rfl
    refine ⟨K, by show way M (hs.getD k' 0) K = y; rw [eh]; exact a2, fun c hc => ?_⟩
    show way M (hs.getD k' 0) c ∈ (liveOf M owner).map (·.1)
    rw [eh]
    cases z : oAt owner (way M h0 c) with
    | none => exact absurd z (a3 c hc)
    | some k2 => exact List.mem_map.mpr ⟨(way M h0 c, k2), (mem _ _).2 ⟨way_top M h0 c, z⟩, rfl⟩

/-! ### the set -/
/-- what the object at a holds: the tuples at L's addresses, told by their ints -/
def SetW0 (P : Program) (w : World) (h : Heap) (a : Addr) (L : List (Addr × List Int)) (es : Array (Int × Value)) (ep : Nat) (t : SetTable) : Prop :=
  (∃ o, h.get? a = some o ∧ o.ExactSet ∧ o.data = .set es ep t) ∧ es.toList = rowsOf P w L ∧ TabW t (L.map fun p => thash P w p.2) ∧ t.plain = true ∧
    (w.params.followText "set-order" = true ∨ t.led = true) ∧ L.length * 5 < t.mask * 3 ∧ L.length ≤ 1200
section
variable {P : Program} {w : World} {A : Around} {E : Value → Shared → Prop} {s : Shared} {a : Addr} {L : List (Addr × List Int)} {es : Array (Int × Value)} {ep : Nat} {t : SetTable}
theorem rows_size (h : es.toList = rowsOf P w L) : es.size = L.length := by
  rw [← Array.length_toList, h]
  simp [rowsOf]
theorem rows_at (h : es.toList = rowsOf P w L) {i : Nat} {p : Addr × List Int} (hp : L[i]? = some p) : es[i]? = some (thash P w p.2, Value.ref p.1) := by
  rw [← Array.getElem?_toList, h]
  simp [rowsOf, hp]
theorem fits_of (T : TabW t (L.map fun p => thash P w p.2)) (hr : es.toList = rowsOf P w L) (hl : L.length ≤ t.mask) : t.fits es.size = true := by
  have h1 := T.sz
  rw [List.length_map] at h1
  unfold SetTable.fits SetTable.fill
  rw [T.dm, Bool.and_eq_true, beq_iff_eq, decide_eq_true_eq, rows_size hr, h1]
  exact ⟨rfl, hl⟩
theorem stands (T : TabW t (L.map fun p => thash P w p.2)) : ¬ t.gaveWay = true := by
  unfold SetTable.gaveWay
  rcases T.msk with e | e | e | e | e <;> rw [e] <;> decide
/-- the search, from the c-th slot of its way on -/
theorem seek (R : SetW0 P w s.heap a L es ep t) (tup : ∀ p ∈ L, IsT P w s.heap p.2 p.1) (ad : Bool) {x : Addr} {k : List Int} (hx : IsT P w s.heap k x) (hu : A.units < cLine) {K : Nat} (hf0 : K < 10 * SetTable.turns t.mask)
    (hK : way t.mask (thash P w k) K ∉ t.place.toList) (hKb : ∀ c, c < K → way t.mask (thash P w k) c ∈ t.place.toList) {Q : SetFound → Shared → Prop}
    (hin : k ∈ L.map (·.2) → ∀ oi, (ad = false → oi ≠ none) → Q (.there oi) s) (hout : k ∉ L.map (·.2) → Q (.free (way t.mask (thash P w k) K) false) s) :
    ∀ (f c : Nat) (stand : Option SetTable.Probe), stand.getD (t.probeStart (thash P w k)) = nth t.mask (runAt t.mask (SetTable.bits (thash P w k) % (t.mask + 1)) (SetTable.bits (thash P w k))) c → c ≤ K → K - c < f →
      (∀ (i : Nat) p, L[i]? = some p → p.2 = k → ∃ c', c ≤ c' ∧ c' < K ∧ t.place.toList[i]? = some (way t.mask (thash P w k) c')) →
      wpAny (model P w) A (setSearchFrom a (.ref x) (thash P w k) ad f stand) Q E s
  | 0, c, stand, _, _, hf, _ => absurd hf (Nat.not_lt_zero _)
  | f + 1, c, stand, hst, hc, hf, hre => by
    obtain ⟨⟨o, ho, hex, hd⟩, rows, T, pl, ld, room, few⟩ := id R
    have fit : t.fits es.size = true := fits_of T rows (by omega)
    generalize hpr : runAt t.mask (SetTable.bits (thash P w k) % (t.mask + 1)) (SetTable.bits (thash P w k)) = pr at hst
    have wy : ∀ q, (nth t.mask pr q).j = way t.mask (thash P w k) q := fun q => by rw [← hpr]
    have shift : ∀ q, nth t.mask (nth t.mask pr c) q = nth t.mask pr (c + q) := fun q => (nth_add t.mask c pr q).symm
    have nodummy : ∀ (n : Nat) (p : SetTable.Probe), p.dummy = none → (nth t.mask p n).dummy = none := by
      intro n
      induction n with
      | zero => exact fun p h => h
      | succ n ih =>
        refine fun p h => ih (adv t.mask p) ?_
        unfold adv
        split <;> exact h
    have spec := go_spec t T.ris T.dm (fun i => (es[i]?.map (·.1)).getD 0) (thash P w k) (10 * SetTable.turns t.mask) (K - c) (nth t.mask pr c) (nodummy c pr (by rw [← hpr]; rfl)) (by omega)
      (fun q hq => by rw [shift, wy]; exact hKb _ (by omega)) (by rw [shift, wy, Nat.add_sub_cancel' hc]; exact hK)
    have hashAt : ∀ (i : Nat) p, L[i]? = some p → ((es[i]?.map (·.1)).getD 0) = thash P w p.2 := fun i p hp => by rw [rows_at rows hp]; rfl
    rw [setSearchFrom_succ]
    refine wpAny_bind (wpAny_setState_of ho hd fit ?_)
    dsimp only
    refine wp_if_neg (stands T) ?_
    try refine wpAny_bind (wpAny_pure ?_)
    have probe_is : ∀ r, SetTable.probe.go t (fun i => (es[i]?.map (·.1)).getD 0) (thash P w k) (10 * SetTable.turns t.mask) (nth t.mask pr c) = r →
        t.probe (fun i => (es[i]?.map (·.1)).getD 0) (thash P w k) (stand.getD (t.probeStart (thash P w k))) = r := fun r e => by rw [hst]; exact e
    rcases spec with ⟨q, i, hq, hi, hh, hno, pe⟩ | ⟨hno, pe⟩
    · rw [probe_is _ pe]
      dsimp only
      rw [shift, wy] at hi
      have hil : i < L.length := by
        have h1 : i < t.place.toList.length := (List.getElem?_eq_some_iff.mp hi).1
        rw [Array.length_toList, T.sz, List.length_map] at h1
        exact h1
      obtain ⟨p, hp⟩ : ∃ p, L[i]? = some p := ⟨_, List.getElem?_eq_getElem hil⟩
      have hm : p ∈ L := List.mem_of_getElem? hp
      have rest : wpAny (model P w) A (searchRest a (.ref x) (thash P w k) ad f es t (nth t.mask (nth t.mask pr c) q).j i (nth t.mask (nth t.mask pr c) (q + 1))) Q E s := by
        unfold searchRest
        rw [rows_at rows hp]
        dsimp only
        refine wpAny_bind (wpAny_holding (wpAny_eqBool_tuple hu (tup p hm) hx ?_))
        refine wpAny_bind (wpAny_setState_of ho hd fit ?_)
        dsimp only
        have slot : t.slot (nth t.mask (nth t.mask pr c) q).j = .live i := by
          rw [shift, wy]
          exact slot_live T.ris hi
        by_cases hkk : p.2 = k
        · have mem : k ∈ L.map (·.2) := List.mem_map.mpr ⟨p, hm, hkk⟩
          cases ad with
          | true =>
            refine wp_if_pos (by simp [hkk]) ?_
            exact wpAny_pure (hin mem none (fun z => nomatch z))
          | false =>
            refine wp_if_neg (by simp) ?_
            try refine wpAny_bind (wpAny_pure ?_)
            rw [sameMem]
            dsimp only
            simp only [if_true, slot, rows_at rows hp]
            refine wpAny_bind (wpAny_isSame_ref_self (wpAny_bind (wpAny_pure ?_)))
            simp only [if_true]
            refine wp_if_pos (by simp [hkk]) ?_
            exact wpAny_pure (hin mem (some i) (fun _ z => nomatch z))
        · refine wp_if_neg (by simp [hkk]) ?_
          try refine wpAny_bind (wpAny_pure ?_)
          rw [sameMem]
          dsimp only
          simp only [if_true, slot, rows_at rows hp]
          refine wpAny_bind (wpAny_isSame_ref_self (wpAny_bind (wpAny_pure ?_)))
          simp only [if_true]
          refine wp_if_neg (by simp [hkk]) ?_
          refine seek R tup ad hx hu hf0 hK hKb hin hout f (c + (q + 1)) _ (by rw [hpr]; exact shift (q + 1)) (by omega) (by omega) fun i0 p0 h0 hk0 => ?_
          obtain ⟨c', a1, a2, a3⟩ := hre i0 p0 h0 hk0
          refine ⟨c', ?_, a2, a3⟩
          have z1 : ¬ c' < c + q := fun y => by
            refine hno (c' - c) i0 (by omega) (by rw [shift, wy, Nat.add_sub_cancel' a1]; exact a3) ?_
            exact (hashAt i0 p0 h0).trans (congrArg (thash P w) hk0)
          have z2 : c' ≠ c + q := fun y => by
            have s1 := slot_live T.ris a3
            rw [y, slot_live T.ris hi] at s1
            cases s1
            rw [hp] at h0
            cases h0
            exact hkk hk0
          omega
      by_cases hl : t.led = true
      · refine wp_if_neg (by simp [hl]) ?_
        try refine wpAny_bind (wpAny_pure ?_)
        exact rest
      · refine wp_if_pos (by simp [hl]) ?_
        refine wpAny_bind (seen_tup hx (fun y hy => ?_) ?_)
        · obtain ⟨e, he, rfl⟩ := List.mem_map.mp hy
          have he2 : e ∈ es.toList := by
            have z : e ∈ es ∧ e.1 = thash P w k := by simpa using he
            simpa using z.1
          rw [rows] at he2
          obtain ⟨p2, hp2, rfl⟩ := List.mem_map.mp he2
          exact ⟨p2.2, p2.1, rfl, tup p2 hp2⟩
        · refine wp_if_neg (by decide) ?_
          try refine wpAny_bind (wpAny_pure ?_)
          exact rest
    · rw [probe_is _ pe]
      dsimp only
      rw [shift, wy, Nat.add_sub_cancel' hc]
      refine wpAny_pure (hout fun hm => ?_)
      obtain ⟨p0, h0, hk0⟩ := List.mem_map.mp hm
      obtain ⟨i0, hi0, e0⟩ := List.getElem_of_mem h0
      have h00 : L[i0]? = some p0 := by rw [List.getElem?_eq_getElem hi0, e0]
      obtain ⟨c', a1, a2, a3⟩ := hre i0 p0 h00 hk0
      refine hno (c' - c) i0 (by omega) (by rw [shift, wy, Nat.add_sub_cancel' a1]; exact a3) ?_
      exact (hashAt i0 p0 h00).trans (congrArg (thash P w) hk0)
theorem seek_all (R : SetW0 P w s.heap a L es ep t) (tup : ∀ p ∈ L, IsT P w s.heap p.2 p.1) (ad : Bool) {x : Addr} {k : List Int} (hx : IsT P w s.heap k x) (hu : A.units < cLine) {Q : SetFound → Shared → Prop}
    (hin : k ∈ L.map (·.2) → ∀ oi, (ad = false → oi ≠ none) → Q (.there oi) s)
    (hout : ∀ K, k ∉ L.map (·.2) → way t.mask (thash P w k) K ∉ t.place.toList → (∀ c, c < K → way t.mask (thash P w k) c ∈ t.place.toList) → Q (.free (way t.mask (thash P w k) K) false) s) :
    wpAny (model P w) A (setSearch a (.ref x) (thash P w k) ad) Q E s := by
  obtain ⟨_, rows, T, _, _, room, _⟩ := id R
  obtain ⟨K, a1, a2, a3⟩ := T.free (by rw [List.length_map]; omega) (thash P w k)
  have big : K < 100000 := by
    have z : 10 * SetTable.turns t.mask < 100000 := by
      unfold SetTable.turns
      rcases T.msk with e | e | e | e | e <;> omega
    omega
  unfold setSearch
  refine seek R tup ad hx hu a1 a2 a3 hin (fun z => hout K z a2 a3) 100000 0 none rfl (Nat.zero_le _) (by omega) fun i p hp hk => ?_
  have hil : i < t.place.toList.length := by
    rw [Array.length_toList, T.sz, List.length_map]
    exact (List.getElem?_eq_some_iff.mp hp).1
  obtain ⟨c, hc, e⟩ := T.ahead (h := thash P w k) a2 (by rw [List.getElem?_map, hp, ← hk]; rfl) (List.getElem?_eq_getElem hil)
  exact ⟨c, Nat.zero_le _, hc, by rw [e]; exact List.getElem?_eq_getElem hil⟩
end

/-! ### adding -/
section
variable {P : Program} {w : World} {A : Around} {E : Value → Shared → Prop} {s : Shared} {a : Addr} {L : List (Addr × List Int)} {es : Array (Int × Value)} {ep : Nat} {t : SetTable}
theorem size_w20 : SetTable.sizeAbove (SetTable.grown 5) = 32 := by decide +kernel
theorem size_w76 : SetTable.sizeAbove (SetTable.grown 19) = 128 := by decide +kernel
theorem size_w308 : SetTable.sizeAbove (SetTable.grown 77) = 512 := by decide +kernel
theorem size_w1228 : SetTable.sizeAbove (SetTable.grown 307) = 2048 := by decide +kernel
theorem relay_all {o : Obj} (ho : s.heap.get? a = some o) (hex : o.ExactSet) (hd : o.data = .set es ep t) (rows : es.toList = rowsOf P w L) (T : TabW t (L.map fun p => thash P w p.2)) (pl : t.plain = true)
    (ld : w.params.followText "set-order" = true ∨ t.led = true) (few : L.length ≤ 1200) (hlm : L.length ≤ t.mask) {wanted M : Nat} (hw : SetTable.sizeAbove wanted = M + 1) (hM : MaskW M) (hn : L.length * 5 < M * 3) {Q : Unit → Shared → Prop}
    (hQ : ∀ h' L' es' ep' t', Heap.SameBut a s.heap h' → SetW0 P w h' a L' es' ep' t' → L'.Perm L → Q () { s with heap := h' }) : wpAny (model P w) A (setRelay a wanted) Q E s := by
  have hsz := rows_size rows
  have bigM : M ≤ 2047 := by rcases hM with e | e | e | e | e <;> omega
  obtain ⟨t2, order, e, pm, T2, m2, l2, p2⟩ := relaid_all t (hs := es.map (·.1)) (wanted := wanted) (M := M) (by rw [hw]; rfl) hM (by rw [Array.size_map, hsz]; omega)
  rw [Array.size_map, hsz] at pm
  obtain ⟨L2, r1, r2, r3⟩ := order_rows L es order rows pm
  rw [← r3] at T2
  have hs2 : (order.filterMap (es[·]?)).size = es.size := by rw [rows_size r1, r2.length_eq, hsz]
  rw [setRelay_eq]
  refine wpAny_bind (wpAny_setState_of ho hd (fits_of T rows hlm) ?_)
  dsimp only
  refine wp_if_neg (by rw [hw, sizeLine_eq]; omega) ?_
  try refine wpAny_bind (wpAny_pure ?_)
  rw [e]
  dsimp only
  refine wpAny_bind ?_
  refine wp_if_neg (by rw [hs2]; simp) ?_
  try refine wpAny_bind (wpAny_pure ?_)
  refine wpAny_pure ?_
  dsimp only
  refine wpAny_storeSet_of ho hd ?_ (by rw [hs2, hsz, sizeLine_eq]; omega)
  refine hQ _ L2 (order.filterMap (es[·]?)) (ep + 1) t2 (Heap.SameBut.update ..) ⟨⟨_, store_at ho hd, ⟨hex.1, hex.2.1, hex.2.2⟩, rfl⟩, r1, T2, by rw [p2]; exact pl, by rw [l2]; exact ld, ?_, ?_⟩ r2
  · rw [r2.length_eq, m2]; exact hn
  · rw [r2.length_eq]; exact few
theorem add_all (R : SetW0 P w s.heap a L es ep t) (tup : ∀ p ∈ L, IsT P w s.heap p.2 p.1) {x : Addr} {k : List Int} (hx : IsT P w s.heap k x) (hu : A.units < cLine) (hfew : L.length < 1200) {Q : Bool → Shared → Prop}
    (hQ : ∀ b h' L' es' ep' t', Heap.SameBut a s.heap h' → SetW0 P w h' a L' es' ep' t' → (k ∈ L.map (·.2) → L' = L) → (k ∉ L.map (·.2) → L'.Perm ((x, k) :: L)) → Q b { s with heap := h' }) :
    wpAny (model P w) A (setAddHashed a (.ref x) (thash P w k)) Q E s := by
  obtain ⟨⟨o, ho, hex, hd⟩, rows, T, pl, ld, room, few⟩ := id R
  have fit : t.fits es.size = true := fits_of T rows (by omega)
  have hsl := rows_size rows
  unfold setAddHashed
  refine wpAny_holding ?_
  rw [show (100000 : Nat) = 99999 + 1 from rfl, setAddHashedIn_succ]
  refine wpAny_bind (wpAny_setState_of ho hd fit ?_)
  dsimp only
  refine wp_if_neg (by simp [byScan, Value.scannable]) ?_
  try refine wpAny_bind (wpAny_pure ?_)
  refine wpAny_bind (seek_all R tup true hx hu (fun hm oi _ => ?_) fun K hm hK hb => ?_)
  · dsimp only
    exact wpAny_pure (hQ false s.heap L es ep t (Heap.SameBut.refl a s.heap) R (fun _ => rfl) fun z => absurd hm z)
  · dsimp only
    refine wpAny_bind (wpAny_setState_of ho hd fit ?_)
    dsimp only
    obtain ⟨q1, q2, q3⟩ := T.put hK hb
    have b1 : (t.put (way t.mask (thash P w k) K)).1.plain = true := pl
    have b2 : (t.put (way t.mask (thash P w k) K)).1.mask = t.mask := rfl
    have b3 : (t.put (way t.mask (thash P w k) K)).1.led = t.led := rfl
    have b4 : (t.put (way t.mask (thash P w k) K)).2 = SetTable.below t.place (way t.mask (thash P w k) K) := rfl
    generalize hpt : t.put (way t.mask (thash P w k) K) = pt at q2 q3 b1 b2 b3 b4 ⊢
    obtain ⟨t1, p⟩ := pt
    dsimp only at q2 q3 b1 b2 b3 b4 ⊢
    rw [← b4] at q1 q3
    clear b4
    first
      | (refine wpAny_bind ?_; refine wp_if_pos b1 ?_; refine hashBy_tup hx ?_)
      | refine wp_if_pos b1 (wpAny_bind (hashBy_tup hx ?_))
    simp only [if_true]
    rw [List.length_map] at q1 q2
    have r1 : (SetTable.insertAt es p (thash P w k, Value.ref x)).toList = rowsOf P w (L.take p ++ (x, k) :: L.drop p) := by
      rw [SetTable.toList_insertAt, rows_put, rows]
    have pm := put_perm L p (x, k)
    have hl1 : (L.take p ++ (x, k) :: L.drop p).length = L.length + 1 := pm.length_eq
    have q4 : TabW t1 ((L.take p ++ (x, k) :: L.drop p).map fun p => thash P w p.2) := by
      rw [List.map_append, List.map_cons, List.map_take, List.map_drop]
      exact q3
    have s1 := rows_size r1
    rw [hl1] at s1
    generalize SetTable.insertAt es p (thash P w k, Value.ref x) = es1 at r1 s1 ⊢
    generalize L.take p ++ (x, k) :: L.drop p = L1 at r1 pm hl1 q4
    refine wpAny_bind (wpAny_storeSet_of ho hd ?_ (by rw [s1, sizeLine_eq]; omega))
    have sb : Heap.SameBut a s.heap (s.heap.update a (Obj.putSet es1 t1)) := Heap.SameBut.update ..
    have ho1 := store_at (es' := es1) (t' := t1) ho hd
    generalize s.heap.update a (Obj.putSet es1 t1) = h1 at sb ho1 ⊢
    have ex1 : ({ o with data := .set es1 (ep + 1) t1 } : Obj).ExactSet := ⟨hex.1, hex.2.1, hex.2.2⟩
    have ld1 : w.params.followText "set-order" = true ∨ t1.led = true := by rw [b3]; exact ld
    by_cases hf : t1.tooFull = true
    · first
        | (refine wpAny_bind ?_; refine wp_if_pos (by simp [hf]) ?_)
        | (refine wp_if_pos (by simp [hf]) ?_; refine wpAny_bind ?_)
      have full : (L.length + 1) * 5 ≥ t.mask * 3 := by
        have z := hf
        unfold SetTable.tooFull at z
        rw [decide_eq_true_eq, q2, b2] at z
        exact z
      rw [hsl]
      have go : ∀ M, SetTable.sizeAbove (SetTable.grown (L.length + 1)) = M + 1 → MaskW M → (L.length + 1) * 5 < M * 3 →
          wpAny (model P w) A (setRelay a (SetTable.grown (L.length + 1))) (fun _ s' => wpAny (model P w) A (pure true) Q E s') E { s with heap := h1 } := fun M e1 e2 e3 => by
        refine relay_all (s := { s with heap := h1 }) ho1 ex1 rfl r1 q4 b1 ld1 (by rw [hl1]; exact hfew) (by rw [hl1, b2]; omega) e1 e2 (by rw [hl1]; exact e3) fun h2 L2 es2 ep2 t2 sb2 R2 pm2 => ?_
        exact wpAny_pure (hQ true h2 L2 es2 ep2 t2 (sb.trans sb2) R2 (fun z => absurd z hm) fun _ => pm2.trans pm)
      rcases T.msk with e | e | e | e | e
      · have e2 : L.length + 1 = 5 := by omega
        exact go 31 (by rw [e2, size_w20]) (.inr (.inl rfl)) (by omega)
      · have e2 : L.length + 1 = 19 := by omega
        exact go 127 (by rw [e2, size_w76]) (.inr (.inr (.inl rfl))) (by omega)
      · have e2 : L.length + 1 = 77 := by omega
        exact go 511 (by rw [e2, size_w308]) (.inr (.inr (.inr (.inl rfl)))) (by omega)
      · have e2 : L.length + 1 = 307 := by omega
        exact go 2047 (by rw [e2, size_w1228]) (.inr (.inr (.inr (.inr rfl)))) (by omega)
      · exfalso
        omega
    · first
        | refine wp_if_neg (by simp [hf]) ?_
        | (refine wpAny_bind ?_; refine wp_if_neg (by simp [hf]) ?_; refine wpAny_pure ?_)
      refine wpAny_pure (hQ true h1 L1 es1 (ep + 1) t1 sb ⟨⟨_, ho1, ex1, rfl⟩, r1, q4, b1, ld1, ?_, by rw [hl1]; exact hfew⟩ (fun z => absurd z hm) fun _ => pm)
      have z := hf
      unfold SetTable.tooFull at z
      rw [decide_eq_true_eq, q2, b2] at z
      rw [hl1, b2]
      omega
end
end Vf

/-! Sets of tuples of ints over the layer: set(), add, in, not in. -/
namespace Vf
open PySem PySem.Spec PyProof.Rows L2
def SetWO (P : Program) (w : World) (a : Addr) (L : List (Addr × List Int)) : HO := .ext fun h => ∃ es ep t, SetW0 P w h a L es ep t
theorem setW_at {P : Program} {w : World} {h h' : Heap} {a : Addr} {L : List (Addr × List Int)} (R : ∃ es ep t, SetW0 P w h a L es ep t) (k : ∀ o, h.get? a = some o → h'.get? a = some o) : ∃ es ep t, SetW0 P w h' a L es ep t := by
  obtain ⟨es, ep, t, ⟨o, ho, r⟩, z⟩ := R
  exact ⟨es, ep, t, ⟨o, k o ho, r⟩, z⟩
theorem setWO_new {w : World} {P : Program} {H : Hp} {h : Heap} {a : Addr} {L : List (Addr × List Int)} (R : ∃ es ep t, SetW0 P w h a L es ep t) : ObjOk P w H h a (SetWO P w a L) := by
  refine ⟨R, ?_, fun h1 h2 p k => setW_at p k⟩
  obtain ⟨es, ep, t, ⟨o, ho, r⟩, z⟩ := R
  exact ⟨o, ho⟩
section
variable {X : Cx}
theorem setWO_get {pins : List (Addr × Obj)} {σ : L2.St} {H : Hp} {s : Shared} {a : Addr} {L : List (Addr × List Int)} (I : Inv X pins σ H s) (ha : H a = some (SetWO X.prog X.w a L)) : ∃ es ep t, SetW0 X.prog X.w s.heap a L es ep t := (I.hok a _ ha).1
/-- set() -/
def rSet0W (P : Program) (w : World) : List V → Hp → VK → Prop := fun xs H Q => xs = [] ∧ ∀ p, H p = none → Q (.ref p) (upd H p (SetWO P w p []))
theorem cr_set0W : CallR X (.type "set") (rSet0W X.prog X.w) := by
  intro pins s σ H xs us Q I r h
  obtain ⟨rfl, q⟩ := h
  cases r
  refine setR_new fun new => ?_
  refine ⟨.ref s.heap.objs.size, upd H s.heap.objs.size (SetWO X.prog X.w s.heap.objs.size []), I.laid (t' := s.toks) (fun b u e => Heap.get?_push_of_some _ e) (Nat.le_refl _) (setWO_new ?_), rfl, q _ (I.hok.fresh (Nat.le_refl _))⟩
  refine ⟨#[], 0, .fresh 0 0 (!X.w.params.followText "set-order"), ⟨_, Heap.get?_push_size _ rfl, ⟨rfl, rfl, rfl⟩, rfl⟩, rfl, ⟨List.Pairwise.nil, rfl, rfl, .inl rfl, (fun x hx => by cases hx), (fun i h j h1 _ => by simp at h1)⟩, rfl, ?_, (by show 0 * 5 < 7 * 3; decide), (by show 0 ≤ 1200; decide)⟩
  cases X.w.params.followText "set-order"
  · exact .inr rfl
  · exact .inl rfl
/-- found.add(t) -/
def rSAddW (K : PySem.W.Frag) (P : Program) (w : World) : V → List V → Hp → VK → Prop := fun x xs H Q => ∃ (a b : Addr) (k : List Int) (L : List (Addr × List Int)), x = V.ref a ∧ xs = [V.ref b] ∧
  H a = some (SetWO P w a L) ∧ SqT K H b (k.map V.int) ∧ (∀ p ∈ L, SqT K H p.1 (p.2.map V.int)) ∧ L.length < 1200 ∧
  ∀ L', (k ∈ L.map (·.2) → L' = L) → (k ∉ L.map (·.2) → L'.Perm ((b, k) :: L)) → Q .non (upd H a (SetWO P w a L'))
theorem mt_saddW (hu : X.A.units + 10 < cLine) : MtR X "set.add" (rSAddW X.K X.prog X.w) := by
  intro pins s σ H x xs v us Q I rx rxs h
  obtain ⟨a, b, k, L, rfl, rfl, ha, hb, hL, few, q⟩ := h
  cases rx
  cases rxs with
  | cons ry rt =>
    cases rt
    cases (show _ = Value.ref b from ry)
    obtain ⟨es, ep, t, R⟩ := setWO_get I ha
    obtain ⟨⟨o, ho, hex, hd⟩, _⟩ := id R
    have ty : s.TypeIs (.ref a) "set" := ⟨o, ho, hex.1⟩
    refine wpAny_call_entry F.slot_set_add ty F.entry_set_add ?_ (F.args_set_add_2 _ _)
    unfold Builtin.«set.add» Builtin.Frozenset.oneOther
    simp only [List.isEmpty_nil, bind_assoc]
    unfold Builtin.Frozenset.addrOf setAdd
    refine wpAny_bind (wpAny_pure ?_)
    try dsimp only
    refine wpAny_bind (wpAny_pure ?_)
    try dsimp only
    refine wpAny_bind ?_
    refine wpAny_holding ?_
    refine wpAny_bind (wpAny_pyHash_tuple (by show X.A.units + 1 < cLine; omega) (I.isT hb) ?_)
    refine add_all (s := { s with toks := s.toks + (k.length + 1) }) R (fun p hp => I.isT (hL p hp)) (I.isT hb) (by show X.A.units + 1 < cLine; omega) few fun bb h' L' es' ep' t' sb R' z1 z2 => ?_
    show wpAny _ _ (ret Value.none) _ _ _
    refine wpAny_pure ⟨_, rfl, ?_⟩
    have he : ∃ u, h'.get? a = some u := by
      obtain ⟨⟨o', ho', _⟩, _⟩ := R'
      exact ⟨o', ho'⟩
    exact ⟨.non, _, I.write (e := a) (t' := s.toks + (k.length + 1)) (by rw [ha]; trivial) (.inl rfl) (fun c u hc hu => (sb.2 c hc).trans hu) he (setWO_new ⟨es', ep', t', R'⟩), rfl, q L' z1 z2⟩
def tSAddW (K : PySem.W.Frag) (P : Program) (w : World) (to : TE) (t : TA) : TE := fun σ H Q => to σ H fun x H1 => (∃ a L, x = V.ref a ∧ H1 a = some (SetWO P w a L)) ∧ t σ H1 fun xs H2 => rSAddW K P w x xs H2 Q
variable {o e : Expr} {es : List Expr} {to : TE} {t : TA} {apos cpos : Pos}
theorem pe_saddW (hu : X.A.units + 10 < cLine) (ho : PE X o to) (ha : PA X (e :: es) t)
    (hbase : attributeBase o "add" X.env (eval o X.env) = eval o X.env := by rfl)
    (hfew : ((backTo cpos (starEach (e :: es) X.env)).all (fun x => !x.1) && (backToKw cpos (keywordEach [] X.env)).all (fun x => x.1.isSome)
      && decide ((e :: es).length + ([] : List Keyword).length + (if ([] : List Keyword).isEmpty then 0 else 1) < 30)) = true := by rfl)
    (hline : (apos.endLine == cpos.line) = true := by rfl) (hs : starEach (e :: es) X.env = (false, eval e X.env) :: starEach es X.env := by rfl)
    (hplain : (backTo cpos (starEach es X.env)).any (·.1) = false := by rfl) :
    PE X (.Call (.Attribute o "add" apos) (e :: es) [] cpos) (tSAddW X.K X.prog X.w to t) := by
  refine ⟨fun pins s σ H Q I h => wpAny_Call_method_late hbase hfew hline rfl (thn (ho.run pins s σ H _ I h) fun v s1 ⟨x, H1, I1, r1, ty, q1⟩ => ?_)⟩
  obtain ⟨a, L, rfl, hka⟩ := ty
  obtain ⟨es', ep, tb, R⟩ := setWO_get I1 hka
  obtain ⟨⟨oo, hoo, hex, hd⟩, _⟩ := id R
  cases r1
  refine ⟨"set", "set.add", F.plainAttrs_set, F.slot_set_add, F.type_set_add, ⟨oo, hoo, hex.1⟩, ?_, ?_⟩
  · intro c e
    injection e with e
    subst e
    exact ⟨oo, hoo, hex.2.1⟩
  have hA := ha.run cpos pins s1 σ H1 _ I1 q1
  rw [hs] at hA ⊢
  refine Calls.callWith_builtin (by
    show (false || (backTo cpos (starEach es X.env)).any (·.1)) = false
    rw [hplain]
    rfl) (Calls.evalArgs_plain (thn hA ?_))
  exact fun us s2 ⟨vs, H2, I2, r2, q2⟩ => mt_saddW hu pins s2 σ H2 (.ref a) vs (.ref a) us Q I2 rfl r2 q2
/-- t in found -/
def rInW (K : PySem.W.Frag) (P : Program) (w : World) : R2 := fun x y H Q => ∃ (a b : Addr) (k : List Int) (L : List (Addr × List Int)), x = V.ref b ∧ y = V.ref a ∧
  H a = some (SetWO P w a L) ∧ SqT K H b (k.map V.int) ∧ (∀ p ∈ L, SqT K H p.1 (p.2.map V.int)) ∧ Q (.bl (decide (k ∈ L.map (·.2)))) H
theorem op_inW (hu : X.A.units + 10 < cLine) : OpR X (compareOp .In) (rInW X.K X.prog X.w) := by
  intro pins s σ H x y v u Q I rx ry h
  obtain ⟨a, b, k, L, rfl, rfl, ha, hb, hL, q⟩ := h
  cases rx
  cases ry
  obtain ⟨es, ep, t, R⟩ := setWO_get I ha
  obtain ⟨⟨o, ho, hex, hd⟩, rows, T, pl, ld, room, few⟩ := id R
  have ty : s.TypeIs (.ref a) "set" := ⟨o, ho, hex.1⟩
  show wpAny _ _ (do return Value.bool (← contains (.ref a) (.ref b))) _ _ s
  refine wpAny_bind ?_
  unfold contains
  try with_reducible refine wpAny_holding ?_
  refine wpAny_bind (wpAny_specialOf ty F.slot_set_contains.lookup ?_)
  show wpAny _ _ (if (some (Value.builtin "set.__contains__") == some Value.none) = true then _ else _) _ _ s
  rw [if_neg (by rw [beq_builtin_none]; exact Bool.false_ne_true)]
  refine wpAny_bind (wpAny_callSpecialUnlessNone?_slot (name := Str.ofString "__contains__") ty F.slot_set_contains
    (wpAny_call_entry F.slot_set_contains ty entry_set_contains ?_ (F.args_set_contains_2 _ _)))
  unfold Builtin.«frozenset.__contains__» Builtin.Frozenset.oneOther
  simp only [List.isEmpty_nil, bind_assoc]
  unfold Builtin.Frozenset.addrOf Builtin.Frozenset.withSetAsKey setContains
  refine wpAny_bind (wpAny_pure ?_)
  try dsimp only
  refine wpAny_bind (wpAny_pure ?_)
  try dsimp only
  refine wpAny_bind (wpAny_tryCatch ?_)
  refine wpAny_holding ?_
  refine wpAny_bind (wpAny_pyHash_tuple (by show X.A.units + 1 < cLine; omega) (I.isT hb) ?_)
  have tup : ∀ p ∈ L, IsT X.prog X.w s.heap p.2 p.1 := fun p hp => I.isT (hL p hp)
  have hx : IsT X.prog X.w s.heap k b := I.isT hb
  have fit : ∀ n : Nat, t.fits es.size = true := fun _ => fits_of T rows (by omega)
  refine wpAny_bind ?_
  unfold setFind
  rw [show (100000 : Nat) = 99999 + 1 from rfl]
  unfold setFindIn
  refine wpAny_bind (wpAny_setState_of (s := { s with toks := s.toks + (k.length + 1) }) ho hd (fit 0) ?_)
  dsimp only
  refine wp_if_neg (by simp [byScan, Value.scannable]) ?_
  have fin : ∀ oi : Option Nat, oi.isSome = decide (k ∈ L.map (·.2)) → ∃ v, Fin.done (Flow.ret (Value.bool oi.isSome)) = Fin.done (Flow.ret v) ∧
      wpAny (model X.prog X.w) X.A (truthy v) (fun c s' => wpAny (model X.prog X.w) X.A (pure (Value.bool c)) (EP X pins σ Q) X.xe s') X.xe { s with toks := s.toks + (k.length + 1) } := fun oi e =>
    ⟨_, rfl, wpAny_truthy_bool (wpAny_pure ⟨.bl _, H, I.tok _, rfl, by rw [e]; exact q⟩)⟩
  refine wpAny_bind (seek_all (s := { s with toks := s.toks + (k.length + 1) }) R tup false hx (by show X.A.units + 1 < cLine; omega) (fun hm oi hoi => ?_) fun K hm _ _ => ?_)
  · dsimp only
    refine wpAny_pure (wpAny_pure ?_)
    show wpAny _ _ (ret (Value.bool oi.isSome)) _ _ _
    refine wpAny_pure (fin oi ?_)
    have ne := hoi rfl
    cases oi with
    | none => exact absurd rfl ne
    | some z => exact (decide_eq_true hm).symm
  · dsimp only
    refine wpAny_pure (wpAny_pure ?_)
    show wpAny _ _ (ret (Value.bool (none : Option Nat).isSome)) _ _ _
    exact wpAny_pure (fin none (decide_eq_false hm).symm)
end
end Vf

/-! Loops and small readings. -/
namespace Vf
open PySem PySem.Spec PyProof.Rows L2 Evl
theorem hu10 {A : Around} {k : Nat} (hr : Room k A) : A.units + 10 < cLine := Nat.lt_of_le_of_lt (Nat.add_le_add_left (by decide : 10 ≤ 64) _) hr.units
/-- for i, x in enumerate(xs) -/
theorem for_enumL {K : PySem.W.Frag} {a : Addr} {xs : List V} {g : TG} {tb : TS} {D : Ends} {σ : L2.St} {H : Hp} (Pv : Nat → L2.St → Hp → Prop) (h0 : Pv 0 σ H) (hl : ∀ i σ H, Pv i σ H → SqL K H a xs)
    (hs : ∀ (i : Nat) (x : V) (T : Addr) (σ : L2.St) (H : Hp), xs[i]? = some x → Pv i σ H → H T = none → g (.ref T) σ (upd H T (.tup [.int (i : Nat), x])) fun σ2 H2 => tb { D with nx := Pv (i + 1), ct := Pv (i + 1), bk := D.nx } σ2 H2)
    (hd : ∀ σ H, Pv xs.length σ H → D.nx σ H) :
    ∃ W : Nat → Nat → L2.St → Hp → Prop, (∃ m, W 0 m σ H) ∧ ∀ i m σ H, W i m σ H →
      ((Ite K a).stop i H ∧ D.nx σ H) ∨ ((Ite K a).go i H ∧ ∃ N : L2.St → Hp → Prop, (∀ σ' H', N σ' H' → ∃ m', m' < m ∧ W (i + 1) m' σ' H') ∧
        ∀ v H', (Ite K a).yld i H v H' → g v σ H' fun σ2 H2 => tb { D with nx := N, ct := N, bk := D.nx } σ2 H2) := by
  refine ⟨fun i m σ H => i + m = xs.length ∧ Pv i σ H, ⟨xs.length, Nat.zero_add _, h0⟩, ?_⟩
  rintro i m σ H ⟨him, p⟩
  have q := hl i σ H p
  rcases Nat.lt_or_ge i xs.length with hi | hi
  · refine .inr ⟨⟨xs, xs[i], q, List.getElem?_eq_getElem hi⟩, Pv (i + 1), fun σ' H' p' => ⟨m - 1, by omega, by omega, p'⟩, fun v H' y => ?_⟩
    obtain ⟨T, x, rfl, nT, rfl, f⟩ := y
    exact hs i x T σ H (f xs q) p nT
  · refine .inl ⟨⟨xs, q, hi⟩, hd σ H ?_⟩
    have e : i = xs.length := by omega
    rwa [← e]
theorem Ex.set {H H' : Hp} {p : Addr} {o : HO} (e : Ex H H') (h : H p = none) : Ex H (upd H' p o) := Ex.mut e h
theorem take_snoc {α : Type} {l : List α} {i : Nat} {x : α} (h : l[i]? = some x) : l.take (i + 1) = l.take i ++ [x] := by
  rw [List.take_add_one, h]
  rfl
theorem map_at {α : Type} {ns : List α} {f : α → V} {i : Nat} {x : V} (h : (ns.map f)[i]? = some x) : ∃ n, ns[i]? = some n ∧ x = f n := by
  rw [List.getElem?_map, Option.map_eq_some_iff] at h
  obtain ⟨n, h1, h2⟩ := h
  exact ⟨n, h1, h2.symm⟩
theorem nodup_at {α : Type} {l : List α} (nd : l.Nodup) {i : Nat} {x : α} (h : l[i]? = some x) : x ∉ l.take i := by
  intro hm
  obtain ⟨j, hj, e⟩ := List.getElem_of_mem hm
  obtain ⟨hi, e2⟩ := List.getElem?_eq_some_iff.mp h
  have hj2 : j < i := by
    rw [List.length_take] at hj
    omega
  rw [List.getElem_take] at e
  exact absurd ((List.getElem_inj nd).mp (e.trans e2.symm)) (Nat.ne_of_lt hj2)
/-- a tuple stays while another object changes -/
theorem sqT_upd {K : PySem.W.Frag} {H : Hp} {a p : Addr} {xs : List V} {o o' : HO} (h : SqT K H a xs) (hp : H p = some o) (no : ∀ ys, o ≠ .tup ys) (nf : ∀ ob u, o ≠ .frz ob u) : SqT K (upd H p o') a xs := by
  rcases h with (h | ⟨ob, h⟩) | h
  · have ne : a ≠ p := fun e => by
      rw [e, hp] at h
      exact no _ (Option.some.inj h)
    exact .inl (.inl (by rw [upd_ne ne]; exact h))
  · have ne : a ≠ p := fun e => by
      rw [e, hp] at h
      exact nf _ _ (Option.some.inj h)
    exact .inl (.inr ⟨ob, by rw [upd_ne ne]; exact h⟩)
  · exact .inr h
/-- a list stays while another object, that is no list, changes; or a new one -/
theorem sqL_upd {K : PySem.W.Frag} {H : Hp} {a p : Addr} {xs : List V} {o o' : HO} (h : SqL K H a xs) (hp : H p = some o) (no : ∀ ys, o ≠ .lst ys) (nf : ∀ ob u, o ≠ .frz ob u) : SqL K (upd H p o') a xs := by
  rcases h with (h | ⟨ob, h⟩) | h
  · have ne : a ≠ p := fun e => by
      rw [e, hp] at h
      exact no _ (Option.some.inj h)
    exact .inl (.inl (by rw [upd_ne ne]; exact h))
  · have ne : a ≠ p := fun e => by
      rw [e, hp] at h
      exact nf _ _ (Option.some.inj h)
    exact .inl (.inr ⟨ob, by rw [upd_ne ne]; exact h⟩)
  · exact .inr h
end Vf

/-! The end of a law's row whose defs want that no guard stands. -/
namespace Vf
open PySem PySem.Spec PyProof.Rows L2
theorem law_runs {P : Program} {w : World} {K : PySem.W.Frag} {mg mb : Str → Option Value} {k : Nat} {fa a : Addr} {fd : FuncData} {x : Str} {sp : Sp} {s₁ : Shared} {vs : List Value} {ns : List Int}
    (KX : K.In s₁.heap) (hns : s₁.heap.Ns mainGlobals mg) (hb : s₁.heap.Ns builtinsNs mb) (hbb : ∀ x : Str, x ≠ "__name__" → mb x = bootBuiltins x) (hlim : s₁.heap.NoLimit) (hg : s₁.gens = #[])
    (ha : s₁.heap.get? a = some { cls := .type "list", data := .seq vs.toArray }) (hi : IntsAre vs ns) (hl : ns.length ≤ sizeLine) (hr : Room k callerA)
    (F : ∀ base : Heap, K.In base → base.Ns mainGlobals mg → FnG P w K mg base CX0 k fa fd [x] sp) (hbind : ∀ (s : Shared) (u : Value), BindsTo s fd ⟨[u], []⟩ [(x, u)])
    (hsp : ∀ H : Hp, Only H → SqL K H a (ns.map V.int) → sp [.ref a] H (fun v _ => v = .bl true) fun _ _ _ => False) :
    codeAny (model P w) callerA (.call (.ref fa) ⟨[.ref a], []⟩) (fun r s' => r = .ok (.ret (.bool true)) ∧ OldK s₁.heap s'.heap ∧ s'.os = s₁.os ∧ AllBare s'.gens) s₁ := by
  let ob : Obj := { cls := .type "list", data := .seq vs.toArray }
  have main : ∀ H : Hp, (∀ b, H b = none ∨ (b = a ∧ K.lookup a = none ∧ H b = some (.frz ob (.lst (ns.map V.int))))) → SqL K H a (ns.map V.int) →
      codeAny (model P w) callerA (.call (.ref fa) ⟨[.ref a], []⟩) (fun r s' => r = .ok (.ret (.bool true)) ∧ OldK s₁.heap s'.heap ∧ s'.os = s₁.os ∧ AllBare s'.gens) s₁ := by
    intro H hH hS
    have only : Only H := fun b => (hH b).elim .inl fun z => .inr ⟨_, _, z.2.2⟩
    have hok : HOk P w H s₁.heap := by
      intro b o e
      rcases hH b with z | ⟨rfl, _, z⟩
      · rw [z] at e; cases e
      · rw [z] at e
        cases e
        exact ⟨ha, by rw [List.length_map]; exact hl, vs, _, vals_ints hi, ha⟩
    have free : ∀ {b : Addr} {o : Obj}, s₁.heap.get? b = some o → (∀ it n, o.data ≠ .seq it n) → H b = none := by
      intro b o e d
      rcases hH b with z | ⟨rfl, _, _⟩
      · exact z
      · rw [ha] at e
        cases e
        exact absurd rfl (d _ _)
    have ns_at : ∀ {b : Addr} {m : Str → Option Value}, s₁.heap.Ns b m → (hidT s₁.heap H).Ns b m := by
      rintro b m ⟨o, es, ep, e, d, r⟩
      exact ⟨o, es, ep, hidT_get e (free e fun it n z => by rw [d] at z; cases z), d, r⟩
    have Kb : K.In (hidT s₁.heap H) := by
      intro b o e
      refine hidT_get (KX b o e) ?_
      rcases hH b with z | ⟨rfl, z, _⟩
      · exact z
      · rw [z] at e; cases e
    obtain ⟨mc, c1, c2⟩ := hlim
    have hM : Mod K mg (hidT s₁.heap H) := ⟨Kb, ns_at hns, ⟨mb, ns_at hb, hbb⟩, ⟨mc, ns_at c1, c2⟩⟩
    have none0 : ∀ b ∈ frs [], H b = none := fun b z => nomatch (show b ∈ ([] : List Addr) from z)
    have e0 : Env0 P w K mg (hidT s₁.heap H) callerA [] s₁ H := ⟨rfl, hM, fun b o e => of_hidT e, Nat.le_of_eq (hidT_size _ _), trivial, none0, hok, .of_eq hg⟩
    refine codeAny_mono ((F _ Kb (ns_at hns)).runG callerA [] s₁ H ⟨[.ref a], []⟩ [.ref a] [.ref a] _ _ rfl hr e0 (hbind s₁ (.ref a)) (.cons rfl .nil) (hsp H only hS)) ?_
    intro r s' h
    cases r with
    | error e => exact False.elim h
    | ok fl =>
      cases fl with
      | next => exact False.elim h
      | brk => exact False.elim h
      | cont => exact False.elim h
      | ret u =>
        obtain ⟨v, H', os, bare, un, hok', rv, rfl⟩ := h
        cases (show u = Value.bool true from rv)
        refine ⟨rfl, OldK.of_keep ?_, os, bare⟩
        intro b o e
        rcases hH b with z | ⟨rfl, _, z⟩
        · exact un.keep b o e z (fun y => nomatch (show b ∈ ([] : List Addr) from y)) (fun y => nomatch y)
        · obtain ⟨e2, _⟩ := hok' _ _ (un.frzs _ _ _ z)
          rw [ha] at e
          cases e
          exact e2
  cases hk : K.lookup a with
  | some o =>
    have e := KX a o hk
    rw [ha] at e
    cases e
    refine main (fun _ => none) (fun _ => .inl rfl) (.inr ⟨ob, vs.toArray, _, hk, rfl, rfl, rfl, ?_, by simpa using vals_ints hi⟩)
    rw [List.size_toArray, hi.length]
    exact hl
  | none =>
    refine main (fun b => if b = a then some (.frz ob (.lst (ns.map V.int))) else none) (fun b => ?_) (.inl (.inr ⟨ob, if_pos rfl⟩))
    by_cases c : b = a
    · exact .inr ⟨c, hk, if_pos c⟩
    · exact .inl (if_neg c)
/-- the goal that k_head leaves -/
theorem walkG_of {l : PySem.W.OpenLaw} {n k : Nat} {q : Program} {loose : List Str} {XP : (Str → Option Value) → Heap → Prop} {YP : World → Heap → Prop} {d : DefRec} {K : Params → PySem.W.Frag} {sp : PySem.W.Frag → Sp} {x : Str}
    (hn : l.most = some n) (hn2 : n ≤ sizeLine) (hdf : d.params.defaults = []) (hr : Room k callerA) (hY : ∀ (w : World) (h : Heap), YP w h → (K w.params).In h)
    (F : ∀ (w : World) (mg : Str → Option Value) (fa : Addr) (h : Heap), (K w.params).In h → h.Ns mainGlobals mg → mg d.name = some (.ref fa) →
      ∃ fd : FuncData, (∀ (s : Shared) (u : Value), BindsTo s fd ⟨[u], []⟩ [(x, u)]) ∧
        ∀ base : Heap, (K w.params).In base → base.Ns mainGlobals mg → FnG l.prog w (K w.params) mg base CX0 k fa fd [x] (sp (K w.params)))
    (hsp : ∀ (K : PySem.W.Frag) (H : Hp) (a : Addr) (ns : List Int), ns.length ≤ n → Only H → SqL K H a (ns.map V.int) → sp K [.ref a] H (fun v _ => v = .bl true) fun _ _ _ => False) :
    PySem.W.WalkO q loose XP YP l.row.toRowW d [] (fun f vs => PySem.call f vs) := by
  refine Att.attach_call hn hdf fun w s₀ s₁ mg mb fa o pm cd doc a vs ns G Y ho hd hcd hmg hobj hints hlen hg => ?_
  obtain ⟨fd, hb, hF⟩ := F w mg fa _ (hY w _ Y) G.T.g hmg
  exact law_runs (hY w _ Y) G.T.g G.T.b G.T.builtins G.T.nolimit hg hobj hints (Nat.le_trans hlen hn2) hr hF hb (fun H hO hS => hsp _ H a ns hlen hO hS)
end Vf

/-! Comprehensions over ranges; a new list of new lists. -/
namespace Vf
open PySem PySem.Spec PyProof.Rows L2 Evl
section
variable {K : PySem.W.Frag} {σ : L2.St} {H H' : Hp} {ta : TA} {te : TE} {t : TT}
theorem el_lcR2 {j : Nat} {vs : List Nat} {lo n : Int} (f : Nat → Bool) (v : Nat → V) (h : EvA ta σ H [.int lo, .int n]) (hn : -40000 ≤ lo ∧ lo ≤ 40000 ∧ -40000 ≤ n ∧ n - lo ≤ 40000)
    (hw : ∀ x, wipe ((wipe σ vs).set j (some x)) vs = wipe σ vs) (ht : ∀ (i : Nat) H1, Ex H H1 → lo + (i : Int) < n → EvT t ((wipe σ vs).set j (some (.int (lo + (i : Int))))) H1 (f i))
    (he : ∀ (i : Nat) H1, Ex H H1 → lo + (i : Int) < n → f i = true → Ev te ((wipe σ vs).set j (some (.int (lo + (i : Int))))) H1 (v i)) :
    EvL (tLc (iRng2 ta) (gName j) t te vs) σ H (given (n - lo).toNat f v) := by
  intro H0 e Q q
  refine h H0 e _ fun H1 e1 => ⟨lo, n, rfl, by omega, fun Dl hD => ?_⟩
  refine lc_range (lo := lo) (n := (n - lo).toNat) (Cw H1 f v Dl) ⟨hD, Ex.new hD, upd_same⟩ (fun i H' hi p => ⟨hw _, ?_⟩) fun H' p => q Dl H' (fresh_back e1 p.1) (e1.trans p.2.1) p.2.2
  exact cw_turn p (by omega) (ht i H1 (e.trans e1) (by omega)) fun hf => he i H1 (e.trans e1) (by omega) hf

/-- a new list of new lists, seen from H -/
def LLAt (H H2 : Hp) (D : Addr) (ls : List (List V)) : Prop :=
  ∃ ps : List Addr, H2 D = some (.lst (ps.map V.ref)) ∧ ps.length = ls.length ∧ D ∉ ps ∧ ∀ (i : Nat) (p : Addr) (l : List V), ps[i]? = some p → ls[i]? = some l → H p = none ∧ H2 p = some (.lst l)
def EvLL (te : TE) (σ : L2.St) (H : Hp) (ls : List (List V)) : Prop := ∀ H1, Ex H H1 → ∀ Q : VK, (∀ D H2, H1 D = none → Ex H1 H2 → LLAt H1 H2 D ls → Q (.ref D) H2) → te σ H1 Q
def RetLL (ls : List (List V)) (H : Hp) (Q : VK) : Prop := ∀ D H2, H D = none → Ex H H2 → LLAt H H2 D ls → Q (.ref D) H2
theorem LLAt.back {H H1 H2 : Hp} {D : Addr} {ls : List (List V)} (e : Ex H H1) (h : LLAt H1 H2 D ls) : LLAt H H2 D ls := by
  obtain ⟨ps, a, b, c, d⟩ := h
  exact ⟨ps, a, b, c, fun i p l x y => ⟨fresh_back e (d i p l x y).1, (d i p l x y).2⟩⟩
theorem LLAt.on {H H2 H3 : Hp} {D : Addr} {ls : List (List V)} (h : LLAt H H2 D ls) (e : Ex H2 H3) : LLAt H H3 D ls := by
  obtain ⟨ps, a, b, c, d⟩ := h
  exact ⟨ps, e _ _ a, b, c, fun i p l x y => ⟨(d i p l x y).1, e _ _ (d i p l x y).2⟩⟩
theorem RetLL.go {ls : List (List V)} {Q : VK} (k : RetLL ls H Q) (e : Ex H H') {D : Addr} {H2 : Hp} (hD : H' D = none) (e2 : Ex H' H2) (h : LLAt H' H2 D ls) : Q (.ref D) H2 :=
  k D H2 (fresh_back e hD) (e.trans e2) (h.back e)
/-- the rows so far -/
def Rw (H : Hp) (f : Nat → Bool) (L : Nat → List V) (Dl : Addr) (i : Nat) (H' : Hp) : Prop := H Dl = none ∧ Ex H H' ∧ LLAt H H' Dl (((List.range i).filter f).map L)
theorem rw_turn {H H' : Hp} {f : Nat → Bool} {L : Nat → List V} {Dl : Addr} {i : Nat} {σ2 : L2.St} (p : Rw H f L Dl i H') (hi : i < 50000) (ht : EvT t σ2 H (f i)) (he : f i = true → EvL te σ2 H (L i)) :
    t σ2 H' fun b H3 => if b = true then te σ2 H3 fun y H4 => ∃ acc, H4 Dl = some (.lst acc) ∧ acc.length < sizeLine ∧ Rw H f L Dl (i + 1) (upd H4 Dl (.lst (acc ++ [y]))) else Rw H f L Dl (i + 1) H3 := by
  obtain ⟨p1, p2, p3⟩ := p
  refine ht H' p2 _ fun H3 e3 => ?_
  cases hf : f i with
  | true =>
    show te σ2 H3 fun y H4 => ∃ acc, H4 Dl = some (.lst acc) ∧ acc.length < sizeLine ∧ Rw H f L Dl (i + 1) (upd H4 Dl (.lst (acc ++ [y])))
    refine he hf H3 (p2.trans e3) _ fun q H4 nq e4 hq => ?_
    obtain ⟨ps, a, b, c, d⟩ := (p3.on e3).on e4
    have len : ps.length ≤ i := by
      rw [b, List.length_map]
      have z := List.length_filter_le f (List.range i)
      rwa [List.length_range] at z
    have neD : q ≠ Dl := fun z => by
      have a3 := (p3.on e3)
      obtain ⟨_, a3, _⟩ := a3
      rw [← z, nq] at a3
      cases a3
    refine ⟨ps.map V.ref, a, sz_lt (by rw [List.length_map]; omega), p1, Ex.mut ((p2.trans e3).trans e4) p1, ps ++ [q], ?_, ?_, ?_, ?_⟩
    · rw [upd_same, List.map_append]
      rfl
    · rw [List.range_succ, List.filter_append, List.filter_cons, if_pos (by rw [hf])]
      simp [b]
    · intro z
      rcases List.mem_append.mp z with z | z
      · exact c z
      · exact neD (List.mem_singleton.mp z).symm
    · intro k pp l hk hl
      rw [List.range_succ, List.filter_append, List.filter_cons, if_pos (by rw [hf])] at hl
      simp only [List.filter_nil, List.map_append, List.map_cons, List.map_nil] at hl
      by_cases hk2 : k < ps.length
      · rw [List.getElem?_append_left hk2] at hk
        rw [List.getElem?_append_left (by rw [← b]; exact hk2)] at hl
        obtain ⟨d1, d2⟩ := d k pp l hk hl
        exact ⟨d1, by rw [upd_ne (show pp ≠ Dl from fun z => c (by rw [← z]; exact List.mem_of_getElem? hk))]; exact d2⟩
      · have ek : k = ps.length := by
          have z := (List.getElem?_eq_some_iff.mp hk).1
          rw [List.length_append, List.length_singleton] at z
          omega
        rw [ek, List.getElem?_append_right (Nat.le_refl _), Nat.sub_self] at hk
        rw [ek, b, List.getElem?_append_right (Nat.le_refl _), Nat.sub_self] at hl
        cases hk
        cases hl
        exact ⟨fresh_back (p2.trans e3) nq, by rw [upd_ne neD]; exact hq⟩
  | false =>
    show Rw H f L Dl (i + 1) H3
    refine ⟨p1, p2.trans e3, ?_⟩
    rw [List.range_succ, List.filter_append, List.filter_cons, if_neg (by rw [hf]; decide)]
    simpa using p3.on e3
theorem ell_lcR2 {j : Nat} {vs : List Nat} {lo n : Int} (f : Nat → Bool) (L : Nat → List V) (h : EvA ta σ H [.int lo, .int n]) (hn : -40000 ≤ lo ∧ lo ≤ 40000 ∧ -40000 ≤ n ∧ n - lo ≤ 40000)
    (hw : ∀ x, wipe ((wipe σ vs).set j (some x)) vs = wipe σ vs) (ht : ∀ (i : Nat) H1, Ex H H1 → lo + (i : Int) < n → EvT t ((wipe σ vs).set j (some (.int (lo + (i : Int))))) H1 (f i))
    (he : ∀ (i : Nat) H1, Ex H H1 → lo + (i : Int) < n → f i = true → EvL te ((wipe σ vs).set j (some (.int (lo + (i : Int))))) H1 (L i)) :
    EvLL (tLc (iRng2 ta) (gName j) t te vs) σ H (((List.range (n - lo).toNat).filter f).map L) := by
  intro H0 e Q q
  refine h H0 e _ fun H1 e1 => ⟨lo, n, rfl, by omega, fun Dl hD => ?_⟩
  refine lc_range (lo := lo) (n := (n - lo).toNat) (Rw H1 f L Dl) ⟨hD, Ex.new hD, [], upd_same, rfl, (by simp), (fun i p l x => by simp at x)⟩ (fun i H' hi p => ⟨hw _, ?_⟩)
    fun H' p => q Dl H' (fresh_back e1 p.1) (e1.trans p.2.1) (p.2.2.back e1)
  exact rw_turn p (by omega) (ht i H1 (e.trans e1) (by omega)) fun hf => he i H1 (e.trans e1) (by omega) hf
/-- over a list -/
theorem ell_lcL {a : Addr} {xs : List V} {tl : TE} {j : Nat} {vs : List Nat} (f : Nat → Bool) (L : Nat → List V) (h : Ev tl σ H (.ref a)) (hx : SqL K H a xs) (hz : xs.length ≤ 40000) (hw : ∀ x, wipe ((wipe σ vs).set j (some x)) vs = wipe σ vs)
    (ht : ∀ (i : Nat) (x : V) H1, Ex H H1 → xs[i]? = some x → EvT t ((wipe σ vs).set j (some x)) H1 (f i)) (he : ∀ (i : Nat) (x : V) H1, Ex H H1 → xs[i]? = some x → f i = true → EvL te ((wipe σ vs).set j (some x)) H1 (L i)) :
    EvLL (tLc (iList K tl) (gName j) t te vs) σ H (((List.range xs.length).filter f).map L) := by
  intro H0 e Q q
  refine h H0 e _ fun H1 e1 => ⟨a, rfl, ⟨xs, ex_l (e.trans e1) hx⟩, fun Dl hD => ?_⟩
  refine lc_list (xs := xs) (Rw H1 f L Dl) ⟨hD, Ex.new hD, [], upd_same, rfl, (by simp), (fun i p l x => by simp at x)⟩ (fun i H' _ p => ex_l ((e.trans e1).trans p.2.1) hx) (fun i x H' hi p => ⟨hw x, ?_⟩)
    fun H' p => q Dl H' (fresh_back e1 p.1) (e1.trans p.2.1) (p.2.2.back e1)
  have hlt := (List.getElem?_eq_some_iff.mp hi).1
  exact rw_turn p (by omega) (ht i x H1 (e.trans e1) hi) fun hf => he i x H1 (e.trans e1) hi hf
theorem et_yes : EvT tYes σ H true := fun H1 _ _ q => q H1 (Ex.refl H1)
theorem atI_int {l : List Int} {i : Int} (h0 : 0 ≤ i) (h1 : i < l.length) : atI (l.map V.int) i = some (.int (l.getD i.toNat 0)) := by
  obtain ⟨k, rfl⟩ : ∃ k : Nat, i = (k : Int) := ⟨i.toNat, by omega⟩
  have hk : k < l.length := by omega
  refine atI_nat ?_
  rw [List.getElem?_map, List.getElem?_eq_getElem hk, List.getD_eq_getElem?_getD, show ((k : Int)).toNat = k from rfl, List.getElem?_eq_getElem hk]
  rfl
/-- a built-in's call upon a new list -/
theorem ev_cbL {r : List V → Hp → VK → Prop} {xs : List V} {z : V} (h : EvL te σ H xs) (hr : ∀ p H1, Ex H H1 → H1 p = some (.lst xs) → RC r [.ref p] H1 z) : Ev (tCB r (tCons te tNil)) σ H z :=
  fun H1 e Q q => h H1 e _ fun p H2 _ e2 hp => hr p H2 (e.trans e2) hp H2 (Ex.refl H2) Q fun H3 e3 => q H3 (e2.trans e3)
theorem dec_vi (a b : Int) : decide (V.int a = V.int b) = decide (a = b) := by
  by_cases c : a = b
  · rw [decide_eq_true c, decide_eq_true (congrArg V.int c)]
  · rw [decide_eq_false c, decide_eq_false fun z => c (V.int.inj z)]
theorem given_ints (n : Nat) (f : Nat → Bool) (g : Nat → Int) : given n f (fun i => V.int (g i)) = (((List.range n).filter f).map g).map V.int := by
  unfold given
  rw [List.map_map]
  rfl
/-- [y for x in xs for y in x], the rows lists that stand -/
theorem el_flat {a : Addr} {as : List Addr} {rows : List (List V)} {tl : TE} {j j2 : Nat} {vs vs1 : List Nat} (h : Ev tl σ H (.ref a)) (hx : SqL K H a (as.map V.ref)) (hl : as.length = rows.length)
    (hr : ∀ (i : Nat) (b : Addr) (r : List V), as[i]? = some b → rows[i]? = some r → SqL K H b r) (hz : rows.flatten.length ≤ 40000) (hw : ∀ x, wipe ((wipe σ vs).set j (some x)) vs = wipe σ vs)
    (hw1 : ∀ x y, wipe ((wipe ((wipe σ vs).set j (some x)) vs1).set j2 (some y)) vs1 = wipe ((wipe σ vs).set j (some x)) vs1) (hj : ∀ x, ((wipe σ vs).set j (some x))[j]? = some (some x))
    (hj2 : ∀ x y, ((wipe ((wipe σ vs).set j (some x)) vs1).set j2 (some y))[j2]? = some (some y)) :
    EvL (tLc2 (iList K tl) (gName j) tYes (iList K (tVar j)) (gName j2) tYes (tVar j2) vs vs1) σ H rows.flatten := by
  intro H0 e Q q
  refine h H0 e _ fun H1 e1 => ⟨a, rfl, ⟨_, ex_l (e.trans e1) hx⟩, fun D hD => ?_⟩
  refine ⟨fun i m H' => i + m = rows.length ∧ Ex H1 H' ∧ H' D = some (.lst (rows.take i).flatten), ⟨rows.length, Nat.zero_add _, Ex.new hD, upd_same⟩, ?_⟩
  rintro i m H2 ⟨him, e2, h2⟩
  have hS2 : SqL K H2 a (as.map V.ref) := ex_l ((e.trans e1).trans e2) hx
  rcases Nat.lt_or_ge i rows.length with hi | hi
  · have hia : i < as.length := hl ▸ hi
    refine .inr ⟨⟨_, .ref as[i], hS2, by rw [List.getElem?_map, List.getElem?_eq_getElem hia]; rfl⟩, fun H' => Ex H1 H' ∧ H' D = some (.lst (rows.take (i + 1)).flatten), fun H' p => ⟨m - 1, by omega, by omega, p⟩, fun x H' hy => ?_⟩
    obtain ⟨rfl, hy⟩ := hy
    have ex : x = .ref as[i] := Option.some.inj ((hy _ hS2).symm.trans (by rw [List.getElem?_map, List.getElem?_eq_getElem hia]; rfl))
    subst ex
    have hb : as[i]? = some as[i] := List.getElem?_eq_getElem hia
    have hrow : rows[i]? = some rows[i] := List.getElem?_eq_getElem hi
    have hR : ∀ H', Ex H1 H' → SqL K H' as[i] rows[i] := fun H' e' => ex_l ((e.trans e1).trans e') (hr i _ _ hb hrow)
    refine ⟨hw _, ⟨_, hj _, as[i], rfl, ⟨_, hR _ e2⟩, ?_⟩⟩
    refine ⟨fun c k H' => c + k = rows[i].length ∧ Ex H1 H' ∧ H' D = some (.lst ((rows.take i).flatten ++ rows[i].take c)), ⟨rows[i].length, Nat.zero_add _, e2, by simpa using h2⟩, ?_⟩
    rintro c k H3 ⟨hck, e3, h3⟩
    rcases Nat.lt_or_ge c rows[i].length with hc | hc
    · refine .inr ⟨⟨_, rows[i][c], hR _ e3, List.getElem?_eq_getElem hc⟩, fun H' => Ex H1 H' ∧ H' D = some (.lst ((rows.take i).flatten ++ rows[i].take (c + 1))), fun H' p => ⟨k - 1, by omega, by omega, p⟩, fun y H' hy => ?_⟩
      obtain ⟨rfl, hy⟩ := hy
      have ey : y = rows[i][c] := Option.some.inj ((hy _ (hR _ e3)).symm.trans (List.getElem?_eq_getElem hc))
      subst ey
      refine ⟨hw1 _ _, ⟨_, hj2 _ _, _, h3, ?_, ?_, ?_⟩⟩
      · refine sz_lt ?_
        have z0 : rows.flatten = (rows.take (i + 1)).flatten ++ (rows.drop (i + 1)).flatten := by rw [← List.flatten_append, List.take_append_drop]
        rw [take_snoc hrow, List.flatten_append] at z0
        have z := congrArg List.length z0
        simp only [List.length_append, List.flatten_cons, List.flatten_nil, List.append_nil] at z
        rw [List.length_append, List.length_take]
        omega
      · exact Ex.mut e3 hD
      · rw [upd_same, take_snoc (List.getElem?_eq_getElem hc), List.append_assoc]
    · refine .inl ⟨⟨_, hR _ e3, hc⟩, e3, ?_⟩
      show H3 D = _
      rw [h3, List.take_of_length_le hc, take_snoc hrow, List.flatten_append]
      simp
  · refine .inl ⟨⟨_, hS2, by rw [List.length_map, hl]; exact hi⟩, q D H2 (fresh_back e1 hD) (e1.trans e2) ?_⟩
    rw [h2, List.take_of_length_le hi]
end
/-! ### rules told by the module's facts (a comprehension's block has them from its def) -/
section
variable {X : Cx} {K : PySem.W.Frag}
theorem ix_listK (h : X.K = K) : IxR X (rIxL K) := by subst h; exact ix_list
theorem ix_tupK (h : X.K = K) : IxR X (rIxT K) := by subst h; exact ix_tup
theorem op_inK (h : X.K = K) : OpR X (compareOp .In) (rIn K false) := by subst h; exact op_in_seq
theorem op_notInK (h : X.K = K) : OpR X (compareOp .NotIn) (rIn K true) := by subst h; exact op_notIn_seq
theorem sl_listK (h : X.K = K) : SlR X (rSlL K) := by subst h; exact sl_list
theorem call_lenK (h : X.K = K) : CallR X (.builtin "len") (rLenS K) := by subst h; exact call_len_seq
theorem call_listK (h : X.K = K) : CallR X (.type "list") (rListS K) := by subst h; exact call_list_of
theorem cr_sortedK (h : X.K = K) : CallR X (.builtin "sorted") (rSorted K) := by subst h; exact cr_sorted
theorem cr_maxK (hc : X.calm = true) (h : X.K = K) : CallR X (.builtin "max") (rMax K) := by subst h; exact cr_max hc
theorem cr_allK (hc : X.calm = true) (h : X.K = K) : CallR X (.builtin "all") (rAll K) := by subst h; exact cr_all hc
theorem mt_countK (h : X.K = K) : MtR X "list.count" (rCntI K) := by subst h; exact mt_lcount
theorem pe_revK {e : Expr} {te : TE} {k : Nat} {p1 p2 p3 pos : Pos} (h : X.K = K) (he : PE X e te) : PE X (.Subscript e (.Slice none none (some (.UnaryOp .USub (.Constant (.int 1) k p1) p2)) p3) pos) (tRevL K te) := by subst h; exact pe_revL he
theorem pi_listK {tg l : Expr} {tl : TE} (h : X.K = K) (hl : PE X l tl) : PI X tg l (iList K tl) := by subst h; exact pi_list hl
theorem pg_unlK {pos : Pos} {es : List Expr} {k : Nat} {t : TGs} {n : Nat} (h : X.K = K) (hc : X.calm = true) (hs : PGs X es t)
    (hn : (assignEach es X.env).length = n := by rfl) (hst : (assignEach es X.env).findIdx? (·.1) = none := by rfl) : PG X (.Tuple es k pos) (gUnl K n t) := by subst h; exact pg_unl hc hs hn hst
theorem pg_tupK {pos : Pos} {es : List Expr} {k : Nat} {t : TGs} {n : Nat} (h : X.K = K) (hc : X.calm = true) (hs : PGs X es t)
    (hn : (assignEach es X.env).length = n := by rfl) (hst : (assignEach es X.env).findIdx? (·.1) = none := by rfl) : PG X (.Tuple es k pos) (gTup K n t) := by subst h; exact pg_tup hc hs hn hst
theorem pe_bmK {o e : Expr} {es : List Expr} {to : TE} {t : TA} {apos cpos : Pos} {T id : String} {name : Str} {r : V → List V → Hp → VK → Prop} (h : X.K = K) (pa : PlainAttrs T) (slot : Slot T name id)
    (hty : typeOf (.builtin id) = pure (.type "method_descriptor")) (hm : MtR X id r) (ho : PE X o to) (ha : PA X (e :: es) t)
    (k1 : attributeBase o name X.env (eval o X.env) = eval o X.env := by rfl)
    (k2 : ((backTo cpos (starEach (e :: es) X.env)).all (fun x => !x.1) && (backToKw cpos (keywordEach [] X.env)).all (fun x => x.1.isSome) &&
      decide ((e :: es).length + ([] : List Keyword).length + (if ([] : List Keyword).isEmpty then 0 else 1) < 30)) = true := by rfl)
    (k3 : (apos.endLine == cpos.line) = true := by rfl) (k4 : starEach (e :: es) X.env = (false, eval e X.env) :: starEach es X.env := by rfl)
    (k5 : (backTo cpos (starEach es X.env)).any (·.1) = false := by rfl) : PE X (.Call (.Attribute o name apos) (e :: es) [] cpos) (tBM K T r to t) := by
  subst h
  exact pe_bm pa slot hty hm ho ha k1 k2 k3 k4 k5
end
end Vf

/-! Data at any depth: what may be compared and shown. -/
namespace Vf
open PySem PySem.Spec PyProof.Rows L2 Evl
/-- data of at most dep lists one in the other, shown by at most len signs -/
structure Dn (d : PyData) (len dep : Nat) : Prop where
  len_ : d.shown.length ≤ len
  show_ : d.showable = true
  dict_ : d.hasDict = false
  lay_ : d.canLay0 = true
  dep_ : d.depth ≤ dep
theorem Dn.mono {d : PyData} {len dep len' dep' : Nat} (h : Dn d len dep) (h1 : len ≤ len') (h2 : dep ≤ dep') : Dn d len' dep' :=
  ⟨Nat.le_trans h.len_ h1, h.show_, h.dict_, h.lay_, Nat.le_trans h.dep_ h2⟩
theorem Dn.int {i : Int} (h0 : 0 ≤ i) (h1 : i < 10 ^ 10) : Dn (.int i) 10 0 := by
  refine ⟨toString_length_le h0 (by decide) h1, ?_, rfl, rfl, Nat.le_refl _⟩
  refine decide_eq_true ?_
  have h2 : i.natAbs < 2 ^ 40 := by omega
  by_cases c : i.natAbs = 0
  · rw [c]; decide
  · exact Nat.lt_of_lt_of_le ((Nat.log2_lt c).2 h2) (by decide)
theorem Dn.bool (b : Bool) : Dn (.bool b) 5 0 := by
  refine ⟨?_, rfl, rfl, rfl, Nat.le_refl _⟩
  cases b <;> decide
theorem textFrom_le : ∀ (ts : List Str) (k : Nat) (acc : Str), (textFrom k acc ts).length ≤ acc.length + piled ts
  | [], _, _ => Nat.le_add_right _ _
  | t :: r, k, acc => by
    have h := textFrom_le r (k + 1) (acc ++ (if k > 0 then ", " else "" : String) ++ t)
    have e : (acc ++ (if k > 0 then ", " else "" : String) ++ t).length ≤ acc.length + 2 + t.length := by
      rw [strLen_append, strLen_append]
      split
      · exact Nat.le_refl _
      · show acc.length + 0 + t.length ≤ _
        omega
    rw [piled_cons]
    show (textFrom (k + 1) _ r).length ≤ _
    omega
theorem dn_all {len dep : Nat} : ∀ {ds : List PyData}, (∀ d ∈ ds, Dn d len dep) →
    piled (PyData.shownAll ds) ≤ (len + 2) * ds.length ∧ PyData.showableAll ds = true ∧ PyData.hasDictAll ds = false ∧ PyData.canLayAll0 ds = true ∧ PyData.depthAll ds ≤ dep
  | [], _ => ⟨Nat.zero_le _, rfl, rfl, rfl, Nat.zero_le _⟩
  | d :: ds, h => by
    obtain ⟨a1, a2, a3, a4, a5⟩ := h d List.mem_cons_self
    obtain ⟨b1, b2, b3, b4, b5⟩ := dn_all (ds := ds) fun x hx => h x (List.mem_cons_of_mem _ hx)
    refine ⟨?_, ?_, ?_, ?_, ?_⟩
    · show piled (d.shown :: PyData.shownAll ds) ≤ _
      rw [piled_cons, List.length_cons, Nat.mul_add]
      omega
    · show (d.showable && PyData.showableAll ds) = true
      rw [a2, b2]; rfl
    · show (d.hasDict || PyData.hasDictAll ds) = false
      rw [a3, b3]; rfl
    · show (d.canLay0 && PyData.canLayAll0 ds) = true
      rw [a4, b4]; rfl
    · show max d.depth (PyData.depthAll ds) ≤ dep
      omega
theorem Dn.list {ds : List PyData} {len dep : Nat} (h : ∀ d ∈ ds, Dn d len dep) : Dn (.list ds) ((len + 2) * ds.length + 2) (dep + 1) := by
  obtain ⟨b1, b2, b3, b4, b5⟩ := dn_all h
  refine ⟨?_, b2, b3, b4, Nat.succ_le_succ b5⟩
  show (textFrom 0 "[" (PyData.shownAll ds) ++ "]").length ≤ _
  have z := textFrom_le (PyData.shownAll ds) 0 "["
  rw [strLen_append]
  have e1 : (Str.ofString "[").length = 1 := by decide
  have e2 : (Str.ofString "]").length = 1 := by decide
  rw [e1] at z
  rw [e2]
  omega
abbrev dInts (ns : List Int) : PyData := .list (ns.map .int)
abbrev dRows (ls : List (List Int)) : PyData := .list (ls.map dInts)
theorem dn_ints {ns : List Int} (h : ∀ x ∈ ns, 0 ≤ x ∧ x < 10 ^ 10) : Dn (dInts ns) (12 * ns.length + 2) 1 := by
  have z := Dn.list (ds := ns.map .int) (len := 10) (dep := 0) fun d hd => by
    obtain ⟨x, hx, rfl⟩ := List.mem_map.mp hd
    exact Dn.int (h x hx).1 (h x hx).2
  rw [List.length_map] at z
  exact z
theorem dn_rows {ls : List (List Int)} {m : Nat} (h : ∀ l ∈ ls, l.length ≤ m ∧ ∀ x ∈ l, 0 ≤ x ∧ x < 10 ^ 10) : Dn (dRows ls) ((12 * m + 4) * ls.length + 2) 2 := by
  have z := Dn.list (ds := ls.map dInts) (len := 12 * m + 2) (dep := 1) fun d hd => by
    obtain ⟨l, hl, rfl⟩ := List.mem_map.mp hd
    exact (dn_ints (h l hl).2).mono (by have := (h l hl).1; omega) (Nat.le_refl _)
  rw [List.length_map] at z
  exact z
section
variable {K : PySem.W.Frag} {H H' : Hp}
theorem dp_list (ns : List Int) : DpAll K H (ns.map V.int) (ns.map .int) := by
  induction ns with
  | nil => exact .nil
  | cons n ns ih => exact .cons (.int n) ih
theorem dp_ints {a : Addr} {ns : List Int} (h : SqL K H a (ns.map V.int)) : Dp K H (.ref a) (dInts ns) := .lst h (dp_list ns)
theorem dp_rows {a : Addr} {ps : List Addr} {ls : List (List Int)} (h : SqL K H a (ps.map V.ref)) (hl : ps.length = ls.length) (hr : ∀ (i : Nat) (p : Addr) (l : List Int), ps[i]? = some p → ls[i]? = some l → SqL K H p (l.map V.int)) :
    Dp K H (.ref a) (dRows ls) := by
  refine .lst h ?_
  clear h
  induction ps generalizing ls with
  | nil =>
    cases ls with
    | nil => exact .nil
    | cons l ls => cases hl
  | cons p ps ih =>
    cases ls with
    | nil => cases hl
    | cons l ls =>
      exact .cons (dp_ints (hr 0 p l rfl rfl)) (ih (by simpa using hl) fun i p' l' h1 h2 => hr (i + 1) p' l' h1 h2)
mutual
theorem Dp.on (e : Ex H H') : ∀ (d : PyData) (v : V), Dp K H v d → Dp K H' v d
  | .none, _, h => by cases h; exact .non
  | .bool b, _, h => by cases h; exact .bl b
  | .int i, _, h => by cases h; exact .int i
  | .str x, _, h => by cases h; exact .str x
  | .list ds, _, h => by
    cases h with
    | lst hs ha => exact .lst (ex_l e hs) (DpAll.on e ds _ ha)
  | .tuple ds, _, h => by
    cases h with
    | tup hs ha => exact .tup (ex_t e hs) (DpAll.on e ds _ ha)
  | .dict _, _, h => by cases h
theorem DpAll.on (e : Ex H H') : ∀ (ds : List PyData) (vs : List V), DpAll K H vs ds → DpAll K H' vs ds
  | [], _, h => by cases h; exact .nil
  | d :: ds, _, h => by
    cases h with
    | cons h1 h2 => exact .cons (Dp.on e d _ h1) (DpAll.on e ds _ h2)
end
/-- what may be compared, item by item -/
def Sh (K : PySem.W.Frag) (H : Hp) (x : V) : Prop := ∃ e, Dp K H x e ∧ PyData.canLay0 e = true ∧ PyData.depth e ≤ 8
theorem Sh.int (i : Int) : Sh K H (.int i) := ⟨.int i, .int i, rfl, by simp [PyData.depth]⟩
theorem Sh.pair {a : Addr} {x y : Int} (h : SqL K H a [.int x, .int y]) : Sh K H (.ref a) :=
  ⟨dInts [x, y], dp_ints h, rfl, by simp [dInts, PyData.depth, PyData.depthAll]⟩
theorem sh_all : ∀ {xs : List V}, (∀ x ∈ xs, Sh K H x) → ∃ ds, DpAll K H xs ds ∧ ds.length = xs.length ∧ PyData.canLayAll0 ds = true ∧ PyData.depthAll ds ≤ 8
  | [], _ => ⟨[], .nil, rfl, rfl, by simp [PyData.depthAll]⟩
  | x :: xs, h => by
    obtain ⟨e, e1, e2, e3⟩ := h x List.mem_cons_self
    obtain ⟨ds, d1, d2, d3, d4⟩ := sh_all (xs := xs) fun y hy => h y (List.mem_cons_of_mem _ hy)
    refine ⟨e :: ds, .cons e1 d1, by simp [d2], ?_, ?_⟩
    · simp [PyData.canLayAll0, e2, d3]
    · simp only [PyData.depthAll]
      omega
/-- xs != [], the empty list new -/
theorem ne_nil {l p : Addr} {xs : List V} {Q : VK} (hl : SqL K H l xs) (hp : H p = some (.lst [])) (hx : ∀ x ∈ xs, Sh K H x) (q : Q (.bl (!xs.isEmpty)) H) : rNeD K (.ref l) (.ref p) H Q := by
  obtain ⟨ds, d1, d2, d3, d4⟩ := sh_all hx
  refine ⟨.list ds, .list [], .lst hl d1, .lst (.inl (.inl hp)) .nil, ?_, rfl, ?_⟩
  · refine Bool.and_eq_true_iff.mpr ⟨d3, decide_eq_true ?_⟩
    have z : (PyData.list ds).depth = PyData.depthAll ds + 1 := by simp only [PyData.depth]
    omega
  · have e : PyData.eqv (.list ds) (.list []) = xs.isEmpty := by
      cases ds with
      | nil =>
        cases xs with
        | nil => rfl
        | cons _ _ => cases d2
      | cons _ _ =>
        cases xs with
        | nil => cases d2
        | cons _ _ => rfl
    rw [e]
    exact q
end
end Vf

/-! a > b for data that are alike; lists of whole numbers by their first places that part. -/
namespace Vf
open PySem PySem.Spec PyProof.Rows L2 Evl
section
variable {X : Cx}
def rGtD (K : PySem.W.Frag) : R2 := fun x y H Q => ∃ d e, Dp K H x d ∧ Dp K H y e ∧ PySem.W.alike d e = true ∧ d ≠ .none ∧ d.depth ≤ 60 ∧ Q (.bl (PySem.W.dataLt e d)) H
theorem op_gtD (hu : X.A.units + 64 < cLine) : OpR X (compareOp .Gt) (rGtD X.K) := by
  intro pins s σ H x y v u Q I rx ry h
  obtain ⟨d, e, hd, he, ha, hn, hdp, q⟩ := h
  obtain ⟨as, r1⟩ := Dp.reads I d x v hd rx
  obtain ⟨bs, r2⟩ := Dp.reads I e y u he ry
  exact PySem.W.gt_data r1 r2 ha hn (Nat.lt_of_le_of_lt (Nat.add_le_add_left (Nat.le_trans (Nat.min_le_left _ _) (Nat.le_trans hdp (by decide : 60 ≤ 64))) _) hu) ⟨.bl _, H, I, rfl, q⟩
end
theorem alike_ints : ∀ (a b : List Int), PySem.W.alike (dInts a) (dInts b) = true := by
  have key : ∀ a b : List Int, PySem.W.alikeAll (a.map .int) (b.map .int) = true := by
    intro a
    induction a with
    | nil => intro b; cases b <;> rfl
    | cons x a ih =>
      intro b
      cases b with
      | nil => rfl
      | cons y b => exact ih b
  exact fun a b => key a b
/-- a is b, or less where they part first -/
def LexLe : List Int → List Int → Prop
  | [], _ => True
  | _ :: _, [] => False
  | a :: as, b :: bs => a < b ∨ (a = b ∧ LexLe as bs)
theorem not_gt : ∀ {a b : List Int}, LexLe a b → PySem.W.dataLt (dInts b) (dInts a) = false := by
  have key : ∀ {a b : List Int}, LexLe a b → PyProof.Rows.lexLt itemOrd (PySem.W.keyToksAll (b.map .int)) (PySem.W.keyToksAll (a.map .int)) = false := by
    intro a
    induction a with
    | nil =>
      intro b _
      cases b with
      | nil => rfl
      | cons y b =>
        show PyProof.Rows.lexLt itemOrd (.inl 1 :: _) (.inl 0 :: []) = false
        rw [lex_diff (O := itemOrd) (by decide)]
        rfl
    | cons x a ih =>
      intro b h
      cases b with
      | nil => exact h.elim
      | cons y b =>
        show PyProof.Rows.lexLt itemOrd (.inl 1 :: .inl y :: _) (.inl 1 :: .inl x :: _) = false
        rw [lex_self (O := itemOrd)]
        rcases h with h | ⟨h, k⟩
        · rw [lex_diff (O := itemOrd) (by intro z; injection z; omega)]
          show decide (y < x) = false
          exact decide_eq_false (by omega)
        · subst h
          rw [lex_self (O := itemOrd)]
          exact ih k
  intro a b h
  exact key h
end Vf

/-! Slices with a step, left %= made, calls by keywords in the other order, defaults. -/
namespace Vf
open PySem PySem.Spec PyProof.Rows L2 Evl
/-! ### xs[lo:hi:st] -/
def idxF (lo hi st : Option Int) (n : Nat) : List Nat := sliceRange (sliceBounds lo hi st n).1 (sliceBounds lo hi st n).2.1 (sliceBounds lo hi st n).2.2
def pickL {α : Type} (xs : List α) (lo hi st : Option Int) : List α := (idxF lo hi st xs.length).filterMap (xs[·]?)
theorem pick_map {α β : Type} (f : α → β) (xs : List α) (lo hi st : Option Int) : pickL (xs.map f) lo hi st = (pickL xs lo hi st).map f := by
  unfold pickL
  rw [List.length_map, List.map_filterMap]
  refine congrArg (fun g => List.filterMap g _) (funext fun i => ?_)
  rw [List.getElem?_map]
theorem vals_at {xs : List V} {its : List Value} (r : Vals xs its) : ∀ i : Nat, RelO (xs[i]?) (its[i]?) := by
  induction r with
  | nil => intro i; exact True.intro
  | cons h _ ih =>
    intro i
    cases i with
    | zero => exact h
    | succ i => simpa using ih i
theorem vals_pick {xs : List V} {its : List Value} (r : Vals xs its) : ∀ idx : List Nat, Vals (idx.filterMap (xs[·]?)) (idx.filterMap (its[·]?))
  | [] => .nil
  | i :: idx => by
    have a := vals_at r i
    rw [List.filterMap_cons, List.filterMap_cons]
    cases hx : xs[i]? with
    | none =>
      cases hi : its[i]? with
      | none => exact vals_pick r idx
      | some u => rw [hx, hi] at a; exact a.elim
    | some x =>
      cases hi : its[i]? with
      | none => rw [hx, hi] at a; exact a.elim
      | some u => rw [hx, hi] at a; exact .cons a (vals_pick r idx)
theorem pick_le (its : List Value) (lo hi st : Option Int) : (pickL its lo hi st).length ≤ its.length := by
  have := slicePick_size_le its.toArray lo hi st
  unfold slicePick at this
  rw [List.size_toArray, List.size_toArray] at this
  unfold pickL idxF
  have e : (fun i : Nat => its.toArray[i]?) = fun i : Nat => its[i]? := funext fun i => by simp
  rw [e] at this
  exact this
theorem slice_is (its : List Value) (lo hi st : Option Int) : slicePick its.toArray lo hi st = (pickL its lo hi st).toArray := by
  unfold slicePick pickL idxF
  rw [List.size_toArray]
  refine congrArg List.toArray (congrArg (fun g => List.filterMap g _) (funext fun i => ?_))
  simp
def tSl3 (K : PySem.W.Frag) (te : TE) (tl th ts : TO) : TE := fun σ H Q => te σ H fun x H1 => ∃ a, x = .ref a ∧ tl σ H1 fun lo H2 => th σ H2 fun hi H3 => ts σ H3 fun st H4 =>
  ∃ xs, SqL K H4 a xs ∧ st ≠ some 0 ∧ ∀ p, H4 p = none → Q (.ref p) (upd H4 p (.lst (pickL xs lo hi st)))
section
variable {X : Cx} {K : PySem.W.Frag}
theorem pe_slice3 {e es : Expr} {lo hi : Option Expr} {te : TE} {tl th ts : TO} {p2 pos : Pos} (hK : X.K = K) (he : PE X e te) (hl : PO X lo tl) (hu : PO X hi th) (hs : PO X (some es) ts) :
    PE X (.Subscript e (.Slice lo hi (some es) p2) pos) (tSl3 K te tl th ts) := by
  subst hK
  refine ⟨fun pins s σ H Q I h => ?_⟩
  refine Subscript_ (thn (he.run pins s σ H _ I h) fun v s1 ⟨x, H1, I1, r1, q1⟩ => ?_)
  obtain ⟨a, ex, q1⟩ := q1
  subst ex
  cases r1
  refine wpAny_Slice (thn (hl.run pins s1 σ H1 _ I1 q1) fun vl s2 ⟨l, H2, I2, pl, q2⟩ => thn (hu.run pins s2 σ H2 _ I2 q2) fun vu s3 ⟨u, H3, I3, pu, q3⟩ => ?_)
  refine thn (hs.run pins s3 σ H3 _ I3 q3) fun vs s4 ⟨st, H4, I4, ps, q4⟩ => ?_
  obtain ⟨xs, hx, h0, q⟩ := q4
  have I5 : Inv X pins σ H4 { s4 with heap := s4.heap.push { cls := .type "slice", data := .fields #[vl, vu, vs] } } := I4.kept (t' := s4.toks) fun b ob q => Heap.get?_push_of_some _ q
  obtain ⟨its, r, ht, hz⟩ := I5.list hx
  have hlen := r.length
  show wpAny (model X.prog X.w) X.A (subscriptTail e (.Slice lo hi (some es) p2) (.ref a) (.ref s4.heap.objs.size)) (EP X pins σ Q) X.xe { s4 with heap := s4.heap.push { cls := .type "slice", data := .fields #[vl, vu, vs] } }
  refine tail_any (ops := [.ref a, .ref s4.heap.objs.size]) ht.isList.typeIs (PySem.slot_list_getitem.lookup) ?_ (by with_unfolding_all rfl)
  refine wpAny_getItem_list_slice ht.isList (Heap.IsSliceOf.new _ vl vu vs) pl pu ps h0 ?_ (by rw [List.size_toArray]; omega)
  rw [slice_is]
  refine ⟨.ref _, _, I5.laid (t' := s4.toks) (o := .lst (pickL xs l u st)) (fun b ob q => Heap.get?_push_of_some _ q) (Nat.le_refl _) ?_, rfl, q _ (I5.hok.fresh (Nat.le_refl _))⟩
  have rp : Vals (pickL xs l u st) (pickL its l u st) := by
    unfold pickL
    rw [hlen]
    exact vals_pick r _
  exact ⟨by rw [rp.length]; have := pick_le its l u st; omega, _, 0, rp, Heap.get?_push_size _ rfl⟩
theorem el_sl3 {σ : L2.St} {H : Hp} {te : TE} {tl th ts : TO} {a : Addr} {xs : List V} {lo hi st : Option Int} (h : Ev te σ H (.ref a)) (hl : EvO tl σ H lo) (hu : EvO th σ H hi) (hs : EvO ts σ H st) (hx : SqL K H a xs) (h0 : st ≠ some 0) :
    EvL (tSl3 K te tl th ts) σ H (pickL xs lo hi st) := fun H1 e Q q =>
  h H1 e _ fun H2 e2 => ⟨a, rfl, hl H2 (e.trans e2) _ fun H3 e3 => hu H3 ((e.trans e2).trans e3) _ fun H4 e4 => hs H4 (((e.trans e2).trans e3).trans e4) _ fun H5 e5 =>
    ⟨xs, ex_l ((((e.trans e2).trans e3).trans e4).trans e5) hx, h0, fun p np => q p _ (fresh_back (((e2.trans e3).trans e4).trans e5) np) ((((e2.trans e3).trans e4).trans e5).trans (Ex.new np)) upd_same⟩⟩
/-! ### left %= made -/
def ipM : TIp := fun x y H Q => ∃ i j, x = .int i ∧ y = .int j ∧ j ≠ 0 ∧ Q (.int (i.fmod j)) H
theorem ip_modN : PIp X .Mod ipM := by
  intro pins s σ H x y v u Q I r1 r2 h
  obtain ⟨i, j, e1, e2, hj, q⟩ := h
  subst e1; subst e2
  obtain ⟨t, rfl⟩ := r1
  obtain ⟨t', rfl⟩ := r2
  exact imod_int hj ⟨.int _, H, I.tok _, ⟨_, rfl⟩, q⟩
end
/-! ### parameters told by name, in the other order -/
def rev3 {α : Type} : List α → List α → List α
  | [], [a, b, c] => [c, b, a]
  | _, _ => []
def rev4 {α : Type} : List α → List α → List α
  | [], [a, b, c, d] => [d, c, b, a]
  | _, _ => []
def rev5 {α : Type} : List α → List α → List α
  | [], [a, b, c, d, e] => [e, d, c, b, a]
  | _, _ => []
theorem rev3_len {α : Type} {us ws : List α} (h : (rev3 us ws).length = 3) : us = [] ∧ ∃ a b c, ws = [a, b, c] := by
  unfold rev3 at h
  split at h
  · exact ⟨rfl, _, _, _, rfl⟩
  · cases h
theorem rev4_len {α : Type} {us ws : List α} (h : (rev4 us ws).length = 4) : us = [] ∧ ∃ a b c d, ws = [a, b, c, d] := by
  unfold rev4 at h
  split at h
  · exact ⟨rfl, _, _, _, _, rfl⟩
  · cases h
theorem rev5_len {α : Type} {us ws : List α} (h : (rev5 us ws).length = 5) : us = [] ∧ ∃ a b c d e, ws = [a, b, c, d, e] := by
  unfold rev5 at h
  split at h
  · exact ⟨rfl, _, _, _, _, _, rfl⟩
  · cases h
theorem rev3_rel {vs : List V} {us : List Value} {zs : List V} {ws : List Value} (r1 : Vals vs us) (r2 : Vals zs ws) : Vals (rev3 vs zs) (rev3 us ws) := by
  cases r1 with
  | cons _ _ => cases r2 <;> exact .nil
  | nil =>
    cases r2 with
    | nil => exact .nil
    | cons a r => cases r with
      | nil => exact .nil
      | cons b r => cases r with
        | nil => exact .nil
        | cons c r => cases r with
          | nil => exact .cons c (.cons b (.cons a .nil))
          | cons _ _ => exact .nil
theorem rev4_rel {vs : List V} {us : List Value} {zs : List V} {ws : List Value} (r1 : Vals vs us) (r2 : Vals zs ws) : Vals (rev4 vs zs) (rev4 us ws) := by
  cases r1 with
  | cons _ _ => cases r2 <;> exact .nil
  | nil =>
    cases r2 with
    | nil => exact .nil
    | cons a r => cases r with
      | nil => exact .nil
      | cons b r => cases r with
        | nil => exact .nil
        | cons c r => cases r with
          | nil => exact .nil
          | cons d r => cases r with
            | nil => exact .cons d (.cons c (.cons b (.cons a .nil)))
            | cons _ _ => exact .nil
theorem rev5_rel {vs : List V} {us : List Value} {zs : List V} {ws : List Value} (r1 : Vals vs us) (r2 : Vals zs ws) : Vals (rev5 vs zs) (rev5 us ws) := by
  cases r1 with
  | cons _ _ => cases r2 <;> exact .nil
  | nil =>
    cases r2 with
    | nil => exact .nil
    | cons a r => cases r with
      | nil => exact .nil
      | cons b r => cases r with
        | nil => exact .nil
        | cons c r => cases r with
          | nil => exact .nil
          | cons d r => cases r with
            | nil => exact .nil
            | cons e r => cases r with
              | nil => exact .cons e (.cons d (.cons c (.cons b (.cons a .nil))))
              | cons _ _ => exact .nil
theorem rev3_binds {K : PySem.W.Frag} {fd : FuncData} {p1 p2 p3 : Str} (h : ∀ a b c : Value, bindArgs fd ⟨[], [(p3, a), (p2, b), (p1, c)]⟩ = pure [(p1, c), (p2, b), (p3, a)]) :
    KBinds K fd [p1, p2, p3] [p3, p2, p1] rev3 rev3 := by
  refine ⟨fun s us ws _ hl => ?_, rev3_rel⟩
  obtain ⟨rfl, a, b, c, rfl⟩ := rev3_len hl
  exact .of_eq (h a b c)
theorem rev4_binds {K : PySem.W.Frag} {fd : FuncData} {p1 p2 p3 p4 : Str} (h : ∀ a b c d : Value, bindArgs fd ⟨[], [(p4, a), (p3, b), (p2, c), (p1, d)]⟩ = pure [(p1, d), (p2, c), (p3, b), (p4, a)]) :
    KBinds K fd [p1, p2, p3, p4] [p4, p3, p2, p1] rev4 rev4 := by
  refine ⟨fun s us ws _ hl => ?_, rev4_rel⟩
  obtain ⟨rfl, a, b, c, d, rfl⟩ := rev4_len hl
  exact .of_eq (h a b c d)
/-- a def with defaults, all of its parameters told by name -/
theorem rev5_bindsD {K : PySem.W.Frag} {x qual : Str} {params : Arguments} {body : List Stmt} {scope : Scope} {dvs : List V} {kws : List (Str × V)} {f : Addr} {fd : FuncData} {p1 p2 p3 p4 p5 : Str} (F : FunD K x qual params body scope dvs kws f fd) (hd : dvs ≠ [])
    (h : ∀ (T : Addr) (kV doc pm : Value) (an : Option Addr) (cdv ct : Value) (a b c d e : Value) (its : List Value), its.length = dvs.length →
      ∃ k, bindArgs (PySem.W.fnOf x qual params body scope (.ref T) kV doc pm an cdv ct) ⟨[], [(p5, a), (p4, b), (p3, c), (p2, d), (p1, e)]⟩ = seqItems? (.ref T) >>= k ∧ k (some its.toArray) = pure [(p1, e), (p2, d), (p3, c), (p4, b), (p5, a)]) :
    KBinds K fd [p1, p2, p3, p4, p5] [p5, p4, p3, p2, p1] rev5 rev5 := by
  obtain ⟨oc, od, dV, kV, doc, pm, an, cdv, ct, osl, rfl, lk, hcd, hD, hK⟩ := F.ex
  rcases hD with ⟨e, _⟩ | ⟨_, T, o, its, m, rfl, lT, oT, rT⟩
  · exact absurd e hd
  · refine ⟨fun s us ws X hl => ?_, rev5_rel⟩
    obtain ⟨rfl, a, b, c, d, e, rfl⟩ := rev5_len hl
    obtain ⟨k, e1, e2⟩ := h T kV doc pm an cdv ct a b c d e its rT.length.symm
    refine BindsTo.of_looks fun M => ?_
    show PySem.W.Looks M s.heap (bindArgs _ ⟨[], [(p5, a), (p4, b), (p3, c), (p2, d), (p1, e)]⟩) _
    rw [e1]
    exact looks_items X lT oT (.of_pure e2)
/-- every parameter written, though there are defaults -/
theorem bindsD0 {K : PySem.W.Frag} {x qual : Str} {params : Arguments} {body : List Stmt} {scope : Scope} {dvs : List V} {kws : List (Str × V)} {f : Addr} {fd : FuncData} {ps : List Str} (F : FunD K x qual params body scope dvs kws f fd) (hd : dvs ≠ [])
    (h : ∀ (T : Addr) (kV doc pm : Value) (an : Option Addr) (cdv ct : Value) (us its : List Value), us.length = ps.length → its.length = dvs.length →
      ∃ k, bindArgs (PySem.W.fnOf x qual params body scope (.ref T) kV doc pm an cdv ct) ⟨us, []⟩ = seqItems? (.ref T) >>= k ∧ k (some its.toArray) = pure (ps.zip us)) : Binds K fd ps [] := by
  obtain ⟨ds, r, b⟩ := F.binds1 (ps := ps) ps.length dvs.length hd (by rw [Nat.sub_self]; rfl) fun T kV doc pm an cdv ct us its h1 h2 => by
    obtain ⟨k, e1, e2⟩ := h T kV doc pm an cdv ct us its h1 h2
    exact ⟨k, e1, by rw [e2, ← h2, List.drop_length, List.append_nil]⟩
  rw [List.drop_length] at r
  cases r
  exact b
end Vf

/-! A new list of new lists, all different, whose rows are changed. -/
namespace Vf
open PySem PySem.Spec PyProof.Rows L2 Evl
def LLN (H H2 : Hp) (D : Addr) (ls : List (List V)) : Prop :=
  ∃ ps : List Addr, H2 D = some (.lst (ps.map V.ref)) ∧ ps.length = ls.length ∧ D ∉ ps ∧ ps.Nodup ∧ ∀ (i : Nat) (p : Addr) (l : List V), ps[i]? = some p → ls[i]? = some l → H p = none ∧ H2 p = some (.lst l)
theorem LLN.on {H H2 H3 : Hp} {D : Addr} {ls : List (List V)} (h : LLN H H2 D ls) (e : Ex H2 H3) : LLN H H3 D ls := by
  obtain ⟨ps, a, b, c, n, d⟩ := h
  exact ⟨ps, e _ _ a, b, c, n, fun i p l x y => ⟨(d i p l x y).1, e _ _ (d i p l x y).2⟩⟩
theorem LLN.back {H H1 H2 : Hp} {D : Addr} {ls : List (List V)} (e : Ex H H1) (h : LLN H1 H2 D ls) : LLN H H2 D ls := by
  obtain ⟨ps, a, b, c, n, d⟩ := h
  exact ⟨ps, a, b, c, n, fun i p l x y => ⟨fresh_back e (d i p l x y).1, (d i p l x y).2⟩⟩
theorem LLN.row {H H2 : Hp} {D : Addr} {ls : List (List V)} (h : LLN H H2 D ls) {i : Nat} {row : List V} (hi : ls[i]? = some row) :
    ∃ (ps : List Addr) (p : Addr), H2 D = some (.lst (ps.map V.ref)) ∧ ps[i]? = some p ∧ H p = none ∧ H2 p = some (.lst row) := by
  obtain ⟨ps, a, b, c, n, d⟩ := h
  have hl : i < ps.length := by rw [b]; exact (List.getElem?_eq_some_iff.mp hi).1
  exact ⟨ps, ps[i], a, List.getElem?_eq_getElem hl, (d i _ _ (List.getElem?_eq_getElem hl) hi).1, (d i _ _ (List.getElem?_eq_getElem hl) hi).2⟩
theorem LLN.put {H H2 : Hp} {D : Addr} {ls : List (List V)} (h : LLN H H2 D ls) {i : Nat} {row : List V} (hi : ls[i]? = some row) :
    ∃ (ps : List Addr) (p : Addr), H2 D = some (.lst (ps.map V.ref)) ∧ ps[i]? = some p ∧ H p = none ∧ H2 p = some (.lst row) ∧ ∀ row', LLN H (upd H2 p (.lst row')) D (ls.set i row') := by
  obtain ⟨ps, a, b, c, n, d⟩ := h
  have hl : i < ps.length := by rw [b]; exact (List.getElem?_eq_some_iff.mp hi).1
  have hp : ps[i]? = some ps[i] := List.getElem?_eq_getElem hl
  obtain ⟨d1, d2⟩ := d i _ _ hp hi
  refine ⟨ps, ps[i], a, hp, d1, d2, fun row' => ⟨ps, ?_, by rw [List.length_set, b], c, n, fun k q l hk hl' => ?_⟩⟩
  · rw [upd_ne (fun z : D = ps[i] => c (by rw [z]; exact List.getElem_mem hl))]
    exact a
  · by_cases e : k = i
    · subst e
      rw [hp] at hk
      cases hk
      rw [List.getElem?_set_self (by rw [← b]; exact hl)] at hl'
      cases hl'
      exact ⟨d1, upd_same⟩
    · rw [List.getElem?_set_ne (fun z => e z.symm)] at hl'
      obtain ⟨x, y⟩ := d k q l hk hl'
      refine ⟨x, ?_⟩
      rw [upd_ne]
      · exact y
      · intro z
        obtain ⟨hk1, hk2⟩ := List.getElem?_eq_some_iff.mp hk
        exact e ((List.getElem_inj n).mp (hk2.trans z))
section
variable {K : PySem.W.Frag} {σ : L2.St} {H H' : Hp} {ta : TA} {te : TE} {t : TT}
def RwN (H : Hp) (L : Nat → List V) (Dl : Addr) (i : Nat) (H' : Hp) : Prop := H Dl = none ∧ Ex H H' ∧ LLN H H' Dl ((List.range i).map L)
theorem rwn_turn {H H' : Hp} {L : Nat → List V} {Dl : Addr} {i : Nat} {σ2 : L2.St} (p : RwN H L Dl i H') (hi : i < 50000) (he : EvL te σ2 H (L i)) :
    te σ2 H' fun y H4 => ∃ acc, H4 Dl = some (.lst acc) ∧ acc.length < sizeLine ∧ RwN H L Dl (i + 1) (upd H4 Dl (.lst (acc ++ [y]))) := by
  obtain ⟨p1, p2, p3⟩ := p
  refine he H' p2 _ fun q H4 nq e4 hq => ?_
  obtain ⟨_, a3, _⟩ := id p3
  obtain ⟨ps, a, b, c, n, d⟩ := p3
  have a4 := e4 _ _ a
  have neD : q ≠ Dl := fun z => by
    rw [← z, nq] at a
    cases a
  have len : ps.length = i := by rw [b, List.length_map, List.length_range]
  have nin : q ∉ ps := fun z => by
    obtain ⟨k, hk, e⟩ := List.getElem_of_mem z
    have := (d k q (((List.range i).map L)[k]'(by rw [← b]; exact hk)) (by rw [List.getElem?_eq_getElem hk, e]) (List.getElem?_eq_getElem _)).2
    rw [nq] at this
    cases this
  refine ⟨ps.map V.ref, a4, sz_lt (by rw [List.length_map]; omega), p1, Ex.mut (p2.trans e4) p1, ps ++ [q], ?_, ?_, ?_, ?_, ?_⟩
  · rw [upd_same, List.map_append]
    rfl
  · rw [List.range_succ, List.map_append, List.length_append, List.length_append, b]
    rfl
  · intro z
    rcases List.mem_append.mp z with z | z
    · exact c z
    · exact neD (List.mem_singleton.mp z).symm
  · refine List.nodup_append.mpr ⟨n, by simp, fun x hx y hy e => ?_⟩
    rw [List.mem_singleton.mp hy] at e
    exact nin (e ▸ hx)
  · intro k pp l hk hl
    rw [List.range_succ, List.map_append] at hl
    by_cases hk2 : k < ps.length
    · rw [List.getElem?_append_left hk2] at hk
      rw [List.getElem?_append_left (by rw [← b]; exact hk2)] at hl
      obtain ⟨d1, d2⟩ := d k pp l hk hl
      exact ⟨d1, by rw [upd_ne (show pp ≠ Dl from fun z => c (by rw [← z]; exact List.mem_of_getElem? hk))]; exact e4 _ _ d2⟩
    · have ek : k = ps.length := by
        have z := (List.getElem?_eq_some_iff.mp hk).1
        rw [List.length_append, List.length_singleton] at z
        omega
      rw [ek, List.getElem?_append_right (Nat.le_refl _), Nat.sub_self] at hk
      rw [ek, b, List.getElem?_append_right (Nat.le_refl _), Nat.sub_self] at hl
      cases hk
      cases hl
      exact ⟨fresh_back p2 nq, by rw [upd_ne neD]; exact hq⟩
def EvLN (te : TE) (σ : L2.St) (H : Hp) (ls : List (List V)) : Prop := ∀ H1, Ex H H1 → ∀ Q : VK, (∀ D H2, H1 D = none → Ex H1 H2 → LLN H1 H2 D ls → Q (.ref D) H2) → te σ H1 Q
theorem eln_lcR1 {j : Nat} {vs : List Nat} {n : Int} (L : Nat → List V) (h : EvA ta σ H [.int n]) (hn : 0 ≤ n ∧ n ≤ 40000)
    (hw : ∀ x, wipe ((wipe σ vs).set j (some x)) vs = wipe σ vs)
    (he : ∀ (i : Nat) H1, Ex H H1 → (i : Int) < n → EvL te ((wipe σ vs).set j (some (.int (i : Int)))) H1 (L i)) :
    EvLN (tLc (iRng1 ta) (gName j) tYes te vs) σ H ((List.range n.toNat).map L) := by
  intro H0 e Q q
  refine h H0 e _ fun H1 e1 => ⟨n, rfl, by omega, by omega, fun Dl hD => ?_⟩
  refine lc_range (lo := 0) (n := n.toNat) (RwN H1 L Dl) ⟨hD, Ex.new hD, [], upd_same, rfl, (by simp), List.nodup_nil, (fun i p l x => by simp at x)⟩ (fun i H' hi p => ?_)
    fun H' p => q Dl H' (fresh_back e1 p.1) (e1.trans p.2.1) (p.2.2.back e1)
  have e0 : (0 : Int) + (i : Int) = (i : Int) := Int.zero_add _
  show wipe ((wipe σ vs).set j (some (.int ((0 : Int) + (i : Int))))) vs = wipe σ vs ∧ tYes ((wipe σ vs).set j (some (.int ((0 : Int) + (i : Int))))) H' fun b H3 => if b = true then te ((wipe σ vs).set j (some (.int ((0 : Int) + (i : Int))))) H3 fun y H4 => ∃ acc, H4 Dl = some (.lst acc) ∧ acc.length < sizeLine ∧ RwN H1 L Dl (i + 1) (upd H4 Dl (.lst (acc ++ [y]))) else RwN H1 L Dl (i + 1) H3
  rw [e0]
  exact ⟨hw _, rwn_turn p (by omega) (he i H1 (e.trans e1) (by omega))⟩
end
end Vf
namespace Vf
open PySem PySem.Spec PyProof.Rows L2 Evl
/-! ### a new list of new tuples; a list many times over -/
section
variable {K : PySem.W.Frag} {σ : L2.St} {H H' : Hp} {ta : TA} {te tb tl : TE} {t : TT}
def TLAt (H2 : Hp) (D : Addr) (us : List (List V)) : Prop := ∃ ps : List Addr, H2 D = some (.lst (ps.map V.ref)) ∧ ps.length = us.length ∧ ∀ (i : Nat) (p : Addr) (u : List V), ps[i]? = some p → us[i]? = some u → H2 p = some (.tup u)
theorem TLAt.on {H2 H3 : Hp} {D : Addr} {us : List (List V)} (h : TLAt H2 D us) (e : Ex H2 H3) : TLAt H3 D us := by
  obtain ⟨ps, a, b, c⟩ := h
  exact ⟨ps, e _ _ a, b, fun i p l x y => e _ _ (c i p l x y)⟩
def RwT (H : Hp) (L : Nat → List V) (Dl : Addr) (i : Nat) (H' : Hp) : Prop := H Dl = none ∧ Ex H H' ∧ TLAt H' Dl ((List.range i).map L)
theorem rwt_turn {H H' : Hp} {L : Nat → List V} {Dl : Addr} {i : Nat} {σ2 : L2.St} (p : RwT H L Dl i H') (hi : i < 50000) (he : EvU te σ2 H (L i)) :
    te σ2 H' fun y H4 => ∃ acc, H4 Dl = some (.lst acc) ∧ acc.length < sizeLine ∧ RwT H L Dl (i + 1) (upd H4 Dl (.lst (acc ++ [y]))) := by
  obtain ⟨p1, p2, p3⟩ := p
  refine he H' p2 _ fun q H4 nq e4 hq => ?_
  obtain ⟨ps, a, b, d⟩ := p3
  have a4 := e4 _ _ a
  have neD : q ≠ Dl := fun z => by
    rw [← z, nq] at a
    cases a
  have len : ps.length = i := by rw [b, List.length_map, List.length_range]
  refine ⟨ps.map V.ref, a4, sz_lt (by rw [List.length_map]; omega), p1, Ex.mut (p2.trans e4) p1, ps ++ [q], ?_, ?_, ?_⟩
  · rw [upd_same, List.map_append]
    rfl
  · rw [List.range_succ, List.map_append, List.length_append, List.length_append, b]
    rfl
  · intro k pp l hk hl
    rw [List.range_succ, List.map_append] at hl
    by_cases hk2 : k < ps.length
    · rw [List.getElem?_append_left hk2] at hk
      rw [List.getElem?_append_left (by rw [← b]; exact hk2)] at hl
      have d2 := d k pp l hk hl
      have nD : pp ≠ Dl := fun z => by
        rw [z, a] at d2
        cases d2
      rw [upd_ne nD]
      exact e4 _ _ d2
    · have ek : k = ps.length := by
        have z := (List.getElem?_eq_some_iff.mp hk).1
        rw [List.length_append, List.length_singleton] at z
        omega
      rw [ek, List.getElem?_append_right (Nat.le_refl _), Nat.sub_self] at hk
      rw [ek, b, List.getElem?_append_right (Nat.le_refl _), Nat.sub_self] at hl
      cases hk
      cases hl
      rw [upd_ne neD]
      exact hq
def EvLT (te : TE) (σ : L2.St) (H : Hp) (us : List (List V)) : Prop := ∀ H1, Ex H H1 → ∀ Q : VK, (∀ D H2, H1 D = none → Ex H1 H2 → TLAt H2 D us → Q (.ref D) H2) → te σ H1 Q
theorem elt_lcL {a : Addr} {xs : List V} {j : Nat} {vs : List Nat} (L : Nat → List V) (h : Ev tl σ H (.ref a)) (hx : SqL K H a xs) (hz : xs.length ≤ 40000) (hw : ∀ x, wipe ((wipe σ vs).set j (some x)) vs = wipe σ vs)
    (he : ∀ (i : Nat) (x : V) H1, Ex H H1 → xs[i]? = some x → EvU te ((wipe σ vs).set j (some x)) H1 (L i)) :
    EvLT (tLc (iList K tl) (gName j) tYes te vs) σ H ((List.range xs.length).map L) := by
  intro H0 e Q q
  refine h H0 e _ fun H1 e1 => ⟨a, rfl, ⟨xs, ex_l (e.trans e1) hx⟩, fun Dl hD => ?_⟩
  refine lc_list (xs := xs) (RwT H1 L Dl) ⟨hD, Ex.new hD, [], upd_same, rfl, (fun i p l x => by simp at x)⟩ (fun i H' _ p => ex_l ((e.trans e1).trans p.2.1) hx) (fun i x H' hi p => ⟨hw x, ?_⟩)
    fun H' p => q Dl H' (fresh_back e1 p.1) (e1.trans p.2.1) p.2.2
  have hlt := (List.getElem?_eq_some_iff.mp hi).1
  show tYes ((wipe σ vs).set j (some x)) H' fun b H3 => if b = true then te ((wipe σ vs).set j (some x)) H3 fun y H4 => ∃ acc, H4 Dl = some (.lst acc) ∧ acc.length < sizeLine ∧ RwT H1 L Dl (i + 1) (upd H4 Dl (.lst (acc ++ [y]))) else RwT H1 L Dl (i + 1) H3
  exact rwt_turn p (by omega) (he i x H1 (e.trans e1) hi)
theorem el_rep {ta' : TE} {xs : List V} {k : Int} (h : EvL ta' σ H xs) (hk : Ev tb σ H (.int k)) (h0 : -100000 ≤ k ∧ k ≤ 100000) (hz : xs.length * k.toNat ≤ 100000) : EvL (tOp rRep ta' tb) σ H (List.replicate k.toNat xs).flatten := fun H1 e Q q =>
  h H1 e _ fun p H2 np e2 hp => hk H2 (e.trans e2) _ fun H3 e3 => ⟨p, k, xs, rfl, rfl, e3 _ _ hp, by omega, by omega, sz_of hz, fun p2 np2 => q p2 _ (fresh_back (e2.trans e3) np2) ((e2.trans e3).trans (Ex.new np2)) upd_same⟩
theorem q_asgLN {D : Ends} {tz : TS} {i : Nat} {ls : List (List V)} (h : EvLN te σ H ls) (k : ∀ A H1, H A = none → Ex H H1 → LLN H H1 A ls → tz D (σ.set i (some (.ref A))) H1) : tSeq (tAsg te (gName i)) tz D σ H :=
  h H (Ex.refl H) _ fun A H1 nA e1 hA => k A H1 nA e1 hA
theorem s_retLT {D : Ends} {us : List (List V)} (h : EvLT te σ H us) (k : ∀ A H1, H A = none → Ex H H1 → TLAt H1 A us → D.rt (.ref A) H1) : tRet te D σ H :=
  h H (Ex.refl H) _ fun A H1 nA e1 hA => k A H1 nA e1 hA
end
end Vf

/-! Lists of whole numbers: == and != as data. -/
namespace Vf
open PySem PySem.Spec PyProof.Rows L2 Evl
theorem eqv_ints : ∀ (a b : List Int), PyData.eqv (dInts a) (dInts b) = decide (a = b) := by
  have key : ∀ a b : List Int, PyData.eqvAll (a.map .int) (b.map .int) = decide (a = b) := by
    intro a
    induction a with
    | nil =>
      intro b
      cases b with
      | nil => rfl
      | cons y b => exact (decide_eq_false (by simp)).symm
    | cons x a ih =>
      intro b
      cases b with
      | nil => exact (decide_eq_false (by simp)).symm
      | cons y b =>
        show ((x == y) && PyData.eqvAll (a.map .int) (b.map .int)) = _
        rw [ih b, Bool.eq_iff_iff]
        simp
  exact key
theorem shaped_ints (a : List Int) : SeqAt.shaped (dInts a) = true := by
  have key : ∀ a : List Int, PyData.canLayAll0 (a.map .int) = true ∧ PyData.depthAll (a.map .int) = 0 := by
    intro a
    induction a with
    | nil => exact ⟨rfl, rfl⟩
    | cons x a ih =>
      refine ⟨?_, ?_⟩
      · show (PyData.canLay0 (.int x) && PyData.canLayAll0 (a.map .int)) = true
        rw [ih.1]
        rfl
      · show max (PyData.depth (.int x)) (PyData.depthAll (a.map .int)) = 0
        rw [ih.2]
        rfl
  refine Bool.and_eq_true_iff.mpr ⟨(key a).1, decide_eq_true ?_⟩
  show PyData.depthAll (a.map .int) + 1 ≤ 64
  rw [(key a).2]
  decide
section
variable {K : PySem.W.Frag} {H : Hp} {p q : Addr} {a b : List Int} {Q : VK}
theorem eq_ints (hp : SqL K H p (a.map V.int)) (hq : SqL K H q (b.map V.int)) (h : Q (.bl (decide (a = b))) H) : rEqD K (.ref p) (.ref q) H Q :=
  ⟨dInts a, dInts b, dp_ints hp, dp_ints hq, shaped_ints a, shaped_ints b, by rw [eqv_ints]; exact h⟩
theorem ne_ints (hp : SqL K H p (a.map V.int)) (hq : SqL K H q (b.map V.int)) (h : Q (.bl (!decide (a = b))) H) : rNeD K (.ref p) (.ref q) H Q :=
  ⟨dInts a, dInts b, dp_ints hp, dp_ints hq, shaped_ints a, shaped_ints b, by rw [eqv_ints]; exact h⟩
end
end Vf

/-! Rounds: where the people sit (places), calls, rounds, when all sit as at first. -/
namespace MR
abbrev g0 (l : List Int) (i : Int) : Int := l.getD i.toNat 0
def nxt (n c : Int) : Int := c % n + 1
def stepP (td : Int → Int → Bool) (pl : List Int) (c : Int × Int) : List Int :=
  if td (g0 pl c.1) (g0 pl c.2) = true then pl else (pl.set c.1.toNat (g0 pl c.2)).set c.2.toNat (g0 pl c.1)
def runP (td : Int → Int → Bool) (pl : List Int) (cs : List (Int × Int)) : List Int := cs.foldl (stepP td) pl
def pairsF (n : Int) (cs : List Int) : List (Int × Int) := cs.map fun c => (c, nxt n c)
def tdF (ts : List (Int × Int)) (a b : Int) : Bool := decide ((a, b) ∈ ts ∨ (b, a) ∈ ts)
theorem tdF_sym (ts : List (Int × Int)) (a b : Int) : tdF ts a b = tdF ts b a := by
  unfold tdF
  by_cases h : (a, b) ∈ ts ∨ (b, a) ∈ ts
  · rw [decide_eq_true h, decide_eq_true h.symm]
  · rw [decide_eq_false h, decide_eq_false fun z => h z.symm]
/-! ### lists of so many numbers, each once -/
theorem nodup_len : ∀ (N : Nat) (l : List Nat), l.Nodup → (∀ x ∈ l, x < N) → l.length ≤ N
  | 0, l, _, h => by
    cases l with
    | nil => exact Nat.le_refl _
    | cons x l => exact absurd (h x List.mem_cons_self) (Nat.not_lt_zero _)
  | N + 1, l, nd, h => by
    have e := nodup_len N (l.filter fun x => decide (x ≠ N)) (nd.filter _) fun x hx => by
      have a := List.mem_filter.mp hx
      have b := h x a.1
      have c := of_decide_eq_true a.2
      omega
    have f : l.length ≤ (l.filter fun x => decide (x ≠ N)).length + 1 := by
      clear e h
      induction l with
      | nil => exact Nat.zero_le _
      | cons x l ih =>
        have nd := List.nodup_cons.mp nd
        by_cases c : x = N
        · rw [List.filter_cons_of_neg (by simp [c])]
          have e : l.filter (fun x => decide (x ≠ N)) = l := List.filter_eq_self.mpr fun y hy => decide_eq_true fun e => nd.1 (by rw [c, ← e]; exact hy)
          rw [e]
          exact Nat.le_refl _
        · rw [List.filter_cons_of_pos (by simp [c])]
          have := ih nd.2
          simp only [List.length_cons]
          omega
    omega
theorem nodup_all {N : Nat} {l : List Nat} (nd : l.Nodup) (h : ∀ x ∈ l, x < N) (hl : l.length = N) : ∀ i, i < N → i ∈ l := by
  intro i hi
  refine Decidable.byContradiction fun c => ?_
  have := nodup_len N (i :: l) (List.nodup_cons.mpr ⟨c, nd⟩) fun x hx => by
    rcases List.mem_cons.mp hx with rfl | hx
    · exact hi
    · exact h x hx
  rw [List.length_cons] at this
  omega
/-- a row of the numbers 0 .. N - 1, each once -/
structure Row (N : Nat) (r : List Int) : Prop where
  len : r.length = N
  lo : ∀ x ∈ r, 0 ≤ x ∧ x < N
  nd : r.Nodup
theorem Row.nat {N : Nat} {r : List Int} (h : Row N r) : (r.map Int.toNat).Nodup ∧ ∀ x ∈ r.map Int.toNat, x < N := by
  constructor
  · have nd := h.nd
    have lo := h.lo
    clear h
    induction r with
    | nil => exact List.nodup_nil
    | cons x r ih =>
      have nd := List.nodup_cons.mp nd
      refine List.nodup_cons.mpr ⟨fun z => ?_, ih nd.2 fun y hy => lo y (List.mem_cons_of_mem _ hy)⟩
      obtain ⟨y, hy, e⟩ := List.mem_map.mp z
      have a := lo x List.mem_cons_self
      have b := lo y (List.mem_cons_of_mem _ hy)
      have : y = x := by omega
      exact nd.1 (this ▸ hy)
  · intro x hx
    obtain ⟨y, hy, rfl⟩ := List.mem_map.mp hx
    have := h.lo y hy
    omega
theorem Row.all {N : Nat} {r : List Int} (h : Row N r) {i : Int} (h0 : 0 ≤ i) (h1 : i < N) : i ∈ r := by
  have := nodup_all h.nat.1 h.nat.2 (by rw [List.length_map, h.len]) i.toNat (by omega)
  obtain ⟨y, hy, e⟩ := List.mem_map.mp this
  have := h.lo y hy
  have : y = i := by omega
  exact this ▸ hy
theorem Row.at_ {N : Nat} {r : List Int} (h : Row N r) {i : Nat} (hi : i < N) : ∃ x, r[i]? = some x ∧ 0 ≤ x ∧ x < N := by
  have : i < r.length := by rw [h.len]; exact hi
  exact ⟨_, List.getElem?_eq_getElem this, h.lo _ (List.getElem_mem this)⟩
theorem Row.inj {N : Nat} {r : List Int} (h : Row N r) {i j : Nat} {x : Int} (a : r[i]? = some x) (b : r[j]? = some x) : i = j := by
  obtain ⟨h1, e1⟩ := List.getElem?_eq_some_iff.mp a
  obtain ⟨h2, e2⟩ := List.getElem?_eq_some_iff.mp b
  have z := List.pairwise_iff_getElem.mp (List.nodup_iff_pairwise_ne.mp h.nd)
  refine Decidable.byContradiction fun c => ?_
  rcases Nat.lt_or_gt_of_ne c with d | d
  · exact z i j h1 h2 d (e1.trans e2.symm)
  · exact z j i h2 h1 d (e2.trans e1.symm)
/-! ### turned about -/
def turnS (r f : List Int) (k : Nat) : List Int := (List.range k).foldl (fun f i => f.set (r.getD i 0).toNat (i : Int)) f
def turnF (r : List Int) : List Int := turnS r r r.length
theorem turnS_succ (r f : List Int) (k : Nat) : turnS r f (k + 1) = (turnS r f k).set (r.getD k 0).toNat (k : Int) := by
  unfold turnS
  rw [List.range_succ, List.foldl_append]
  rfl
theorem turnS_len (r f : List Int) : ∀ k, (turnS r f k).length = f.length
  | 0 => rfl
  | k + 1 => by rw [turnS_succ, List.length_set, turnS_len r f k]
theorem turnS_at {N : Nat} {r f : List Int} (h : Row N r) (hf : f.length = N) : ∀ k, k ≤ N → ∀ i x, i < k → r[i]? = some x → (turnS r f k)[x.toNat]? = some (i : Int)
  | 0, _, i, x, hi, _ => absurd hi (Nat.not_lt_zero _)
  | k + 1, hk, i, x, hi, hx => by
    rw [turnS_succ]
    obtain ⟨y, hy, y0, y1⟩ := h.at_ (i := k) (by omega)
    rw [List.getD_eq_getElem?_getD, hy, Option.getD_some]
    have lx := h.lo x (List.mem_of_getElem? hx)
    by_cases c : i = k
    · subst c
      have : x = y := Option.some.inj (hx.symm.trans hy)
      subst this
      rw [List.getElem?_set_self (by rw [turnS_len, hf]; omega)]
    · rw [List.getElem?_set_ne]
      · exact turnS_at h hf k (by omega) i x (by omega) hx
      · intro e
        have : x = y := by omega
        subst this
        exact c (h.inj hx hy)
theorem turn_at {N : Nat} {r : List Int} (h : Row N r) {i : Nat} {x : Int} (hx : r[i]? = some x) : (turnF r)[x.toNat]? = some (i : Int) := by
  have : i < N := by rw [← h.len]; exact (List.getElem?_eq_some_iff.mp hx).1
  unfold turnF
  rw [h.len]
  exact turnS_at h h.len N (Nat.le_refl _) i x this hx
theorem turn_len (r : List Int) : (turnF r).length = r.length := turnS_len r r _
theorem turn_row {N : Nat} {r : List Int} (h : Row N r) : Row N (turnF r) := by
  have key : ∀ j, j < N → ∃ i : Nat, i < N ∧ (turnF r)[j]? = some (i : Int) ∧ r[i]? = some (j : Int) := by
    intro j hj
    obtain ⟨i, hi, e⟩ := List.mem_iff_getElem.mp (h.all (i := (j : Int)) (by omega) (by omega))
    have hr : r[i]? = some (j : Int) := by rw [List.getElem?_eq_getElem hi, e]
    exact ⟨i, by rw [← h.len]; exact hi, turn_at h hr, hr⟩
  refine ⟨by rw [turn_len, h.len], fun x hx => ?_, ?_⟩
  · obtain ⟨j, hj, e⟩ := List.mem_iff_getElem.mp hx
    rw [turn_len, h.len] at hj
    obtain ⟨i, hi, e2, _⟩ := key j hj
    rw [List.getElem?_eq_getElem (by rw [turn_len, h.len]; exact hj), e] at e2
    have := Option.some.inj e2
    omega
  · rw [List.nodup_iff_pairwise_ne, List.pairwise_iff_getElem]
    intro i j hi hj hij e
    rw [turn_len, h.len] at hi hj
    obtain ⟨a, _, a2, a3⟩ := key i hi
    obtain ⟨b, _, b2, b3⟩ := key j hj
    rw [List.getElem?_eq_getElem (by rw [turn_len, h.len]; exact hi)] at a2
    rw [List.getElem?_eq_getElem (by rw [turn_len, h.len]; exact hj)] at b2
    have e1 := Option.some.inj a2
    have e2 := Option.some.inj b2
    have : a = b := by omega
    subst this
    have := Option.some.inj (a3.symm.trans b3)
    omega
theorem turn_turn {N : Nat} {r : List Int} (h : Row N r) : turnF (turnF r) = r := by
  refine List.ext_getElem? fun i => ?_
  by_cases hi : i < N
  · obtain ⟨x, hx, x0, x1⟩ := h.at_ hi
    have := turn_at (turn_row h) (turn_at h hx)
    rw [Int.toNat_natCast] at this
    rw [this, hx]
    exact congrArg some (by omega)
  · rw [List.getElem?_eq_none (by rw [turn_len, turn_len, h.len]; omega), List.getElem?_eq_none (by rw [h.len]; omega)]
/-! ### standings -/
structure Stn (n : Nat) (s : List Int) : Prop where
  len : s.length = n
  lo : ∀ x ∈ s, 1 ≤ x ∧ x ≤ n
  nd : s.Nodup
def plOf (s : List Int) : List Int := turnF (0 :: s)
def stOf (p : List Int) : List Int := (turnF p).tail
/-- places: the seat of each person, at index 0 the number 0 -/
structure Plc (n : Nat) (p : List Int) : Prop where
  row : Row (n + 1) p
  zero : p[0]? = some 0
theorem Stn.row {n : Nat} {s : List Int} (h : Stn n s) : Row (n + 1) (0 :: s) := by
  refine ⟨by rw [List.length_cons, h.len], fun x hx => ?_, List.nodup_cons.mpr ⟨fun z => ?_, h.nd⟩⟩
  · rcases List.mem_cons.mp hx with rfl | hx
    · omega
    · have := h.lo x hx
      omega
  · have := h.lo 0 z
    omega
theorem Stn.plc {n : Nat} {s : List Int} (h : Stn n s) : Plc n (plOf s) := ⟨turn_row h.row, turn_at h.row (i := 0) (x := 0) rfl⟩
theorem cons_tail {l : List Int} (h : l[0]? = some 0) : l = 0 :: l.tail := by
  cases l with
  | nil => cases h
  | cons x l => rw [List.getElem?_cons_zero] at h; rw [Option.some.inj h]; rfl
theorem Plc.turn {n : Nat} {p : List Int} (h : Plc n p) : turnF p = 0 :: stOf p := cons_tail (turn_at h.row h.zero)
theorem Plc.stn {n : Nat} {p : List Int} (h : Plc n p) : Stn n (stOf p) := by
  have r := turn_row h.row
  rw [h.turn] at r
  have nd := List.nodup_cons.mp r.nd
  refine ⟨by have := r.len; rw [List.length_cons] at this; omega, fun x hx => ?_, nd.2⟩
  have a := r.lo x (List.mem_cons_of_mem _ hx)
  have : x ≠ 0 := fun e => nd.1 (e ▸ hx)
  omega
theorem Plc.back {n : Nat} {p : List Int} (h : Plc n p) : plOf (stOf p) = p := by
  unfold plOf
  rw [← h.turn, turn_turn h.row]
theorem Stn.back {n : Nat} {s : List Int} (h : Stn n s) : stOf (plOf s) = s := by
  unfold stOf plOf
  rw [turn_turn h.row]
  rfl
theorem Plc.of {n : Nat} {p : List Int} (h : Plc n p) {i : Int} (h0 : 1 ≤ i) (h1 : i ≤ n) : 1 ≤ g0 p i ∧ g0 p i ≤ n ∧ p[i.toNat]? = some (g0 p i) := by
  obtain ⟨x, hx, x0, x1⟩ := h.row.at_ (i := i.toNat) (by omega)
  have e : g0 p i = x := by unfold g0; rw [List.getD_eq_getElem?_getD, hx]; rfl
  rw [e]
  refine ⟨?_, by omega, hx⟩
  have : x ≠ 0 := fun z => by
    have := h.row.inj (hx.trans (by rw [z])) h.zero
    omega
  omega
theorem Plc.inj {n : Nat} {p : List Int} (h : Plc n p) {i j : Int} (h0 : 1 ≤ i) (h1 : i ≤ n) (j0 : 1 ≤ j) (j1 : j ≤ n) (e : g0 p i = g0 p j) : i = j := by
  have a := (h.of h0 h1).2.2
  have b := (h.of j0 j1).2.2
  rw [e] at a
  have := h.row.inj a b
  omega
/-! ### calls -/
def CallOk (n : Nat) (c : Int × Int) : Prop := (1 ≤ c.1 ∧ c.1 ≤ n) ∧ (1 ≤ c.2 ∧ c.2 ≤ n) ∧ c.1 ≠ c.2
theorem g0_set {l : List Int} {i j : Nat} {v : Int} (hi : i < l.length) : (l.set i v).getD j 0 = if j = i then v else l.getD j 0 := by
  rw [List.getD_eq_getElem?_getD, List.getD_eq_getElem?_getD]
  by_cases c : j = i
  · subst c
    rw [if_pos rfl, List.getElem?_set_self hi]
    rfl
  · rw [if_neg c, List.getElem?_set_ne (fun z => c z.symm)]
theorem plc_ext {n : Nat} {p q : List Int} (hp : p.length = n + 1) (hq : q.length = n + 1) (h : ∀ i : Nat, i ≤ n → p.getD i 0 = q.getD i 0) : p = q := by
  refine List.ext_getElem? fun i => ?_
  by_cases c : i ≤ n
  · have := h i c
    rw [List.getD_eq_getElem?_getD, List.getD_eq_getElem?_getD, List.getElem?_eq_getElem (by omega), List.getElem?_eq_getElem (by omega)] at this
    rw [List.getElem?_eq_getElem (by omega), List.getElem?_eq_getElem (by omega)]
    exact congrArg some this
  · rw [List.getElem?_eq_none (by omega), List.getElem?_eq_none (by omega)]
theorem step_len (td : Int → Int → Bool) (p : List Int) (c : Int × Int) : (stepP td p c).length = p.length := by
  unfold stepP
  split
  · rfl
  · rw [List.length_set, List.length_set]
theorem swap_at {n : Nat} {p : List Int} (hp : p.length = n + 1) {c : Int × Int} (hc : CallOk n c) (i : Nat) :
    ((p.set c.1.toNat (g0 p c.2)).set c.2.toNat (g0 p c.1)).getD i 0 = if i = c.2.toNat then g0 p c.1 else if i = c.1.toNat then g0 p c.2 else p.getD i 0 := by
  obtain ⟨a, b, d⟩ := hc
  rw [g0_set (by rw [List.length_set]; omega), g0_set (by omega)]
theorem step_plc {td : Int → Int → Bool} {n : Nat} {p : List Int} (h : Plc n p) {c : Int × Int} (hc : CallOk n c) : Plc n (stepP td p c) := by
  unfold stepP
  split
  · exact h
  · have sw := swap_at h.row.len hc
    obtain ⟨a, b, d⟩ := hc
    have A := h.of a.1 a.2
    have B := h.of b.1 b.2
    have len : ((p.set c.1.toNat (g0 p c.2)).set c.2.toNat (g0 p c.1)).length = n + 1 := by rw [List.length_set, List.length_set, h.row.len]
    have val : ∀ i : Nat, i ≤ n → ∀ x, ((p.set c.1.toNat (g0 p c.2)).set c.2.toNat (g0 p c.1))[i]? = some x → x = if i = c.2.toNat then g0 p c.1 else if i = c.1.toNat then g0 p c.2 else p.getD i 0 := by
      intro i hi x hx
      rw [← sw i, List.getD_eq_getElem?_getD, hx]
      rfl
    have old : ∀ i : Nat, i ≤ n → p[i]? = some (p.getD i 0) := fun i hi => by
      rw [List.getD_eq_getElem?_getD, List.getElem?_eq_getElem (by rw [h.row.len]; omega)]
      rfl
    refine ⟨⟨len, fun x hx => ?_, ?_⟩, ?_⟩
    · obtain ⟨i, hi, e⟩ := List.mem_iff_getElem.mp hx
      have v := val i (by omega) x (by rw [List.getElem?_eq_getElem hi, e])
      rw [v]
      split
      · omega
      · split
        · omega
        · exact h.row.lo _ (List.mem_of_getElem? (old i (by omega)))
    · rw [List.nodup_iff_pairwise_ne, List.pairwise_iff_getElem]
      intro i j hi hj hij e
      have v := val i (by omega) _ (List.getElem?_eq_getElem hi)
      have u := val j (by omega) _ (List.getElem?_eq_getElem hj)
      rw [e] at v
      have z := v.symm.trans u
      -- where each stood before
      have key : ∀ k : Nat, k ≤ n → (if k = c.2.toNat then g0 p c.1 else if k = c.1.toNat then g0 p c.2 else p.getD k 0) = p.getD (if k = c.2.toNat then c.1.toNat else if k = c.1.toNat then c.2.toNat else k) 0 := by
        intro k hk
        split
        · rfl
        · split
          · rfl
          · rfl
      rw [key i (by omega), key j (by omega)] at z
      have li : i ≤ n := by omega
      have lj : j ≤ n := by omega
      have le3 : ∀ {k : Nat}, k ≤ n → (if k = c.2.toNat then c.1.toNat else if k = c.1.toNat then c.2.toNat else k) ≤ n := by
        intro k hk
        split
        · omega
        · split
          · omega
          · exact hk
      have inj := h.row.inj (i := if i = c.2.toNat then c.1.toNat else if i = c.1.toNat then c.2.toNat else i) (j := if j = c.2.toNat then c.1.toNat else if j = c.1.toNat then c.2.toNat else j) (old _ (le3 li)) ((old _ (le3 lj)).trans (by rw [z]))
      clear z key u v old val sw e le3
      split at inj <;> split at inj <;> (try split at inj) <;> (try split at inj) <;> omega
    · have e := sw 0
      rw [if_neg (by omega), if_neg (by omega)] at e
      have o := old 0 (by omega)
      rw [h.zero] at o
      rw [← Option.some.inj o, List.getD_eq_getElem?_getD, List.getElem?_eq_getElem (by omega)] at e
      rw [List.getElem?_eq_getElem (by omega)]
      exact congrArg some e
/-- a call made twice does nothing -/
theorem step_step {td : Int → Int → Bool} (sym : ∀ a b, td a b = td b a) {n : Nat} {p : List Int} (hp : p.length = n + 1) {c : Int × Int} (hc : CallOk n c) : stepP td (stepP td p c) c = p := by
  by_cases t : td (g0 p c.1) (g0 p c.2) = true
  · have e : stepP td p c = p := by unfold stepP; rw [if_pos t]
    rw [e, e]
  · have e : stepP td p c = (p.set c.1.toNat (g0 p c.2)).set c.2.toNat (g0 p c.1) := by unfold stepP; rw [if_neg t]
    have sw := swap_at hp hc
    have hl : (stepP td p c).length = n + 1 := by rw [step_len, hp]
    have g1 : g0 (stepP td p c) c.1 = g0 p c.2 := by
      rw [e]
      show ((p.set c.1.toNat (g0 p c.2)).set c.2.toNat (g0 p c.1)).getD c.1.toNat 0 = _
      obtain ⟨a, b, d⟩ := hc
      rw [sw, if_neg (by omega), if_pos rfl]
    have g2 : g0 (stepP td p c) c.2 = g0 p c.1 := by
      rw [e]
      show ((p.set c.1.toNat (g0 p c.2)).set c.2.toNat (g0 p c.1)).getD c.2.toNat 0 = _
      rw [sw, if_pos rfl]
    have e2 : stepP td (stepP td p c) c = ((stepP td p c).set c.1.toNat (g0 (stepP td p c) c.2)).set c.2.toNat (g0 (stepP td p c) c.1) := by
      conv => lhs; unfold stepP
      rw [if_neg]
      · show ((stepP td p c).set _ _).set _ _ = _
        rfl
      · show ¬ td (g0 (stepP td p c) c.1) (g0 (stepP td p c) c.2) = true
        rw [g1, g2, sym]
        exact t
    have sw2 := swap_at hl hc
    refine plc_ext (n := n) (by rw [step_len, hl]) hp fun i hi => ?_
    rw [e2, sw2, g1, g2]
    split
    · rename_i z
      rw [z]
    · split
      · rename_i z
        rw [z]
      · rename_i z1 z2
        rw [e, sw, if_neg z1, if_neg z2]
theorem run_plc {td : Int → Int → Bool} {n : Nat} : ∀ {cs : List (Int × Int)} {p : List Int}, Plc n p → (∀ c ∈ cs, CallOk n c) → Plc n (runP td p cs)
  | [], p, h, _ => h
  | c :: cs, p, h, hc => run_plc (cs := cs) (step_plc h (hc c List.mem_cons_self)) fun d hd => hc d (List.mem_cons_of_mem _ hd)
theorem run_append (td : Int → Int → Bool) (p : List Int) (a b : List (Int × Int)) : runP td p (a ++ b) = runP td (runP td p a) b := List.foldl_append
theorem run_back {td : Int → Int → Bool} (sym : ∀ a b, td a b = td b a) {n : Nat} : ∀ {cs : List (Int × Int)} {p : List Int}, Plc n p → (∀ c ∈ cs, CallOk n c) → runP td (runP td p cs) cs.reverse = p
  | [], p, _, _ => rfl
  | c :: cs, p, h, hc => by
    have h1 := step_plc (td := td) h (hc c List.mem_cons_self)
    have ih := run_back sym (cs := cs) h1 fun d hd => hc d (List.mem_cons_of_mem _ hd)
    rw [List.reverse_cons, run_append]
    show stepP td (runP td (runP td (stepP td p c) cs) cs.reverse) c = p
    rw [ih]
    exact step_step sym h.row.len (hc c List.mem_cons_self)
theorem pairs_ok {n : Nat} (hn : 2 ≤ n) {cs : List Int} (h : ∀ c ∈ cs, 1 ≤ c ∧ c ≤ n) : ∀ c ∈ pairsF n cs, CallOk n c := by
  intro c hc
  obtain ⟨x, hx, rfl⟩ := List.mem_map.mp hc
  have a := h x hx
  have b := Int.emod_nonneg x (show (n : Int) ≠ 0 by omega)
  have d := Int.emod_lt_of_pos x (show (0 : Int) < n by omega)
  refine ⟨a, ⟨?_, ?_⟩, ?_⟩
  · show 1 ≤ x % n + 1
    omega
  · show x % n + 1 ≤ n
    omega
  · show x ≠ x % n + 1
    by_cases e : x = n
    · subst e
      rw [Int.emod_self]
      omega
    · rw [Int.emod_eq_of_lt (by omega) (by omega)]
      omega
theorem pairs_rev (n : Int) (cs : List Int) : pairsF n cs.reverse = (pairsF n cs).reverse := List.map_reverse
/-! ### rounds -/
def it (f : List Int → List Int) : Nat → List Int → List Int
  | 0, x => x
  | k + 1, x => it f k (f x)
theorem it_add (f : List Int → List Int) : ∀ (a b : Nat) (x : List Int), it f (a + b) x = it f b (it f a x)
  | 0, b, x => by rw [Nat.zero_add]; rfl
  | a + 1, b, x => by
    rw [Nat.add_right_comm]
    exact it_add f a b (f x)
theorem it_succ (f : List Int → List Int) (k : Nat) (x : List Int) : it f (k + 1) x = f (it f k x) := by
  rw [it_add]
  rfl
theorem it_mul (f : List Int → List Int) {L : Nat} {x : List Int} (h : it f L x = x) : ∀ q, it f (L * q) x = x
  | 0 => rfl
  | q + 1 => by rw [Nat.mul_succ, it_add, it_mul f h q, h]
theorem it_mod (f : List Int → List Int) {L : Nat} {x : List Int} (h : it f L x = x) (k : Nat) : it f (k % L) x = it f k x := by
  conv => rhs; rw [← Nat.div_add_mod k L, it_add, it_mul f h]
def roundP (td : Int → Int → Bool) (cs : List (Int × Int)) (p : List Int) : List Int := runP td p cs
theorem it_plc {td : Int → Int → Bool} {n : Nat} {cs : List (Int × Int)} (hc : ∀ c ∈ cs, CallOk n c) : ∀ (k : Nat) {p : List Int}, Plc n p → Plc n (it (roundP td cs) k p)
  | 0, p, h => h
  | k + 1, p, h => it_plc hc k (p := roundP td cs p) (run_plc h hc)
theorem run_rep (td : Int → Int → Bool) (cs : List (Int × Int)) : ∀ (k : Nat) (p : List Int), runP td p (List.replicate k cs).flatten = it (roundP td cs) k p
  | 0, p => rfl
  | k + 1, p => by
    rw [List.replicate_succ, List.flatten_cons, run_append]
    exact run_rep td cs k _
theorem it_undo {td : Int → Int → Bool} (sym : ∀ a b, td a b = td b a) {n : Nat} {cs : List (Int × Int)} (hc : ∀ c ∈ cs, CallOk n c) : ∀ (k : Nat) {p : List Int}, Plc n p → it (roundP td cs.reverse) k (it (roundP td cs) k p) = p
  | 0, p, _ => rfl
  | k + 1, p, h => by
    rw [it_succ (roundP td cs)]
    show it (roundP td cs.reverse) k (roundP td cs.reverse (roundP td cs (it (roundP td cs) k p))) = p
    have : roundP td cs.reverse (roundP td cs (it (roundP td cs) k p)) = it (roundP td cs) k p := run_back sym (it_plc hc k h) hc
    rw [this]
    exact it_undo sym hc k h
/-- what comes back behind L rounds comes back behind L rounds backwards -/
theorem back_rev {td : Int → Int → Bool} (sym : ∀ a b, td a b = td b a) {n : Nat} {cs : List (Int × Int)} (hc : ∀ c ∈ cs, CallOk n c) {p : List Int} (hp : Plc n p) {L : Nat} (h : it (roundP td cs) L p = p) : it (roundP td cs.reverse) L p = p := by
  have := it_undo (cs := cs) sym hc L hp
  rw [h] at this
  exact this
/-- k rounds backwards are L - k % L rounds forwards -/
theorem rev_mod {td : Int → Int → Bool} (sym : ∀ a b, td a b = td b a) {n : Nat} {cs : List (Int × Int)} (hc : ∀ c ∈ cs, CallOk n c) {p : List Int} (hp : Plc n p) {L : Nat} (hL : 0 < L) (h : it (roundP td cs) L p = p) (k : Nat) {j : Nat} (hj : (j + k) % L = 0) : it (roundP td cs.reverse) k p = it (roundP td cs) j p := by
  have e : it (roundP td cs) (j + k) p = p := by rw [← it_mod _ h, hj]; rfl
  rw [it_add] at e
  have z := it_undo (cs := cs) sym hc k (it_plc (td := td) hc j hp)
  rw [e] at z
  exact z
end MR

namespace MR
/-! ### all sit again as at first -/
theorem not_nodup : ∀ {l : List Nat}, ¬ l.Nodup → ∃ i j : Nat, i < j ∧ j < l.length ∧ l[i]? = l[j]?
  | [], h => absurd List.nodup_nil h
  | x :: l, h => by
    by_cases hx : x ∈ l
    · obtain ⟨j, hj, e⟩ := List.mem_iff_getElem.mp hx
      exact ⟨0, j + 1, by omega, by rw [List.length_cons]; omega, by rw [List.getElem?_cons_zero, List.getElem?_cons_succ, List.getElem?_eq_getElem hj, e]⟩
    · obtain ⟨i, j, h1, h2, e⟩ := not_nodup (l := l) fun z => h (List.nodup_cons.mpr ⟨hx, z⟩)
      exact ⟨i + 1, j + 1, by omega, by rw [List.length_cons]; omega, by rw [List.getElem?_cons_succ, List.getElem?_cons_succ, e]⟩
def code (b : Nat) (l : List Int) : Nat := l.foldl (fun a x => a * b + x.toNat) 0
theorem code_go (b : Nat) : ∀ (l m : List Int) (a c : Nat), l.length = m.length → (∀ x ∈ l, 0 ≤ x ∧ x < b) → (∀ x ∈ m, 0 ≤ x ∧ x < b) → l.foldl (fun a x => a * b + x.toNat) a = m.foldl (fun a x => a * b + x.toNat) c → a = c ∧ l = m
  | [], [], a, c, _, _, _, e => ⟨e, rfl⟩
  | [], _ :: _, _, _, h, _, _, _ => by cases h
  | _ :: _, [], _, _, h, _, _, _ => by cases h
  | x :: l, y :: m, a, c, h, h1, h2, e => by
    obtain ⟨e1, e2⟩ := code_go b l m _ _ (Nat.succ.inj h) (fun z hz => h1 z (List.mem_cons_of_mem _ hz)) (fun z hz => h2 z (List.mem_cons_of_mem _ hz)) e
    have a1 := h1 x List.mem_cons_self
    have a2 := h2 y List.mem_cons_self
    have b1 : x.toNat < b := by omega
    have b2 : y.toNat < b := by omega
    have d1 := congrArg (· / b) e1
    have d2 := congrArg (· % b) e1
    simp only [Nat.mul_add_mod_of_lt b1, Nat.mul_add_mod_of_lt b2, Nat.mul_comm a, Nat.mul_comm c, Nat.mul_add_mod, Nat.mod_eq_of_lt b1, Nat.mod_eq_of_lt b2] at d2
    simp only [Nat.mul_comm a, Nat.mul_comm c, Nat.mul_add_div (show 0 < b by omega), Nat.div_eq_of_lt b1, Nat.div_eq_of_lt b2, Nat.add_zero] at d1
    refine ⟨d1, ?_⟩
    rw [e2, show x = y by omega]
theorem code_lt (b : Nat) : ∀ (l : List Int) (a : Nat), (∀ x ∈ l, 0 ≤ x ∧ x < b) → l.foldl (fun a x => a * b + x.toNat) a < (a + 1) * b ^ l.length
  | [], a, _ => by simp
  | x :: l, a, h => by
    have ih := code_lt b l (a * b + x.toNat) fun z hz => h z (List.mem_cons_of_mem _ hz)
    have hx := h x List.mem_cons_self
    refine Nat.lt_of_lt_of_le ih ?_
    rw [List.length_cons, Nat.pow_succ, Nat.mul_comm (b ^ l.length) b, ← Nat.mul_assoc]
    refine Nat.mul_le_mul_right _ ?_
    rw [Nat.add_mul, Nat.one_mul]
    omega
theorem code_inj {b : Nat} {l m : List Int} (h : l.length = m.length) (h1 : ∀ x ∈ l, 0 ≤ x ∧ x < b) (h2 : ∀ x ∈ m, 0 ≤ x ∧ x < b) (e : code b l = code b m) : l = m := (code_go b l m 0 0 h h1 h2 e).2
section
variable {td : Int → Int → Bool} {n : Nat} {cs : List (Int × Int)}
/-- how soon all sit as at first -/
structure Per (td : Int → Int → Bool) (cs : List (Int × Int)) (p : List Int) (L : Nat) : Prop where
  pos : 0 < L
  back : it (roundP td cs) L p = p
  least : ∀ k, 0 < k → k < L → it (roundP td cs) k p ≠ p
theorem per_of {p : List Int} : ∀ (N : Nat), 0 < N → it (roundP td cs) N p = p → ∃ L, L ≤ N ∧ Per td cs p L := by
  intro N
  induction N using Nat.strongRecOn with
  | ind N ih =>
    intro h0 hb
    by_cases c : ∃ k, 0 < k ∧ k < N ∧ it (roundP td cs) k p = p
    · obtain ⟨k, k0, k1, kb⟩ := c
      obtain ⟨L, hL, P⟩ := ih k k1 k0 kb
      exact ⟨L, by omega, P⟩
    · exact ⟨N, Nat.le_refl _, h0, hb, fun k k0 k1 e => c ⟨k, k0, k1, e⟩⟩
theorem it_cancel (sym : ∀ a b, td a b = td b a) (hc : ∀ c ∈ cs, CallOk n c) {p : List Int} (hp : Plc n p) {i j : Nat} (h : i < j) (e : it (roundP td cs) i p = it (roundP td cs) j p) : it (roundP td cs) (j - i) p = p := by
  have e2 : it (roundP td cs) j p = it (roundP td cs) i (it (roundP td cs) (j - i) p) := by rw [← it_add, show j - i + i = j by omega]
  have u1 := it_undo (cs := cs) sym hc i hp
  have u2 := it_undo (cs := cs) sym hc i (it_plc (td := td) hc (j - i) hp)
  rw [← e2, ← e, u1] at u2
  exact u2.symm
/-- on few seats all sit soon as at first -/
theorem back_soon (sym : ∀ a b, td a b = td b a) (hc : ∀ c ∈ cs, CallOk n c) {p : List Int} (hp : Plc n p) : ∃ L, L ≤ (n + 1) ^ (n + 1) ∧ Per td cs p L := by
  have bound : ∀ k, code (n + 1) (it (roundP td cs) k p) < (n + 1) ^ (n + 1) := fun k => by
    have q := (it_plc (td := td) hc k hp).row
    have := code_lt (n + 1) (it (roundP td cs) k p) 0 q.lo
    rw [q.len] at this
    unfold code
    omega
  have nn : ¬ ((List.range ((n + 1) ^ (n + 1) + 1)).map fun k => code (n + 1) (it (roundP td cs) k p)).Nodup := fun nd => by
    have := nodup_len ((n + 1) ^ (n + 1)) _ nd fun x hx => by
      obtain ⟨k, _, rfl⟩ := List.mem_map.mp hx
      exact bound k
    rw [List.length_map, List.length_range] at this
    omega
  obtain ⟨i, j, hij, hj, e⟩ := not_nodup nn
  rw [List.length_map, List.length_range] at hj
  rw [List.getElem?_map, List.getElem?_map, List.getElem?_range hj, List.getElem?_range (by omega)] at e
  have e := Option.some.inj e
  have q1 := (it_plc (td := td) hc i hp).row
  have q2 := (it_plc (td := td) hc j hp).row
  have e := code_inj (by rw [q1.len, q2.len]) q1.lo q2.lo e
  have b := it_cancel sym hc hp hij e
  obtain ⟨L, hL, P⟩ := per_of (td := td) (cs := cs) (j - i) (by omega) b
  exact ⟨L, by omega, P⟩
theorem Per.dvd {p : List Int} {L : Nat} (P : Per td cs p L) (k : Nat) : it (roundP td cs) k p = p ↔ k % L = 0 := by
  constructor
  · intro h
    rw [← it_mod _ P.back] at h
    exact Decidable.byContradiction fun c => P.least (k % L) (Nat.pos_of_ne_zero c) (Nat.mod_lt _ P.pos) h
  · intro h
    rw [← it_mod _ P.back, h]
    rfl
theorem Per.rev (sym : ∀ a b, td a b = td b a) (hc : ∀ c ∈ cs, CallOk n c) {p : List Int} (hp : Plc n p) {L : Nat} (P : Per td cs p L) : Per td cs.reverse p L := by
  refine ⟨P.pos, back_rev sym hc hp P.back, fun k k0 k1 e => ?_⟩
  have hc' : ∀ c ∈ cs.reverse, CallOk n c := fun c h => hc c (List.mem_reverse.mp h)
  have := back_rev (cs := cs.reverse) sym hc' hp e
  rw [List.reverse_reverse] at this
  exact P.least k k0 k1 this
/-- the rounds as the program counts them: what is left is taken anew whenever all sit as at first -/
theorem left_mod {p : List Int} {k left many : Nat} (h : it (roundP td cs) left (it (roundP td cs) k p) = it (roundP td cs) many p) (b : it (roundP td cs) k p = p) : it (roundP td cs) (left % k) (it (roundP td cs) k p) = it (roundP td cs) many p := by
  rw [b] at h ⊢
  rw [it_mod _ b, h]
end
end MR

namespace K20
open PySem PySem.Spec PyProof.Rows L2 Vf Evl
def topS (i : Nat) : Stmt := PySem.Challenge.pw_apartcalls_k20_whole_calls_and_rounds.main.body.getD i (.Pass ⟨0, 0, 0, 0⟩)
abbrev s_is_whole : Stmt := topS 9
theorem sc_is_whole : FnScope ["thing"] ["thing"] (defScope s_is_whole) :=
  ⟨rfl, rfl, rfl, by decide +kernel, rfl, by decide +kernel, by decide +kernel⟩
abbrev s_is_from_one : Stmt := topS 10
theorem sc_is_from_one : FnScope ["thing", "most"] ["thing", "most"] (defScope s_is_from_one) :=
  ⟨rfl, rfl, rfl, by decide +kernel, rfl, by decide +kernel, by decide +kernel⟩
abbrev s_first_wrong : Stmt := topS 11
theorem sc_first_wrong : FnScope ["things", "most", "seen", "at", "thing"] ["things", "most"] (defScope s_first_wrong) :=
  ⟨rfl, rfl, rfl, by decide +kernel, rfl, by decide +kernel, by decide +kernel⟩
abbrev s_check_count : Stmt := topS 12
theorem sc_check_count : FnScope ["number"] ["number"] (defScope s_check_count) :=
  ⟨rfl, rfl, rfl, by decide +kernel, rfl, by decide +kernel, by decide +kernel⟩
abbrev s_is_tie : Stmt := topS 13
theorem sc_is_tie : FnScope ["thing", "seats"] ["thing", "seats"] (defScope s_is_tie) :=
  ⟨rfl, rfl, rfl, by decide +kernel, rfl, by decide +kernel, by decide +kernel⟩
abbrev s_check_ties : Stmt := topS 14
theorem sc_check_ties : FnScope ["ties", "seats", "tied", "at", "tie", "pair"] ["ties", "seats"] (defScope s_check_ties) :=
  ⟨rfl, rfl, rfl, by decide +kernel, rfl, by decide +kernel, by decide +kernel⟩
abbrev s_check_net : Stmt := topS 15
theorem sc_check_net : FnScope ["seats", "ties"] ["seats", "ties"] (defScope s_check_net) :=
  ⟨rfl, rfl, rfl, by decide +kernel, rfl, by decide +kernel, by decide +kernel⟩
abbrev s_check_standing : Stmt := topS 16
theorem sc_check_standing : FnScope ["standing", "seats", "wrong"] ["standing", "seats"] (defScope s_check_standing) :=
  ⟨rfl, rfl, rfl, by decide +kernel, rfl, by decide +kernel, by decide +kernel⟩
abbrev s_check_order_of : Stmt := topS 17
theorem sc_check_order_of : FnScope ["order", "count", "wrong"] ["order", "count"] (defScope s_check_order_of) :=
  ⟨rfl, rfl, rfl, by decide +kernel, rfl, by decide +kernel, by decide +kernel⟩
abbrev s_check_calls : Stmt := topS 18
theorem sc_check_calls : FnScope ["calls", "count", "at", "call"] ["calls", "count"] (defScope s_check_calls) :=
  ⟨rfl, rfl, rfl, by decide +kernel, rfl, by decide +kernel, by decide +kernel⟩
abbrev s_check_many : Stmt := topS 19
theorem sc_check_many : FnScope ["many"] ["many"] (defScope s_check_many) :=
  ⟨rfl, rfl, rfl, by decide +kernel, rfl, by decide +kernel, by decide +kernel⟩
abbrev s_next_call : Stmt := topS 21
theorem sc_next_call : FnScope ["call", "count"] ["call", "count"] (defScope s_next_call) :=
  ⟨rfl, rfl, rfl, by decide +kernel, rfl, by decide +kernel, by decide +kernel⟩
abbrev s_places_of : Stmt := topS 23
theorem sc_places_of : FnScope ["standing"] ["standing"] (defScope s_places_of) :=
  ⟨rfl, rfl, rfl, by decide +kernel, rfl, by decide +kernel, by decide +kernel⟩
abbrev s_standing_of : Stmt := topS 24
theorem sc_standing_of : FnScope ["places"] ["places"] (defScope s_standing_of) :=
  ⟨rfl, rfl, rfl, by decide +kernel, rfl, by decide +kernel, by decide +kernel⟩
abbrev s_turned_about : Stmt := topS 25
theorem sc_turned_about : FnScope ["row", "found", "at", "number"] ["row"] (defScope s_turned_about) :=
  ⟨rfl, rfl, rfl, by decide +kernel, rfl, by decide +kernel, by decide +kernel⟩
abbrev s_tied_seats : Stmt := topS 26
theorem sc_tied_seats : FnScope ["seats", "ties", "tied", "one", "two", "_"] ["seats", "ties"] (defScope s_tied_seats) :=
  ⟨rfl, rfl, rfl, by decide +kernel, rfl, by decide +kernel, by decide +kernel⟩
abbrev s_people_called : Stmt := topS 27
theorem sc_people_called : FnScope ["calls", "count", "call"] ["calls", "count"] (defScope s_people_called) :=
  ⟨rfl, rfl, rfl, by decide +kernel, rfl, by decide +kernel, by decide +kernel⟩
abbrev s_places_after : Stmt := topS 28
theorem sc_places_after : FnScope ["places", "pairs", "tied", "one", "two", "here", "there"] ["places", "pairs", "tied"] (defScope s_places_after) :=
  ⟨rfl, rfl, rfl, by decide +kernel, rfl, by decide +kernel, by decide +kernel⟩
abbrev s_called : Stmt := topS 30
theorem sc_called : FnScope ["seats", "ties", "standing", "calls"] ["seats", "ties", "standing", "calls"] (defScope s_called) :=
  ⟨rfl, rfl, rfl, by decide +kernel, rfl, by decide +kernel, by decide +kernel⟩
abbrev s_after_rounds : Stmt := topS 31
theorem sc_after_rounds : FnScope ["seats", "ties", "standing", "order", "many", "calls", "pairs"] ["seats", "ties", "standing", "order", "many"] (defScope s_after_rounds) :=
  ⟨rfl, rfl, rfl, by decide +kernel, rfl, by decide +kernel, by decide +kernel⟩
abbrev s_places_after_rounds : Stmt := topS 32
theorem sc_places_after_rounds : FnScope ["start", "pairs", "tied", "many", "places", "left", "made"] ["start", "pairs", "tied", "many"] (defScope s_places_after_rounds) :=
  ⟨rfl, rfl, rfl, by decide +kernel, rfl, by decide +kernel, by decide +kernel⟩
abbrev s_l_draws : Stmt := topS 34
theorem sc_l_draws : FnScope ["_law_cell"] ["_law_cell"] (defScope s_l_draws) :=
  ⟨rfl, rfl, rfl, by decide +kernel, rfl, by decide +kernel, by decide +kernel⟩
abbrev s_l_next : Stmt := topS 35
theorem sc_l_next : FnScope ["_law_draws_here", "_law_k", "_law_drawn"] ["_law_draws_here"] (defScope s_l_next) :=
  ⟨rfl, rfl, rfl, by decide +kernel, rfl, by decide +kernel, by decide +kernel⟩
abbrev s_l_shuffled : Stmt := topS 36
theorem sc_l_shuffled : FnScope ["_law_draws_here", "_law_things", "_law_left", "_law_told"] ["_law_draws_here", "_law_things"] (defScope s_l_shuffled) :=
  ⟨rfl, rfl, rfl, by decide +kernel, rfl, by decide +kernel, by decide +kernel⟩
abbrev s_l_order : Stmt := topS 37
theorem sc_l_order : FnScope ["_law_draws_here", "_law_most", "_law_figure", "_law_kind", "_law_first", "_law_turned", "_law_at"] ["_law_draws_here", "_law_most"] (defScope s_l_order) :=
  ⟨rfl, rfl, rfl, by decide +kernel, rfl, by decide +kernel, by decide +kernel⟩
abbrev s_l_net : Stmt := topS 38
theorem sc_l_net : FnScope ["_law_draws_here", "_law_figure", "_law_kind", "_law_line", "_law_pairs", "_law_at", "_law_pick", "_law_spot", "_law_pair"] ["_law_draws_here", "_law_figure"] (defScope s_l_net) :=
  ⟨rfl, rfl, rfl, by decide +kernel, rfl, by decide +kernel, by decide +kernel⟩
abbrev s_l_near : Stmt := topS 39
theorem sc_l_near : FnScope ["_law_pairs", "_law_told", "_law_one", "_law_two"] ["_law_pairs"] (defScope s_l_near) :=
  ⟨rfl, rfl, rfl, by decide +kernel, rfl, by decide +kernel, by decide +kernel⟩
abbrev s_l_moved : Stmt := topS 40
theorem sc_l_moved : FnScope ["_law_near_here", "_law_row", "_law_rows", "_law_told", "_law_spots", "_law_at", "_law_person", "_law_one", "_law_two"] ["_law_near_here", "_law_row", "_law_rows"] (defScope s_l_moved) :=
  ⟨rfl, rfl, rfl, by decide +kernel, rfl, by decide +kernel, by decide +kernel⟩
abbrev s_l_called_right : Stmt := topS 41
theorem sc_l_called_right : FnScope ["_law_draws_here", "_law_figure", "_law_pairs", "_law_now", "_law_kept", "_law_rows", "_law_before", "_law_due", "_law_told", "_law_one", "_law_turn"] ["_law_draws_here", "_law_figure", "_law_pairs", "_law_now"] (defScope s_l_called_right) :=
  ⟨rfl, rfl, rfl, by decide +kernel, rfl, by decide +kernel, by decide +kernel⟩
abbrev s_l_rounds_right : Stmt := topS 42
theorem sc_l_rounds_right : FnScope ["_law_draws_here", "_law_figure", "_law_pairs", "_law_now", "_law_row", "_law_kept", "_law_near_here", "_law_many", "_law_due", "_law_told"] ["_law_draws_here", "_law_figure", "_law_pairs", "_law_now", "_law_row"] (defScope s_l_rounds_right) :=
  ⟨rfl, rfl, rfl, by decide +kernel, rfl, by decide +kernel, by decide +kernel⟩
abbrev s_l_great_right : Stmt := topS 43
theorem sc_l_great_right : FnScope ["_law_draws_here", "_law_figure", "_law_pairs", "_law_now", "_law_row", "_law_near_here", "_law_states", "_law_here", "_law_drawn", "_law_many"] ["_law_draws_here", "_law_figure", "_law_pairs", "_law_now", "_law_row"] (defScope s_l_great_right) :=
  ⟨rfl, rfl, rfl, by decide +kernel, rfl, by decide +kernel, by decide +kernel⟩
abbrev s_law : Stmt := topS 44
theorem sc_law : FnScope ["_law_script", "_law_draws_here", "_law_most", "_law_row", "_law_pairs", "_law_now", "_law_line", "_law_some", "_law_star", "_law_cell", "_law_seat"] ["_law_script"] (defScope s_law) :=
  ⟨rfl, rfl, rfl, by decide +kernel, rfl, by decide +kernel, by decide +kernel⟩
structure Ad where
  (f_is_whole f_is_from_one f_first_wrong f_check_count f_is_tie f_check_ties f_check_net f_check_standing f_check_order_of f_check_calls f_check_many f_next_call f_places_of f_standing_of f_turned_about f_tied_seats f_people_called f_places_after f_called f_after_rounds f_places_after_rounds f_l_draws f_l_next f_l_shuffled f_l_order f_l_net f_l_near f_l_moved f_l_called_right f_l_rounds_right f_l_great_right f_law : Addr)
  (d_is_whole d_is_from_one d_first_wrong d_check_count d_is_tie d_check_ties d_check_net d_check_standing d_check_order_of d_check_calls d_check_many d_next_call d_places_of d_standing_of d_turned_about d_tied_seats d_people_called d_places_after d_called d_after_rounds d_places_after_rounds d_l_draws d_l_next d_l_shuffled d_l_order d_l_net d_l_near d_l_moved d_l_called_right d_l_rounds_right d_l_great_right d_law : FuncData)
  (t_LEAST_COUNT t_MOST_COUNT : Tok)
structure Txt (K : PySem.W.Frag) (mg : Str → Option Value) (A : Ad) : Prop where
  F_is_whole : Fun K "is_whole" "is_whole" s_is_whole A.f_is_whole A.d_is_whole
  g_is_whole : mg "is_whole" = some (.ref A.f_is_whole)
  b_is_whole : Binds K A.d_is_whole ["thing"] []
  F_is_from_one : Fun K "is_from_one" "is_from_one" s_is_from_one A.f_is_from_one A.d_is_from_one
  g_is_from_one : mg "is_from_one" = some (.ref A.f_is_from_one)
  b_is_from_one : Binds K A.d_is_from_one ["thing", "most"] []
  F_first_wrong : Fun K "first_wrong" "first_wrong" s_first_wrong A.f_first_wrong A.d_first_wrong
  g_first_wrong : mg "first_wrong" = some (.ref A.f_first_wrong)
  b_first_wrong : Binds K A.d_first_wrong ["things", "most"] []
  F_check_count : Fun K "check_count" "check_count" s_check_count A.f_check_count A.d_check_count
  g_check_count : mg "check_count" = some (.ref A.f_check_count)
  b_check_count : Binds K A.d_check_count ["number"] []
  F_is_tie : Fun K "is_tie" "is_tie" s_is_tie A.f_is_tie A.d_is_tie
  g_is_tie : mg "is_tie" = some (.ref A.f_is_tie)
  b_is_tie : Binds K A.d_is_tie ["thing", "seats"] []
  F_check_ties : Fun K "check_ties" "check_ties" s_check_ties A.f_check_ties A.d_check_ties
  g_check_ties : mg "check_ties" = some (.ref A.f_check_ties)
  b_check_ties : Binds K A.d_check_ties ["ties", "seats"] []
  F_check_net : Fun K "check_net" "check_net" s_check_net A.f_check_net A.d_check_net
  g_check_net : mg "check_net" = some (.ref A.f_check_net)
  b_check_net : Binds K A.d_check_net ["seats", "ties"] []
  F_check_standing : Fun K "check_standing" "check_standing" s_check_standing A.f_check_standing A.d_check_standing
  g_check_standing : mg "check_standing" = some (.ref A.f_check_standing)
  b_check_standing : Binds K A.d_check_standing ["standing", "seats"] []
  F_check_order_of : Fun K "check_order_of" "check_order_of" s_check_order_of A.f_check_order_of A.d_check_order_of
  g_check_order_of : mg "check_order_of" = some (.ref A.f_check_order_of)
  b_check_order_of : Binds K A.d_check_order_of ["order", "count"] []
  F_check_calls : Fun K "check_calls" "check_calls" s_check_calls A.f_check_calls A.d_check_calls
  g_check_calls : mg "check_calls" = some (.ref A.f_check_calls)
  b_check_calls : Binds K A.d_check_calls ["calls", "count"] []
  F_check_many : Fun K "check_many" "check_many" s_check_many A.f_check_many A.d_check_many
  g_check_many : mg "check_many" = some (.ref A.f_check_many)
  b_check_many : Binds K A.d_check_many ["many"] []
  F_next_call : Fun K "next_call" "next_call" s_next_call A.f_next_call A.d_next_call
  g_next_call : mg "next_call" = some (.ref A.f_next_call)
  b_next_call : Binds K A.d_next_call ["call", "count"] []
  F_places_of : Fun K "places_of" "places_of" s_places_of A.f_places_of A.d_places_of
  g_places_of : mg "places_of" = some (.ref A.f_places_of)
  b_places_of : Binds K A.d_places_of ["standing"] []
  F_standing_of : Fun K "standing_of" "standing_of" s_standing_of A.f_standing_of A.d_standing_of
  g_standing_of : mg "standing_of" = some (.ref A.f_standing_of)
  b_standing_of : Binds K A.d_standing_of ["places"] []
  F_turned_about : Fun K "turned_about" "turned_about" s_turned_about A.f_turned_about A.d_turned_about
  g_turned_about : mg "turned_about" = some (.ref A.f_turned_about)
  b_turned_about : Binds K A.d_turned_about ["row"] []
  F_tied_seats : Fun K "tied_seats" "tied_seats" s_tied_seats A.f_tied_seats A.d_tied_seats
  g_tied_seats : mg "tied_seats" = some (.ref A.f_tied_seats)
  b_tied_seats : Binds K A.d_tied_seats ["seats", "ties"] []
  F_people_called : Fun K "people_called" "people_called" s_people_called A.f_people_called A.d_people_called
  g_people_called : mg "people_called" = some (.ref A.f_people_called)
  b_people_called : Binds K A.d_people_called ["calls", "count"] []
  F_places_after : Fun K "places_after" "places_after" s_places_after A.f_places_after A.d_places_after
  g_places_after : mg "places_after" = some (.ref A.f_places_after)
  b_places_after : Binds K A.d_places_after ["places", "pairs", "tied"] []
  F_called : Fun K "called" "called" s_called A.f_called A.d_called
  g_called : mg "called" = some (.ref A.f_called)
  b_called : Binds K A.d_called ["seats", "ties", "standing", "calls"] []
  kb_called : KBinds K A.d_called ["seats", "ties", "standing", "calls"] ["calls", "standing", "ties", "seats"] rev4 rev4
  F_after_rounds : FunD K "after_rounds" "after_rounds" (defArgs s_after_rounds) (defBody s_after_rounds) (defScope s_after_rounds) [.int 1] [] A.f_after_rounds A.d_after_rounds
  g_after_rounds : mg "after_rounds" = some (.ref A.f_after_rounds)
  b_after_rounds : Binds K A.d_after_rounds ["seats", "ties", "standing", "order", "many"] []
  bd_after_rounds : ∃ ds, Vals [.int 1] ds ∧ Binds K A.d_after_rounds ["seats", "ties", "standing", "order", "many"] ds
  kb_after_rounds : KBinds K A.d_after_rounds ["seats", "ties", "standing", "order", "many"] ["many", "order", "standing", "ties", "seats"] rev5 rev5
  F_places_after_rounds : Fun K "places_after_rounds" "places_after_rounds" s_places_after_rounds A.f_places_after_rounds A.d_places_after_rounds
  g_places_after_rounds : mg "places_after_rounds" = some (.ref A.f_places_after_rounds)
  b_places_after_rounds : Binds K A.d_places_after_rounds ["start", "pairs", "tied", "many"] []
  F_l_draws : Fun K "_law_draws" "_law_draws" s_l_draws A.f_l_draws A.d_l_draws
  g_l_draws : mg "_law_draws" = some (.ref A.f_l_draws)
  b_l_draws : Binds K A.d_l_draws ["_law_cell"] []
  F_l_next : Fun K "_law_next" "_law_next" s_l_next A.f_l_next A.d_l_next
  g_l_next : mg "_law_next" = some (.ref A.f_l_next)
  b_l_next : Binds K A.d_l_next ["_law_draws_here"] []
  F_l_shuffled : Fun K "_law_shuffled" "_law_shuffled" s_l_shuffled A.f_l_shuffled A.d_l_shuffled
  g_l_shuffled : mg "_law_shuffled" = some (.ref A.f_l_shuffled)
  b_l_shuffled : Binds K A.d_l_shuffled ["_law_draws_here", "_law_things"] []
  F_l_order : Fun K "_law_order" "_law_order" s_l_order A.f_l_order A.d_l_order
  g_l_order : mg "_law_order" = some (.ref A.f_l_order)
  b_l_order : Binds K A.d_l_order ["_law_draws_here", "_law_most"] []
  F_l_net : Fun K "_law_net" "_law_net" s_l_net A.f_l_net A.d_l_net
  g_l_net : mg "_law_net" = some (.ref A.f_l_net)
  b_l_net : Binds K A.d_l_net ["_law_draws_here", "_law_figure"] []
  F_l_near : Fun K "_law_near" "_law_near" s_l_near A.f_l_near A.d_l_near
  g_l_near : mg "_law_near" = some (.ref A.f_l_near)
  b_l_near : Binds K A.d_l_near ["_law_pairs"] []
  F_l_moved : Fun K "_law_moved" "_law_moved" s_l_moved A.f_l_moved A.d_l_moved
  g_l_moved : mg "_law_moved" = some (.ref A.f_l_moved)
  b_l_moved : Binds K A.d_l_moved ["_law_near_here", "_law_row", "_law_rows"] []
  F_l_called_right : Fun K "_law_called_right" "_law_called_right" s_l_called_right A.f_l_called_right A.d_l_called_right
  g_l_called_right : mg "_law_called_right" = some (.ref A.f_l_called_right)
  b_l_called_right : Binds K A.d_l_called_right ["_law_draws_here", "_law_figure", "_law_pairs", "_law_now"] []
  F_l_rounds_right : Fun K "_law_rounds_right" "_law_rounds_right" s_l_rounds_right A.f_l_rounds_right A.d_l_rounds_right
  g_l_rounds_right : mg "_law_rounds_right" = some (.ref A.f_l_rounds_right)
  b_l_rounds_right : Binds K A.d_l_rounds_right ["_law_draws_here", "_law_figure", "_law_pairs", "_law_now", "_law_row"] []
  F_l_great_right : Fun K "_law_great_right" "_law_great_right" s_l_great_right A.f_l_great_right A.d_l_great_right
  g_l_great_right : mg "_law_great_right" = some (.ref A.f_l_great_right)
  b_l_great_right : Binds K A.d_l_great_right ["_law_draws_here", "_law_figure", "_law_pairs", "_law_now", "_law_row"] []
  F_law : Fun K "law" "law" s_law A.f_law A.d_law
  g_law : mg "law" = some (.ref A.f_law)
  b_law : Binds K A.d_law ["_law_script"] []
  g_LEAST_COUNT : mg "LEAST_COUNT" = some (.int 3 A.t_LEAST_COUNT)
  g_MOST_COUNT : mg "MOST_COUNT" = some (.int 40 A.t_MOST_COUNT)
  z_isinstance : mg "isinstance" = none
  z_int : mg "int" = none
  z_bool : mg "bool" = none
  z_set : mg "set" = none
  z_enumerate : mg "enumerate" = none
  z_list : mg "list" = none
  z_len : mg "len" = none
  z_tuple : mg "tuple" = none
  z_sorted : mg "sorted" = none
  z_range : mg "range" = none
  z_abs : mg "abs" = none
  z_min : mg "min" = none
  z_repr : mg "repr" = none
section
variable {P : Program} {w : World} {K : PySem.W.Frag} {mg : Str → Option Value} {base : Heap} {A : Ad}
def sp_is_whole : Sp := fun vs H Q _ => ∃ i : Int, vs = [.int i] ∧ RetV (.bl true) H Q
theorem ok_is_whole (T : Txt K mg A) : FnOk P w K mg base CX0 1 A.f_is_whole A.d_is_whole ["thing"] sp_is_whole := by
  refine T.F_is_whole.ok sc_is_whole (fun vs H Q E h => ?_) (fun cdv A' outer s H vs Q E hr h => ?_)
  · obtain ⟨i, rfl, _⟩ := h
    rfl
  · obtain ⟨i, rfl, q⟩ := h
    refine ⟨_, (pss_one (ps_ret (pe_and (pe_callB call_isi (by rfl) T.z_isinstance (by decide +kernel) (pa_cons (pv 0) (pa_cons (pe_bltn (v := .ty "int") (by rfl) T.z_int (by decide +kernel) rfl) pa_nil))) (pe_one (pe_not (pe_callB call_isi (by rfl) T.z_isinstance (by decide +kernel) (pa_cons (pv 0) (pa_cons (pe_bltn (v := .ty "bool") (by rfl) T.z_bool (by decide +kernel) rfl) pa_nil)))))))), ?_⟩
    refine ⟨_, rfl, _, _, .type "int", .type "int", true, rfl, .ty _, .base (.int i), kit_ty (by decide +kernel), true, rfl, iteT ?_⟩
    refine ⟨_, rfl, _, _, .type "int", .type "bool", false, rfl, .ty _, .base (.int i), kit_ty (by decide +kernel), false, rfl, q H (Ex.refl H)⟩
def sp_is_from_one : Sp := fun vs H Q _ => ∃ i m : Int, vs = [.int i, .int m] ∧ RetV (.bl (decide (1 ≤ i ∧ i ≤ m))) H Q
theorem ok_is_from_one (T : Txt K mg A) : FnOk P w K mg base CX0 1 A.f_is_from_one A.d_is_from_one ["thing", "most"] sp_is_from_one := by
  refine T.F_is_from_one.ok sc_is_from_one (fun vs H Q E h => ?_) (fun cdv A' outer s H vs Q E hr h => ?_)
  · obtain ⟨i, m, rfl, _⟩ := h
    rfl
  · obtain ⟨i, m, rfl, q⟩ := h
    refine ⟨_, (pss_one (ps_ret (pe_and (pe_callB call_isi (by rfl) T.z_isinstance (by decide +kernel) (pa_cons (pv 0) (pa_cons (pe_bltn (v := .ty "int") (by rfl) T.z_int (by decide +kernel) rfl) pa_nil))) (pe_and (pe_not (pe_callB call_isi (by rfl) T.z_isinstance (by decide +kernel) (pa_cons (pv 0) (pa_cons (pe_bltn (v := .ty "bool") (by rfl) T.z_bool (by decide +kernel) rfl) pa_nil)))) (pe_one (pe_chain op_le op_le pe_int (pv 0) (pv 1))))))), ?_⟩
    refine ⟨_, rfl, _, _, .type "int", .type "int", true, rfl, .ty _, .base (.int i), kit_ty (by decide +kernel), true, rfl, iteT ?_⟩
    refine ⟨_, rfl, _, _, .type "int", .type "bool", false, rfl, .ty _, .base (.int i), kit_ty (by decide +kernel), false, rfl, true, rfl, iteT ?_⟩
    refine ⟨_, rfl, _, _, rfl, rfl, _, rfl, ?_⟩
    have e : decide (1 ≤ i ∧ i ≤ m) = (decide (1 ≤ i) && decide (i ≤ m)) := by
      by_cases c : 1 ≤ i <;> by_cases d : i ≤ m <;> simp [c, d]
    rw [e] at q
    by_cases c : 1 ≤ i
    · rw [decide_eq_true c] at q ⊢
      exact iteT ⟨_, rfl, _, _, rfl, rfl, q H (Ex.refl H)⟩
    · rw [decide_eq_false c] at q ⊢
      exact iteF (q H (Ex.refl H))
def sp_first_wrong (K : PySem.W.Frag) : Sp := fun vs H Q _ => ∃ (a : Addr) (ns : List Int) (m : Int), vs = [.ref a, .int m] ∧ SqL K H a (ns.map V.int) ∧ ns.Nodup ∧ (∀ x ∈ ns, 1 ≤ x ∧ x ≤ m) ∧ ns.length ≤ 1000 ∧ RetV .non H Q
theorem ok_first_wrong (T : Txt K mg A) : FnOk P w K mg base CX0 2 A.f_first_wrong A.d_first_wrong ["things", "most"] (sp_first_wrong K) := by
  have G_is_from_one : FnOk P w K mg base CX0 1 A.f_is_from_one A.d_is_from_one ["thing", "most"] sp_is_from_one := ok_is_from_one T
  refine T.F_first_wrong.ok sc_first_wrong (fun vs H Q E h => ?_) (fun cdv A' outer s H vs Q E hr h => ?_)
  · obtain ⟨a, ns, m, rfl, _⟩ := h
    rfl
  · obtain ⟨a, ns, m, rfl, hS, nd, hb, hl, q⟩ := h
    refine ⟨_, (pss_cons (ps_set (i := 2) sc_first_wrong.nd rfl (by first | exact .inl rfl | exact .inr rfl) (pe_callTy0 cr_set0 (by rfl) T.z_set (by decide +kernel)))
      (pss_cons (ps_for PassesOwn.never rfl (pi_enum (by rfl) T.z_enumerate (pa_cons (pv 0) pa_nil)) (pg_tupK (K := K) rfl rfl (pgs_cons (pg_name (i := 3) sc_first_wrong.nd rfl (by first | exact .inl rfl | exact .inr rfl)) (pgs_cons (pg_name (i := 4) sc_first_wrong.nd rfl (by first | exact .inl rfl | exact .inr rfl)) pgs_nil))) (pss_cons (ps_if (PW.pt (pw_or (pt_not (pt_val (pe_call G_is_from_one (hr.mono (by decide)) (by rfl) T.g_is_from_one T.F_is_from_one.kp T.b_is_from_one .nil pass0 (pa_cons (pv 4) (pa_cons (pv 1) pa_nil))))) (pw_or1 (pt_cmpR or_sin (pv 4) (pv 2) (by rfl))))) (pss_one (ps_ret (pv 3))) pss_nil)
      (pss_one (ps_expr (pe_sadd (pv 2) (pa_cons (pv 4) pa_nil))))))
      (pss_one (ps_ret pe_non)))), ?_⟩
    -- seen = set()
    refine ⟨rfl, fun p np => ?_⟩
    have e0 : Ex H (upd H p (SetO w p (fun _ => false) 0)) := Ex.new np
    -- for at, thing in enumerate(things)
    refine ⟨.ref a, rfl, a, ns.map V.int, rfl, ex_l e0 hS, ?_⟩
    refine for_enumL (xs := ns.map V.int) (fun i σ' H' => (∃ y3 y4, σ' = [some (.ref a), some (.int m), some (.ref p), y3, y4]) ∧ Ex H H' ∧
        ∃ S c, H' p = some (SetO w p S c) ∧ c ≤ i ∧ ∀ k, S k = true → k ∈ ns.take i)
      ⟨⟨none, none, rfl⟩, e0, _, _, upd_same, Nat.le_refl _, fun k z => nomatch z⟩ (fun i σ' H' z => ex_l z.2.1 hS) ?_ ?_
    · rintro i x Tt σ' H' hx ⟨⟨y3, y4, rfl⟩, e1, S, c, hp, hc, hSk⟩ nT
      obtain ⟨n, hn, rfl⟩ := map_at hx
      have mem : n ∈ ns := List.mem_of_getElem? hn
      have e2 : Ex H' (upd H' Tt (.tup [.int (i : Nat), .int n])) := Ex.new nT
      -- at, thing = the pair
      refine ⟨Tt, _, rfl, .inl (.inl upd_same), rfl, _, _, rfl, _, _, rfl, rfl, ?_⟩
      -- if not is_from_one(thing, most) or thing in seen
      refine ⟨_, rfl, _, rfl, n, m, rfl, fun H3 e3 => ?_⟩
      rw [decide_eq_true (hb n mem)]
      have hp3 : H3 p = some (SetO w p S c) := e3 _ _ (e2 _ _ hp)
      have hi : i < ns.length := (List.getElem?_eq_some_iff.mp hn).1
      refine ⟨true, rfl, iteF ⟨_, rfl, _, rfl, n, p, S, c, rfl, rfl, hp3, ?_⟩⟩
      have no : S n = false := by
        cases z : S n with
        | false => rfl
        | true => exact absurd (hSk n z) (nodup_at nd hn)
      rw [no]
      refine ⟨false, rfl, iteF ?_⟩
      -- seen.add(thing)
      refine ⟨_, rfl, ⟨p, S, c, rfl, hp3⟩, _, rfl, p, n, S, c, rfl, rfl, hp3, by unfold scanBound; omega, ?_⟩
      rw [no]
      refine ⟨⟨_, _, rfl⟩, Ex.mut ((e1.trans e2).trans e3) np, _, c + 1, upd_same, by omega, fun k hk => ?_⟩
      rw [take_snoc hn, List.mem_append]
      rcases Bool.or_eq_true_iff.mp hk with z | z
      · exact .inl (hSk k z)
      · exact .inr (by rw [of_decide_eq_true z]; exact List.mem_singleton.mpr rfl)
    · rintro σ' H' ⟨_, e1, _⟩
      exact q H' e1
end
end K20

namespace K20
open PySem PySem.Spec PyProof.Rows L2 Vf Evl
/-! ### ties -/
def nrm (t : Int × Int) : Int × Int := if t.1 ≤ t.2 then t else (t.2, t.1)
def key2 (t : Int × Int) : List Int := [(nrm t).1, (nrm t).2]
structure NetOk (n : Int) (ts : List (Int × Int)) : Prop where
  lo : 3 ≤ n
  hi : n ≤ 40
  ok : ∀ t ∈ ts, (1 ≤ t.1 ∧ t.1 ≤ n) ∧ (1 ≤ t.2 ∧ t.2 ≤ n) ∧ t.1 ≠ t.2
  nd : (ts.map nrm).Nodup
  few : ts.length ≤ 1000
theorem key2_inj {s t : Int × Int} (h : key2 s = key2 t) : nrm s = nrm t := by
  unfold key2 at h
  injection h with h1 h2
  injection h2 with h2 _
  exact Prod.ext h1 h2
theorem sorted_two {ns : List Int} {x y : Int} (h : ns.Perm [x, y]) (hs : ns.Pairwise (· ≤ ·)) : ns = key2 (x, y) := by
  have hl := h.length_eq
  match ns, hl with
  | [a, b], _ =>
    have hab : a ≤ b := by simpa using hs
    have ha : a ∈ [x, y] := h.mem_iff.mp (by simp)
    have hb : b ∈ [x, y] := h.mem_iff.mp (by simp)
    have hx : x ∈ [a, b] := h.mem_iff.mpr (by simp)
    have hy : y ∈ [a, b] := h.mem_iff.mpr (by simp)
    simp only [List.mem_cons, List.not_mem_nil, or_false] at ha hb hx hy
    unfold key2 nrm
    by_cases c : x ≤ y
    · simp only [c, if_true]
      have : a = x ∧ b = y := by omega
      rw [this.1, this.2]
    · simp only [c, if_false]
      have : a = y ∧ b = x := by omega
      rw [this.1, this.2]
def TiesAt (K : PySem.W.Frag) (H : Hp) (a : Addr) (ts : List (Int × Int)) : Prop :=
  ∃ as : List Addr, SqL K H a (as.map V.ref) ∧ as.length = ts.length ∧ ∀ (i : Nat) (b : Addr) (t : Int × Int), as[i]? = some b → ts[i]? = some t → SqL K H b [.int t.1, .int t.2]
theorem TiesAt.mono {K : PySem.W.Frag} {H H' : Hp} {a : Addr} {ts : List (Int × Int)} (e : Ex H H') (h : TiesAt K H a ts) : TiesAt K H' a ts := by
  obtain ⟨as, h1, h2, h3⟩ := h
  exact ⟨as, ex_l e h1, h2, fun i b t x y => ex_l e (h3 i b t x y)⟩
theorem ty_list {K : PySem.W.Frag} {H : Hp} {a : Addr} {xs : List V} (h : SqL K H a xs) : TyX K H (.ref a) (.type "list") := by
  rcases h with (h | ⟨o, h⟩) | ⟨o, its, n, h, hc, _⟩
  · exact .base (.lst h)
  · exact .base (.frz h)
  · exact .kList h hc
section
variable {P : Program} {w : World} {K : PySem.W.Frag} {mg : Str → Option Value} {base : Heap} {A : Ad}
def sp_check_count : Sp := fun vs H Q _ => ∃ n : Int, vs = [.int n] ∧ 3 ≤ n ∧ n ≤ 40 ∧ RetV .non H Q
theorem ok_check_count (T : Txt K mg A) : FnOk P w K mg base CX0 2 A.f_check_count A.d_check_count ["number"] sp_check_count := by
  have G_is_from_one : FnOk P w K mg base CX0 1 A.f_is_from_one A.d_is_from_one ["thing", "most"] sp_is_from_one := ok_is_from_one T
  refine T.F_check_count.ok sc_check_count (fun vs H Q E h => ?_) (fun cdv A' outer s H vs Q E hr h => ?_)
  · obtain ⟨n, rfl, _⟩ := h
    rfl
  · obtain ⟨n, rfl, h1, h2, q⟩ := h
    refine ⟨_, (pss_one (ps_if (PW.pt (pw_or (pt_not (pt_val (pe_call G_is_from_one (hr.mono (by decide)) (by rfl) T.g_is_from_one T.F_is_from_one.kp T.b_is_from_one .nil pass0 (pa_cons (pv 0) (pa_cons (pe_glob (v := .int 40) (by rfl) T.g_MOST_COUNT ⟨_, rfl⟩) pa_nil))))) (pw_or1 (pt_cmpR op_lt (pv 0) (pe_glob (v := .int 3) (by rfl) T.g_LEAST_COUNT ⟨_, rfl⟩) (nomark _))))) (pss_one ps_never) pss_nil)), ?_⟩
    refine ⟨_, rfl, n, 40, rfl, fun H1 e1 => ?_⟩
    rw [decide_eq_true (show 1 ≤ n ∧ n ≤ 40 by omega)]
    refine ⟨true, rfl, iteF ⟨_, rfl, _, _, rfl, rfl, _, rfl, ?_⟩⟩
    rw [decide_eq_false (show ¬ n < 3 by omega)]
    exact iteF (q H1 e1)
def sp_is_tie (K : PySem.W.Frag) : Sp := fun vs H Q _ => ∃ (b : Addr) (x y n : Int), vs = [.ref b, .int n] ∧ SqL K H b [.int x, .int y] ∧ (1 ≤ x ∧ x ≤ n) ∧ (1 ≤ y ∧ y ≤ n) ∧ x ≠ y ∧ RetV (.bl true) H Q
theorem ok_is_tie (T : Txt K mg A) : FnOk P w K mg base CX0 3 A.f_is_tie A.d_is_tie ["thing", "seats"] (sp_is_tie K) := by
  have G_first_wrong : FnOk P w K mg base CX0 2 A.f_first_wrong A.d_first_wrong ["things", "most"] (sp_first_wrong K) := ok_first_wrong T
  refine T.F_is_tie.ok sc_is_tie (fun vs H Q E h => ?_) (fun cdv A' outer s H vs Q E hr h => ?_)
  · obtain ⟨b, x, y, n, rfl, _⟩ := h
    rfl
  · obtain ⟨b, x, y, n, rfl, hS, hx, hy, ne, q⟩ := h
    refine ⟨_, (pss_one (ps_ret (pe_and (pe_callB call_isi (by rfl) T.z_isinstance (by decide +kernel) (pa_cons (pv 0) (pa_cons (pe_bltn (v := .ty "list") (by rfl) T.z_list (by decide +kernel) rfl) pa_nil))) (pe_and (pe_cmpR op_eq (pe_callB (call_lenK (K := K) rfl) (by rfl) T.z_len PySem.boot_len (pa_cons (pv 0) pa_nil)) pe_int (nomark _)) (pe_one (pe_cmp (pc_isN (pe_call G_first_wrong (hr.mono (by decide)) (by rfl) T.g_first_wrong T.F_first_wrong.kp T.b_first_wrong .nil pass0 (pa_cons (pv 0) (pa_cons (pv 1) pa_nil)))))))))), ?_⟩
    refine ⟨_, rfl, _, _, .type "list", .type "list", true, rfl, .ty _, ty_list hS, kit_ty (by decide +kernel), true, rfl, iteT ?_⟩
    refine ⟨_, rfl, b, _, rfl, .inl hS, rfl, true, rfl, iteT ?_⟩
    refine ⟨_, rfl, _, rfl, b, [x, y], n, rfl, hS, by simpa using ne, fun z hz => ?_, by show 2 ≤ 1000; decide, fun H1 e1 => q H1 e1⟩
    simp only [List.mem_cons, List.not_mem_nil, or_false] at hz
    rcases hz with rfl | rfl
    · exact hx
    · exact hy
def sp_check_ties (K : PySem.W.Frag) : Sp := fun vs H Q _ => ∃ (a : Addr) (ts : List (Int × Int)) (n : Int), vs = [.ref a, .int n] ∧ TiesAt K H a ts ∧ NetOk n ts ∧ RetV .non H Q
theorem ok_check_ties (T : Txt K mg A) : FnOk P w K mg base CX0 4 A.f_check_ties A.d_check_ties ["ties", "seats"] (sp_check_ties K) := by
  have G_is_tie : FnOk P w K mg base CX0 3 A.f_is_tie A.d_is_tie ["thing", "seats"] (sp_is_tie K) := ok_is_tie T
  refine T.F_check_ties.ok sc_check_ties (fun vs H Q E h => ?_) (fun cdv A' outer s H vs Q E hr h => ?_)
  · obtain ⟨a, ts, n, rfl, _⟩ := h
    rfl
  · obtain ⟨a, ts, n, rfl, hT, N, q⟩ := h
    obtain ⟨as, hS, hlen, hat⟩ := hT
    refine ⟨_, (pss_cons (ps_if (pt_not (pt_val (pe_callB call_isi (by rfl) T.z_isinstance (by decide +kernel) (pa_cons (pv 0) (pa_cons (pe_bltn (v := .ty "list") (by rfl) T.z_list (by decide +kernel) rfl) pa_nil))))) (pss_one ps_never) pss_nil)
      (pss_cons (ps_set (i := 2) sc_check_ties.nd rfl (by first | exact .inl rfl | exact .inr rfl) (pe_callTy0 cr_set0W (by rfl) T.z_set (by decide +kernel)))
      (pss_one (ps_for PassesOwn.never rfl (pi_enum (by rfl) T.z_enumerate (pa_cons (pv 0) pa_nil)) (pg_tupK (K := K) rfl rfl (pgs_cons (pg_name (i := 3) sc_check_ties.nd rfl (by first | exact .inl rfl | exact .inr rfl)) (pgs_cons (pg_name (i := 4) sc_check_ties.nd rfl (by first | exact .inl rfl | exact .inr rfl)) pgs_nil))) (pss_cons (ps_if (pt_not (pt_val (pe_call G_is_tie (hr.mono (by decide)) (by rfl) T.g_is_tie T.F_is_tie.kp T.b_is_tie .nil pass0 (pa_cons (pv 4) (pa_cons (pv 1) pa_nil))))) (pss_one ps_never) pss_nil)
      (pss_cons (ps_set (i := 5) sc_check_ties.nd rfl (by first | exact .inl rfl | exact .inr rfl) (pe_callTy call_tuple_of (by rfl) T.z_tuple (by decide +kernel) (pa_cons (pe_callB (cr_sortedK (K := K) rfl) (by rfl) T.z_sorted (by decide +kernel) (pa_cons (pv 4) pa_nil)) pa_nil)))
      (pss_cons (ps_if (pt_cmpR (op_inW (hu10 hr)) (pv 5) (pv 2) (by rfl)) (pss_one ps_never) pss_nil)
      (pss_one (ps_expr (pe_saddW (hu10 hr) (pv 2) (pa_cons (pv 5) pa_nil))))))))))), ?_⟩
    refine ⟨_, rfl, _, _, .type "list", .type "list", true, rfl, .ty _, ty_list hS, kit_ty (by decide +kernel), true, rfl, iteF ?_⟩
    refine ⟨rfl, fun p np => ?_⟩
    have e0 : Ex H (upd H p (SetWO P w p [])) := Ex.new np
    refine ⟨.ref a, rfl, a, as.map V.ref, rfl, ex_l e0 hS, ?_⟩
    refine for_enumL (xs := as.map V.ref) (fun i σ' H' => (∃ y3 y4 y5, σ' = [some (.ref a), some (.int n), some (.ref p), y3, y4, y5]) ∧ Ex H H' ∧
        ∃ L, H' p = some (SetWO P w p L) ∧ L.length ≤ i ∧ (∀ x ∈ L, SqT K H' x.1 (x.2.map V.int)) ∧ ∀ k, k ∈ L.map (·.2) → k ∈ (ts.take i).map key2)
      ⟨⟨none, none, none, rfl⟩, e0, [], upd_same, Nat.le_refl _, (fun x hx => by cases hx), (fun k hk => by cases hk)⟩ (fun i σ' H' z => ex_l z.2.1 hS) ?_ ?_
    · rintro i x Tt σ' H' hx ⟨⟨y3, y4, y5, rfl⟩, e1, L, hp, hLi, hLt, hLk⟩ nT
      obtain ⟨b, hb, rfl⟩ := map_at hx
      have hi : i < ts.length := by rw [← hlen]; exact (List.getElem?_eq_some_iff.mp hb).1
      obtain ⟨t, ht⟩ : ∃ t, ts[i]? = some t := ⟨_, List.getElem?_eq_getElem hi⟩
      have tok := N.ok t (List.mem_of_getElem? ht)
      have e2 : Ex H' (upd H' Tt (.tup [.int (i : Nat), .ref b])) := Ex.new nT
      refine ⟨Tt, _, rfl, .inl (.inl upd_same), rfl, _, _, rfl, _, _, rfl, rfl, ?_⟩
      -- if not is_tie(tie, seats)
      refine ⟨_, rfl, _, rfl, b, t.1, t.2, n, rfl, ex_l (e1.trans e2) (hat i b t hb ht), tok.1, tok.2.1, tok.2.2, fun H3 e3 => ?_⟩
      refine ⟨true, rfl, iteF ?_⟩
      -- pair = tuple(sorted(tie))
      refine ⟨_, rfl, b, [t.1, t.2], rfl, ex_l ((e1.trans e2).trans e3) (hat i b t hb ht), (by show 2 < 64; decide), fun ns' p4 pm sr np4 => ?_⟩
      obtain rfl := sorted_two pm sr
      have e4 : Ex H3 (upd H3 p4 (.lst ((key2 t).map V.int))) := Ex.new np4
      refine ⟨p4, _, rfl, .inl ⟨.inl (.inl upd_same), fun tp ntp => ?_⟩⟩
      have e5 : Ex (upd H3 p4 (.lst ((key2 t).map V.int))) (upd (upd H3 p4 (.lst ((key2 t).map V.int))) tp (.tup ((key2 t).map V.int))) := Ex.new ntp
      have eall := (e2.trans e3).trans (e4.trans e5)
      have tpat : SqT K (upd (upd H3 p4 (.lst ((key2 t).map V.int))) tp (.tup ((key2 t).map V.int))) tp ((key2 t).map V.int) := .inl (.inl upd_same)
      generalize upd (upd H3 p4 (.lst ((key2 t).map V.int))) tp (.tup ((key2 t).map V.int)) = H5 at e5 eall tpat
      have hp5 := eall _ _ hp
      have hL5 : ∀ x ∈ L, SqT K H5 x.1 (x.2.map V.int) := fun x hx => ex_t eall (hLt x hx)
      have fresh : key2 t ∉ L.map (·.2) := fun z => by
        obtain ⟨t', ht', e⟩ := List.mem_map.mp (hLk _ z)
        have e := key2_inj e
        have h1 : (ts.map nrm)[i]? = some (nrm t) := by rw [List.getElem?_map, ht]; rfl
        refine nodup_at N.nd h1 ?_
        rw [← List.map_take]
        exact List.mem_map.mpr ⟨t', ht', e⟩
      -- if pair in tied
      refine ⟨_, rfl, _, rfl, p, tp, key2 t, L, rfl, rfl, hp5, tpat, hL5, ?_⟩
      rw [decide_eq_false fresh]
      refine ⟨false, rfl, iteF ?_⟩
      -- tied.add(pair)
      have few := N.few
      refine ⟨_, rfl, ⟨p, L, rfl, hp5⟩, _, rfl, p, tp, key2 t, L, rfl, rfl, hp5, tpat, hL5, by omega, fun L' _ hL' => ?_⟩
      have pm := hL' fresh
      refine ⟨⟨_, _, _, rfl⟩, Ex.mut (e1.trans eall) np, L', upd_same, by rw [pm.length_eq]; simp; omega, fun x hx => ?_, fun k hk => ?_⟩
      · have e6 : SqT K H5 x.1 (x.2.map V.int) := by
          rcases List.mem_cons.mp (pm.mem_iff.mp hx) with rfl | hx
          · exact tpat
          · exact hL5 x hx
        exact sqT_upd e6 hp5 (fun ys z => by cases z) (fun ob u z => by cases z)
      · rw [take_snoc ht, List.map_append, List.mem_append]
        rcases List.mem_cons.mp ((pm.map (·.2)).mem_iff.mp hk) with rfl | hk
        · exact .inr (by simp)
        · exact .inl (hLk k hk)
    · rintro σ' H' ⟨_, e1, _⟩
      exact q H' e1
def sp_check_net (K : PySem.W.Frag) : Sp := fun vs H Q _ => ∃ (a : Addr) (ts : List (Int × Int)) (n : Int), vs = [.int n, .ref a] ∧ TiesAt K H a ts ∧ NetOk n ts ∧ RetV .non H Q
theorem ok_check_net (T : Txt K mg A) : FnOk P w K mg base CX0 5 A.f_check_net A.d_check_net ["seats", "ties"] (sp_check_net K) := by
  have G_check_count : FnOk P w K mg base CX0 2 A.f_check_count A.d_check_count ["number"] sp_check_count := ok_check_count T
  have G_check_ties : FnOk P w K mg base CX0 4 A.f_check_ties A.d_check_ties ["ties", "seats"] (sp_check_ties K) := ok_check_ties T
  refine T.F_check_net.ok sc_check_net (fun vs H Q E h => ?_) (fun cdv A' outer s H vs Q E hr h => ?_)
  · obtain ⟨a, ts, n, rfl, _⟩ := h
    rfl
  · obtain ⟨a, ts, n, rfl, hT, N, q⟩ := h
    refine ⟨_, (pss_cons (ps_expr (pe_call G_check_count (hr.mono (by decide)) (by rfl) T.g_check_count T.F_check_count.kp T.b_check_count .nil pass0 (pa_cons (pv 0) pa_nil)))
      (pss_one (ps_expr (pe_call G_check_ties (hr.mono (by decide)) (by rfl) T.g_check_ties T.F_check_ties.kp T.b_check_ties .nil pass0 (pa_cons (pv 1) (pa_cons (pv 0) pa_nil)))))), ?_⟩
    refine ⟨_, rfl, n, rfl, N.lo, N.hi, fun H1 e1 => ?_⟩
    refine ⟨_, rfl, _, rfl, a, ts, n, rfl, hT.mono e1, N, fun H2 e2 => ?_⟩
    exact q H2 (e1.trans e2)
/-! ### standings, orders, calls -/
def sp_check_standing (K : PySem.W.Frag) : Sp := fun vs H Q _ => ∃ (a : Addr) (st : List Int) (n : Nat), vs = [.ref a, .int (n : Int)] ∧ SqL K H a (st.map V.int) ∧ MR.Stn n st ∧ n ≤ 1000 ∧ RetV .non H Q
theorem ok_check_standing (T : Txt K mg A) : FnOk P w K mg base CX0 3 A.f_check_standing A.d_check_standing ["standing", "seats"] (sp_check_standing K) := by
  have G_first_wrong : FnOk P w K mg base CX0 2 A.f_first_wrong A.d_first_wrong ["things", "most"] (sp_first_wrong K) := ok_first_wrong T
  refine T.F_check_standing.ok sc_check_standing (fun vs H Q E h => ?_) (fun cdv A' outer s H vs Q E hr h => ?_)
  · obtain ⟨a, st, n, rfl, _⟩ := h
    rfl
  · obtain ⟨a, st, n, rfl, hS, S, hn, q⟩ := h
    refine ⟨_, (pss_cons (ps_if (PW.pt (pw_or (pt_not (pt_val (pe_callB call_isi (by rfl) T.z_isinstance (by decide +kernel) (pa_cons (pv 0) (pa_cons (pe_bltn (v := .ty "list") (by rfl) T.z_list (by decide +kernel) rfl) pa_nil))))) (pw_or1 (pt_cmpR op_ne (pe_callB (call_lenK (K := K) rfl) (by rfl) T.z_len PySem.boot_len (pa_cons (pv 0) pa_nil)) (pv 1) (nomark _))))) (pss_one ps_never) pss_nil)
      (pss_cons (ps_set (i := 2) sc_check_standing.nd rfl (by first | exact .inl rfl | exact .inr rfl) (pe_call G_first_wrong (hr.mono (by decide)) (by rfl) T.g_first_wrong T.F_first_wrong.kp T.b_first_wrong .nil pass0 (pa_cons (pv 0) (pa_cons (pv 1) pa_nil))))
      (pss_one (ps_if (pt_cmp (pc_notN (pv 2))) (pss_one ps_never) pss_nil)))), ?_⟩
    refine ⟨_, rfl, _, _, .type "list", .type "list", true, rfl, .ty _, ty_list hS, kit_ty (by decide +kernel), true, rfl, iteF ?_⟩
    refine ⟨_, rfl, a, _, rfl, .inl hS, _, rfl, rfl, _, rfl, ?_⟩
    rw [decide_eq_true (show V.int ((st.map V.int).length : Int) = V.int (n : Int) by rw [List.length_map, S.len])]
    refine iteF ?_
    refine ⟨_, rfl, _, rfl, a, st, (n : Int), rfl, hS, S.nd, S.lo, by rw [S.len]; exact hn, fun H1 e1 => ?_⟩
    refine ⟨_, rfl, _, rfl, ?_⟩
    rw [decide_eq_true (show V.non = V.non from rfl)]
    exact iteF (q H1 e1)
def sp_check_order_of (K : PySem.W.Frag) : Sp := sp_check_standing K
theorem ok_check_order_of (T : Txt K mg A) : FnOk P w K mg base CX0 3 A.f_check_order_of A.d_check_order_of ["order", "count"] (sp_check_order_of K) := by
  have G_first_wrong : FnOk P w K mg base CX0 2 A.f_first_wrong A.d_first_wrong ["things", "most"] (sp_first_wrong K) := ok_first_wrong T
  refine T.F_check_order_of.ok sc_check_order_of (fun vs H Q E h => ?_) (fun cdv A' outer s H vs Q E hr h => ?_)
  · obtain ⟨a, st, n, rfl, _⟩ := h
    rfl
  · obtain ⟨a, st, n, rfl, hS, S, hn, q⟩ := h
    refine ⟨_, (pss_cons (ps_if (PW.pt (pw_or (pt_not (pt_val (pe_callB call_isi (by rfl) T.z_isinstance (by decide +kernel) (pa_cons (pv 0) (pa_cons (pe_bltn (v := .ty "list") (by rfl) T.z_list (by decide +kernel) rfl) pa_nil))))) (pw_or1 (pt_cmpR op_ne (pe_callB (call_lenK (K := K) rfl) (by rfl) T.z_len PySem.boot_len (pa_cons (pv 0) pa_nil)) (pv 1) (nomark _))))) (pss_one ps_never) pss_nil)
      (pss_cons (ps_set (i := 2) sc_check_order_of.nd rfl (by first | exact .inl rfl | exact .inr rfl) (pe_call G_first_wrong (hr.mono (by decide)) (by rfl) T.g_first_wrong T.F_first_wrong.kp T.b_first_wrong .nil pass0 (pa_cons (pv 0) (pa_cons (pv 1) pa_nil))))
      (pss_one (ps_if (pt_cmp (pc_notN (pv 2))) (pss_one ps_never) pss_nil)))), ?_⟩
    refine ⟨_, rfl, _, _, .type "list", .type "list", true, rfl, .ty _, ty_list hS, kit_ty (by decide +kernel), true, rfl, iteF ?_⟩
    refine ⟨_, rfl, a, _, rfl, .inl hS, _, rfl, rfl, _, rfl, ?_⟩
    rw [decide_eq_true (show V.int ((st.map V.int).length : Int) = V.int (n : Int) by rw [List.length_map, S.len])]
    refine iteF ?_
    refine ⟨_, rfl, _, rfl, a, st, (n : Int), rfl, hS, S.nd, S.lo, by rw [S.len]; exact hn, fun H1 e1 => ?_⟩
    refine ⟨_, rfl, _, rfl, ?_⟩
    rw [decide_eq_true (show V.non = V.non from rfl)]
    exact iteF (q H1 e1)
def sp_check_calls (K : PySem.W.Frag) : Sp := fun vs H Q _ => ∃ (a : Addr) (cs : List Int) (n : Int), vs = [.ref a, .int n] ∧ SqL K H a (cs.map V.int) ∧ (∀ c ∈ cs, 1 ≤ c ∧ c ≤ n) ∧ RetV .non H Q
theorem ok_check_calls (T : Txt K mg A) : FnOk P w K mg base CX0 2 A.f_check_calls A.d_check_calls ["calls", "count"] (sp_check_calls K) := by
  have G_is_from_one : FnOk P w K mg base CX0 1 A.f_is_from_one A.d_is_from_one ["thing", "most"] sp_is_from_one := ok_is_from_one T
  refine T.F_check_calls.ok sc_check_calls (fun vs H Q E h => ?_) (fun cdv A' outer s H vs Q E hr h => ?_)
  · obtain ⟨a, cs, n, rfl, _⟩ := h
    rfl
  · obtain ⟨a, cs, n, rfl, hS, hc, q⟩ := h
    refine ⟨_, (pss_cons (ps_if (pt_not (pt_val (pe_callB call_isi (by rfl) T.z_isinstance (by decide +kernel) (pa_cons (pv 0) (pa_cons (pe_bltn (v := .ty "list") (by rfl) T.z_list (by decide +kernel) rfl) pa_nil))))) (pss_one ps_never) pss_nil)
      (pss_one (ps_for PassesOwn.never rfl (pi_enum (by rfl) T.z_enumerate (pa_cons (pv 0) pa_nil)) (pg_tupK (K := K) rfl rfl (pgs_cons (pg_name (i := 2) sc_check_calls.nd rfl (by first | exact .inl rfl | exact .inr rfl)) (pgs_cons (pg_name (i := 3) sc_check_calls.nd rfl (by first | exact .inl rfl | exact .inr rfl)) pgs_nil))) (pss_one (ps_if (pt_not (pt_val (pe_call G_is_from_one (hr.mono (by decide)) (by rfl) T.g_is_from_one T.F_is_from_one.kp T.b_is_from_one .nil pass0 (pa_cons (pv 3) (pa_cons (pv 1) pa_nil))))) (pss_one ps_never) pss_nil))))), ?_⟩
    refine ⟨_, rfl, _, _, .type "list", .type "list", true, rfl, .ty _, ty_list hS, kit_ty (by decide +kernel), true, rfl, iteF ?_⟩
    refine ⟨.ref a, rfl, a, cs.map V.int, rfl, hS, ?_⟩
    refine for_enumL (xs := cs.map V.int) (fun i σ' H' => (∃ y2 y3, σ' = [some (.ref a), some (.int n), y2, y3]) ∧ Ex H H')
      ⟨⟨none, none, rfl⟩, Ex.refl H⟩ (fun i σ' H' z => ex_l z.2 hS) ?_ ?_
    · rintro i x Tt σ' H' hx ⟨⟨y2, y3, rfl⟩, e1⟩ nT
      obtain ⟨c, hcc, rfl⟩ := map_at hx
      have mem : c ∈ cs := List.mem_of_getElem? hcc
      have e2 : Ex H' (upd H' Tt (.tup [.int (i : Nat), .int c])) := Ex.new nT
      refine ⟨Tt, _, rfl, .inl (.inl upd_same), rfl, _, _, rfl, _, _, rfl, rfl, ?_⟩
      refine ⟨_, rfl, _, rfl, c, n, rfl, fun H3 e3 => ?_⟩
      rw [decide_eq_true (hc c mem)]
      exact ⟨true, rfl, iteF ⟨⟨_, _, rfl⟩, (e1.trans e2).trans e3⟩⟩
    · rintro σ' H' ⟨_, e1⟩
      exact q H' e1
def sp_check_many : Sp := fun vs H Q _ => ∃ m : Int, vs = [.int m] ∧ RetV .non H Q
theorem ok_check_many (T : Txt K mg A) : FnOk P w K mg base CX0 2 A.f_check_many A.d_check_many ["many"] sp_check_many := by
  have G_is_whole : FnOk P w K mg base CX0 1 A.f_is_whole A.d_is_whole ["thing"] sp_is_whole := ok_is_whole T
  refine T.F_check_many.ok sc_check_many (fun vs H Q E h => ?_) (fun cdv A' outer s H vs Q E hr h => ?_)
  · obtain ⟨m, rfl, _⟩ := h
    rfl
  · obtain ⟨m, rfl, q⟩ := h
    refine ⟨_, (pss_one (ps_if (pt_not (pt_val (pe_call G_is_whole (hr.mono (by decide)) (by rfl) T.g_is_whole T.F_is_whole.kp T.b_is_whole .nil pass0 (pa_cons (pv 0) pa_nil)))) (pss_one ps_never) pss_nil)), ?_⟩
    refine ⟨_, rfl, m, rfl, fun H1 e1 => ?_⟩
    exact ⟨true, rfl, iteF (q H1 e1)⟩
end
end K20

namespace K20
open PySem PySem.Spec PyProof.Rows L2 Vf Evl StX
/-! ### places and calls -/
theorem fm (c : Int) {n : Int} (h : 0 < n) : c.fmod n = c % n := Int.fmod_eq_emod_of_nonneg c (by omega)
/-- which seats are tied, as the program keeps it -/
def tdRow (td : Int → Int → Bool) (n i : Nat) : List V := (List.range (n + 1)).map fun j : Nat => V.bl (td (i : Int) (j : Int))
def tdM (td : Int → Int → Bool) (n : Nat) : List (List V) := (List.range (n + 1)).map (tdRow td n)
theorem tdM_at {td : Int → Int → Bool} {n i : Nat} (h : i ≤ n) : (tdM td n)[i]? = some (tdRow td n i) := by
  unfold tdM
  rw [List.getElem?_map, List.getElem?_range (by omega)]
  rfl
theorem tdRow_at {td : Int → Int → Bool} {n i j : Nat} (h : j ≤ n) : (tdRow td n i)[j]? = some (V.bl (td (i : Int) (j : Int))) := by
  unfold tdRow
  rw [List.getElem?_map, List.getElem?_range (by omega)]
  rfl
/-- one tie more, one way about -/
def td1 (td : Int → Int → Bool) (a b : Int) : Int → Int → Bool := fun x y => td x y || (decide (x = a) && decide (y = b))
theorem tdM_put {td : Int → Int → Bool} {n : Nat} {a b : Nat} (ha : a ≤ n) (hb : b ≤ n) : (tdM td n).set a ((tdRow td n a).set b (.bl true)) = tdM (td1 td (a : Int) (b : Int)) n := by
  refine List.ext_getElem? fun i => ?_
  by_cases hi : i ≤ n
  · by_cases e : i = a
    · subst e
      rw [List.getElem?_set_self (by unfold tdM; rw [List.length_map, List.length_range]; omega), tdM_at hi]
      refine congrArg some (List.ext_getElem? fun j => ?_)
      by_cases hj : j ≤ n
      · rw [tdRow_at hj]
        by_cases e2 : j = b
        · subst e2
          rw [List.getElem?_set_self (by unfold tdRow; rw [List.length_map, List.length_range]; omega)]
          unfold td1
          simp
        · rw [List.getElem?_set_ne (fun z => e2 z.symm), tdRow_at hj]
          unfold td1
          rw [decide_eq_false (show ¬ ((j : Int) = (b : Int)) by omega), Bool.and_false, Bool.or_false]
      · rw [List.getElem?_eq_none (by rw [List.length_set]; unfold tdRow; rw [List.length_map, List.length_range]; omega), List.getElem?_eq_none (by unfold tdRow; rw [List.length_map, List.length_range]; omega)]
    · rw [List.getElem?_set_ne (fun z => e z.symm), tdM_at hi, tdM_at hi]
      refine congrArg some (List.map_congr_left fun j _ => ?_)
      unfold td1
      rw [decide_eq_false (show ¬ ((i : Int) = (a : Int)) by omega), Bool.false_and, Bool.or_false]
  · rw [List.getElem?_eq_none (by rw [List.length_set]; unfold tdM; rw [List.length_map, List.length_range]; omega), List.getElem?_eq_none (by unfold tdM; rw [List.length_map, List.length_range]; omega)]
theorem tdF_nil : MR.tdF [] = fun _ _ => false := by
  funext a b
  simp [MR.tdF]
theorem tdF_snoc (ts : List (Int × Int)) (t : Int × Int) : MR.tdF (ts ++ [t]) = td1 (td1 (MR.tdF ts) t.1 t.2) t.2 t.1 := by
  funext a b
  obtain ⟨x, y⟩ := t
  unfold MR.tdF td1
  rw [Bool.eq_iff_iff]
  simp only [Bool.or_eq_true, Bool.and_eq_true, decide_eq_true_eq, List.mem_append, List.mem_singleton, Prod.mk.injEq]
  grind
/-- the table of ties, seen from H -/
def TdAt (K : PySem.W.Frag) (H2 : Hp) (D : Addr) (n : Nat) (td : Int → Int → Bool) : Prop := ∃ ps : List Addr, SqL K H2 D (ps.map V.ref) ∧ ps.length = n + 1 ∧ ∀ (i : Nat) (p : Addr), ps[i]? = some p → SqL K H2 p (tdRow td n i)
theorem TdAt.on {K : PySem.W.Frag} {H H' : Hp} {D : Addr} {n : Nat} {td : Int → Int → Bool} (h : TdAt K H D n td) (e : Ex H H') : TdAt K H' D n td := by
  obtain ⟨ps, a, b, c⟩ := h
  exact ⟨ps, ex_l e a, b, fun i p x => ex_l e (c i p x)⟩
theorem td_of {K : PySem.W.Frag} {H H2 : Hp} {D : Addr} {n : Nat} {td : Int → Int → Bool} (h : LLN H H2 D (tdM td n)) : TdAt K H2 D n td := by
  obtain ⟨ps, a, b, c, d, e⟩ := h
  have hl : ps.length = n + 1 := by rw [b]; unfold tdM; rw [List.length_map, List.length_range]
  refine ⟨ps, .inl (.inl a), hl, fun i p x => .inl (.inl (e i p _ x (tdM_at ?_)).2)⟩
  have := (List.getElem?_eq_some_iff.mp x).1
  omega
/-- a list of pairs of people -/
def PairsAt (K : PySem.W.Frag) (H : Hp) (a : Addr) (cs : List (Int × Int)) : Prop := ∃ as : List Addr, SqL K H a (as.map V.ref) ∧ as.length = cs.length ∧ ∀ (i : Nat) (b : Addr) (c : Int × Int), as[i]? = some b → cs[i]? = some c → SqT K H b [.int c.1, .int c.2]
theorem PairsAt.on {K : PySem.W.Frag} {H H' : Hp} {a : Addr} {cs : List (Int × Int)} (h : PairsAt K H a cs) (e : Ex H H') : PairsAt K H' a cs := by
  obtain ⟨as, x, y, z⟩ := h
  exact ⟨as, ex_l e x, y, fun i b c p q => ex_t e (z i b c p q)⟩
section
variable {P : Program} {w : World} {K : PySem.W.Frag} {mg : Str → Option Value} {base : Heap} {A : Ad}
def sp_next_call : Sp := fun vs H Q _ => ∃ c n : Int, vs = [.int c, .int n] ∧ 0 < n ∧ RetV (.int (MR.nxt n c)) H Q
theorem ok_next_call (T : Txt K mg A) : FnOk P w K mg base CX0 1 A.f_next_call A.d_next_call ["call", "count"] sp_next_call := by
  refine T.F_next_call.ok sc_next_call (fun vs H Q E h => ?_) (fun cdv A' outer s H vs Q E hr h => ?_)
  · obtain ⟨c, n, rfl, _⟩ := h
    rfl
  · obtain ⟨c, n, rfl, hn, q⟩ := h
    refine ⟨_, (pss_one (ps_ret (pe_op op_add (pe_op op_modN (pv 0) (pv 1)) pe_int))), ?_⟩
    refine ⟨_, rfl, _, rfl, _, _, rfl, rfl, (by show n ≠ 0; omega), _, _, rfl, rfl, ?_⟩
    have z := q H (Ex.refl H)
    unfold MR.nxt at z
    rw [fm c hn]
    exact z
def sp_turned_about (K : PySem.W.Frag) : Sp := fun vs H Q _ => ∃ (a : Addr) (r : List Int) (N : Nat), vs = [.ref a] ∧ SqL K H a (r.map V.int) ∧ MR.Row N r ∧ N ≤ 1000 ∧ RetL ((MR.turnF r).map V.int) H Q
theorem ok_turned_about (T : Txt K mg A) : FnOk P w K mg base CX0 1 A.f_turned_about A.d_turned_about ["row"] (sp_turned_about K) := by
  refine T.F_turned_about.ok sc_turned_about (fun vs H Q E h => ?_) (fun cdv A' outer s H vs Q E hr h => ?_)
  · obtain ⟨a, r, N, rfl, _⟩ := h
    rfl
  · obtain ⟨a, r, N, rfl, hS, R, hN, q⟩ := h
    refine ⟨_, (pss_cons (ps_set (i := 1) sc_turned_about.nd rfl (by first | exact .inl rfl | exact .inr rfl) (pe_callTy (call_listK (K := K) rfl) (by rfl) T.z_list (by decide +kernel) (pa_cons (pv 0) pa_nil)))
      (pss_cons (ps_for PassesOwn.never rfl (pi_enum (by rfl) T.z_enumerate (pa_cons (pv 0) pa_nil)) (pg_tupK (K := K) rfl rfl (pgs_cons (pg_name (i := 2) sc_turned_about.nd rfl (by first | exact .inl rfl | exact .inr rfl)) (pgs_cons (pg_name (i := 3) sc_turned_about.nd rfl (by first | exact .inl rfl | exact .inr rfl)) pgs_nil))) (pss_one (ps_asg (pv 2) (pg_sub (pv 1) (pv 3) set_list))))
      (pss_one (ps_ret (pv 1))))), ?_⟩
    refine ⟨_, rfl, a, _, rfl, .inl hS, fun f nf => ?_⟩
    have e0 : Ex H (upd H f (.lst (r.map V.int))) := Ex.new nf
    refine ⟨.ref a, rfl, a, r.map V.int, rfl, ex_l e0 hS, ?_⟩
    refine for_enumL (xs := r.map V.int) (fun i σ' H' => (∃ y2 y3, σ' = [some (.ref a), some (.ref f), y2, y3]) ∧ Ex H H' ∧ H' f = some (.lst ((MR.turnS r r i).map V.int)))
      ⟨⟨none, none, rfl⟩, e0, upd_same⟩ (fun i σ' H' z => ex_l z.2.1 hS) ?_ ?_
    · rintro i x Tt σ' H' hx ⟨⟨y2, y3, rfl⟩, e1, hf⟩ nT
      obtain ⟨c, hc, rfl⟩ := map_at hx
      have mem := List.mem_of_getElem? hc
      have b := R.lo c mem
      have e2 : Ex H' (upd H' Tt (.tup [.int (i : Nat), .int c])) := Ex.new nT
      refine ⟨Tt, _, rfl, .inl (.inl upd_same), rfl, _, _, rfl, _, _, rfl, rfl, ?_⟩
      have hf2 := e2 _ _ hf
      have hl : (MR.turnS r r i).length = N := by rw [MR.turnS_len, R.len]
      refine ⟨_, rfl, _, rfl, _, rfl, f, _, c, c.toNat, rfl, rfl, hf2, ?_, ?_⟩
      · rw [List.length_map, hl]
        have := ixN_nat (n := N) (j := c.toNat) (by omega)
        rw [show ((c.toNat : Nat) : Int) = c by omega] at this
        exact this
      · refine ⟨⟨_, _, rfl⟩, Ex.mut (e1.trans e2) nf, ?_⟩
        rw [upd_same, MR.turnS_succ, List.getD_eq_getElem?_getD, hc, Option.getD_some, List.map_set]
    · rintro σ' H' ⟨⟨y2, y3, rfl⟩, e1, hf⟩
      rw [List.length_map] at hf
      exact ⟨_, rfl, q f H' nf e1 hf⟩
def sp_places_of (K : PySem.W.Frag) : Sp := fun vs H Q _ => ∃ (a : Addr) (st : List Int) (n : Nat), vs = [.ref a] ∧ SqL K H a (st.map V.int) ∧ MR.Stn n st ∧ n ≤ 900 ∧ RetL ((MR.plOf st).map V.int) H Q
theorem ok_places_of (T : Txt K mg A) : FnOk P w K mg base CX0 2 A.f_places_of A.d_places_of ["standing"] (sp_places_of K) := by
  have G_turned_about : FnOk P w K mg base CX0 1 A.f_turned_about A.d_turned_about ["row"] (sp_turned_about K) := ok_turned_about T
  refine T.F_places_of.ok sc_places_of (fun vs H Q E h => ?_) (fun cdv A' outer s H vs Q E hr h => ?_)
  · obtain ⟨a, st, n, rfl, _⟩ := h
    rfl
  · obtain ⟨a, st, n, rfl, hS, S, hn, q⟩ := h
    refine ⟨_, (pss_one (ps_ret (pe_call G_turned_about (hr.mono (by decide)) (by rfl) T.g_turned_about T.F_turned_about.kp T.b_turned_about .nil pass0 (pa_cons (pe_lst (pa_cons pe_int (pa_star (pv 0) pa_nil))) pa_nil)))), ?_⟩
    refine ⟨_, rfl, a, st.map V.int, rfl, .inr hS, ?_⟩
    refine ⟨sz_of (by simp [S.len]; omega), fun p np => ?_⟩
    have e1 : Ex H (upd H p (.lst (V.int 0 :: (st.map V.int ++ [])))) := Ex.new np
    refine ⟨p, 0 :: st, n + 1, rfl, .inl (.inl ?_), S.row, by omega, fun p2 H2 np2 e2 h2 => q p2 H2 (fresh_back e1 np2) (e1.trans e2) h2⟩
    rw [List.append_nil]
    exact upd_same
def sp_standing_of (K : PySem.W.Frag) : Sp := fun vs H Q _ => ∃ (a : Addr) (pl : List Int) (n : Nat), vs = [.ref a] ∧ SqL K H a (pl.map V.int) ∧ MR.Plc n pl ∧ n ≤ 900 ∧ RetL ((MR.stOf pl).map V.int) H Q
theorem ok_standing_of (T : Txt K mg A) : FnOk P w K mg base CX0 2 A.f_standing_of A.d_standing_of ["places"] (sp_standing_of K) := by
  have G_turned_about : FnOk P w K mg base CX0 1 A.f_turned_about A.d_turned_about ["row"] (sp_turned_about K) := ok_turned_about T
  refine T.F_standing_of.ok sc_standing_of (fun vs H Q E h => ?_) (fun cdv A' outer s H vs Q E hr h => ?_)
  · obtain ⟨a, pl, n, rfl, _⟩ := h
    rfl
  · obtain ⟨a, pl, n, rfl, hS, Pl, hn, q⟩ := h
    refine ⟨_, (pss_one (ps_ret (pe_slice (sl_listK (K := K) rfl) (pe_call G_turned_about (hr.mono (by decide)) (by rfl) T.g_turned_about T.F_turned_about.kp T.b_turned_about .nil pass0 (pa_cons (pv 0) pa_nil)) (po_some pe_int) po_none))), ?_⟩
    refine ⟨_, rfl, a, pl, n + 1, rfl, hS, Pl.row, by omega, fun p H2 np e2 h2 => ?_⟩
    refine ⟨1, rfl, p, _, rfl, .inl (.inl h2), fun p3 np3 => ?_⟩
    have e : cutV ((MR.turnF pl).map V.int) (some 1) none = (MR.stOf pl).map V.int := by
      rw [Pl.turn]
      unfold cutV
      rw [HT.sIx_none]
      have z : HT.sIx ((0 :: MR.stOf pl).map V.int).length 0 (some ((1 : Nat) : Int)) = 1 := by
        rw [HT.sIx_nat]
        simp only [List.length_map, List.length_cons]
        omega
      rw [show (1 : Int) = ((1 : Nat) : Int) from rfl, z]
      simp [List.take_of_length_le]
    rw [e]
    exact q p3 _ (fresh_back e2 np3) (e2.trans (Ex.new np3)) upd_same
end
end K20

namespace K20
open PySem PySem.Spec PyProof.Rows L2 Vf Evl StX
theorem atI_refs {ps : List Addr} {i : Nat} {p : Addr} (h : ps[i]? = some p) : atI (ps.map V.ref) (i : Int) = some (.ref p) := atI_nat (by rw [List.getElem?_map, h]; rfl)
/-- a place of the table written -/
theorem td_put {H H2 : Hp} {D : Addr} {n : Nat} {td : Int → Int → Bool} (h : LLN H H2 D (tdM td n)) (e : Ex H H2) {a b : Int} (ha : 1 ≤ a ∧ a ≤ n) (hb : 1 ≤ b ∧ b ≤ n) :
    ∃ (ps : List Addr) (p : Addr), H2 D = some (.lst (ps.map V.ref)) ∧ atI (ps.map V.ref) a = some (.ref p) ∧ H2 p = some (.lst (tdRow td n a.toNat)) ∧ ixN (tdRow td n a.toNat).length b = some b.toNat ∧
      LLN H (upd H2 p (.lst ((tdRow td n a.toNat).set b.toNat (.bl true)))) D (tdM (td1 td a b) n) ∧ Ex H (upd H2 p (.lst ((tdRow td n a.toNat).set b.toNat (.bl true)))) := by
  obtain ⟨ps, p, h1, h2, h3, h4, h5⟩ := h.put (tdM_at (i := a.toNat) (by omega))
  refine ⟨ps, p, h1, ?_, h4, ?_, ?_, Ex.mut e h3⟩
  · have := atI_refs h2
    rwa [show ((a.toNat : Nat) : Int) = a by omega] at this
  · have : (tdRow td n a.toNat).length = n + 1 := by unfold tdRow; rw [List.length_map, List.length_range]
    rw [this]
    have z := ixN_nat (n := n + 1) (j := b.toNat) (by omega)
    rwa [show ((b.toNat : Nat) : Int) = b by omega] at z
  · have := h5 ((tdRow td n a.toNat).set b.toNat (.bl true))
    rw [tdM_put (a := a.toNat) (b := b.toNat) (by omega) (by omega)] at this
    rwa [show ((a.toNat : Nat) : Int) = a by omega, show ((b.toNat : Nat) : Int) = b by omega] at this
section
variable {P : Program} {w : World} {K : PySem.W.Frag} {mg : Str → Option Value} {base : Heap} {A : Ad}
def sp_tied_seats (K : PySem.W.Frag) : Sp := fun vs H Q _ => ∃ (a : Addr) (ts : List (Int × Int)) (n : Nat), vs = [.int (n : Int), .ref a] ∧ TiesAt K H a ts ∧ NetOk (n : Int) ts ∧
  ∀ D H2, H D = none → Ex H H2 → TdAt K H2 D n (MR.tdF ts) → Q (.ref D) H2
theorem ok_tied_seats (T : Txt K mg A) : FnOk P w K mg base CX0 1 A.f_tied_seats A.d_tied_seats ["seats", "ties"] (sp_tied_seats K) := by
  refine T.F_tied_seats.ok sc_tied_seats (fun vs H Q E h => ?_) (fun cdv A' outer s H vs Q E hr h => ?_)
  · obtain ⟨a, ts, n, rfl, _⟩ := h
    rfl
  · obtain ⟨a, ts, n, rfl, hT, N, q⟩ := h
    obtain ⟨as, hS, hlen, hat⟩ := hT
    have n1 := N.lo
    have n2 := N.hi
    refine ⟨_, (pss_cons (ps_setLc (i := 2) (own := [("_", 5)]) rfl sc_tied_seats.nd rfl rfl (sw_true rfl rfl rfl (by decide +kernel)) (pi_range1 (by rfl) T.z_range (pa_cons (pe_op op_add (pv 0) pe_int) pa_nil)) (blkOk_by (by kernel_rfl)) (fun _ _ _ _ _ => (pg_name (i := 5) sc_tied_seats.nd rfl (by first | exact .inl rfl | exact .inr rfl))) (fun _ _ _ _ _ => pts_nil) (fun _ _ _ _ _ => (pe_op op_rep (pe_lst (pa_cons pe_bl pa_nil)) (pe_op op_add (pv 0) pe_int))))
      (pss_cons (ps_for PassesOwn.never rfl (pi_listK (K := K) rfl (pv 1)) (pg_unlK (K := K) rfl rfl (pgs_cons (pg_name (i := 3) sc_tied_seats.nd rfl (by first | exact .inl rfl | exact .inr rfl)) (pgs_cons (pg_name (i := 4) sc_tied_seats.nd rfl (by first | exact .inl rfl | exact .inr rfl)) pgs_nil))) (pss_cons (ps_asg pe_bl (pg_sub (pe_ix (ix_listK (K := K) rfl) (pv 2) (pv 3) (fun _ _ => rfl)) (pv 4) set_list))
      (pss_one (ps_asg pe_bl (pg_sub (pe_ix (ix_listK (K := K) rfl) (pv 2) (pv 4) (fun _ _ => rfl)) (pv 3) set_list)))))
      (pss_one (ps_ret (pv 2))))), ?_⟩
    refine q_asgLN (eln_lcR1 (n := (n : Int) + 1) (fun _ => (List.replicate ((n : Int) + 1).toNat [V.bl false]).flatten) ?_ ?_ ?_ ?_) fun D H1 nD e1 hD => ?_
    · exact ea_cons (ev_op (ev_var rfl) ev_c rv_I0) ea_nil
    · omega
    · exact fun x => rfl
    · exact fun i H1 e1 hi => el_rep (el_lst (ea_cons ev_c ea_nil) (by show 1 ≤ 100000; decide)) (ev_op (ev_var rfl) ev_c rv_I0) (by omega) (by show 1 * _ ≤ _; omega)
    have e0 : (List.replicate ((n : Int) + 1).toNat [V.bl false]).flatten = tdRow (fun _ _ => false) n 0 := by
      unfold tdRow
      rw [show ((n : Int) + 1).toNat = n + 1 by omega]
      refine List.ext_getElem? fun i => ?_
      have er : (List.replicate (n + 1) [V.bl false]).flatten = List.replicate (n + 1) (V.bl false) := by simp
      rw [er, List.getElem?_replicate, List.getElem?_map]
      by_cases c : i < n + 1
      · rw [if_pos c, List.getElem?_range c]
        rfl
      · rw [if_neg c, List.getElem?_eq_none (by rw [List.length_range]; omega)]
        rfl
    have eM : (List.range ((n : Int) + 1).toNat).map (fun _ => (List.replicate ((n : Int) + 1).toNat [V.bl false]).flatten) = tdM (MR.tdF []) n := by
      unfold tdM
      rw [e0, show ((n : Int) + 1).toNat = n + 1 by omega, tdF_nil]
      exact List.map_congr_left fun i _ => rfl
    rw [eM] at hD
    -- for one, two in ties
    refine ⟨.ref a, rfl, a, rfl, ⟨_, ex_l e1 hS⟩, ?_⟩
    refine for_list (xs := as.map V.ref) (fun i σ' H' => (∃ y3 y4, σ' = [some (.int (n : Int)), some (.ref a), some (.ref D), y3, y4, none]) ∧ Ex H H' ∧ LLN H H' D (tdM (MR.tdF (ts.take i)) n))
      ⟨⟨none, none, rfl⟩, e1, hD⟩ (fun i σ' H' _ z => ex_l z.2.1 hS) ?_ ?_
    · rintro i x σ' H' hx ⟨⟨y3, y4, rfl⟩, e2, hL⟩
      obtain ⟨b, hb, rfl⟩ := map_at hx
      have hi : i < ts.length := by rw [← hlen]; exact (List.getElem?_eq_some_iff.mp hb).1
      obtain ⟨t, ht⟩ : ∃ t, ts[i]? = some t := ⟨_, List.getElem?_eq_getElem hi⟩
      obtain ⟨k1, k2, k3⟩ := N.ok t (List.mem_of_getElem? ht)
      refine ⟨b, _, rfl, ex_l e2 (hat i b t hb ht), rfl, _, _, rfl, _, _, rfl, rfl, ?_⟩
      obtain ⟨ps, p, h1, h2, h3, h4, h5, h6⟩ := td_put hL e2 k1 k2
      refine ⟨_, rfl, _, rfl, D, _, _, _, rfl, rfl, .inl (.inl h1), h2, _, rfl, p, _, _, _, rfl, rfl, h3, h4, ?_⟩
      obtain ⟨ps', p', g1, g2, g3, g4, g5, g6⟩ := td_put h5 h6 k2 k1
      refine ⟨_, rfl, _, rfl, D, _, _, _, rfl, rfl, .inl (.inl g1), g2, _, rfl, p', _, _, _, rfl, rfl, g3, g4, ?_⟩
      refine ⟨⟨_, _, rfl⟩, g6, ?_⟩
      rw [take_snoc ht, tdF_snoc]
      exact g5
    · rintro σ' H' ⟨⟨y3, y4, rfl⟩, e2, hL⟩
      rw [List.length_map, hlen, List.take_length] at hL
      exact ⟨_, rfl, q D H' nD e2 (td_of hL)⟩
def sp_people_called (K : PySem.W.Frag) : Sp := fun vs H Q _ => ∃ (a : Addr) (cs : List Int) (n : Int), vs = [.ref a, .int n] ∧ SqL K H a (cs.map V.int) ∧ 0 < n ∧ cs.length ≤ 10000 ∧
  ∀ D H2, H D = none → Ex H H2 → PairsAt K H2 D (MR.pairsF n cs) → Q (.ref D) H2
theorem ok_people_called (T : Txt K mg A) : FnOk P w K mg base CX0 2 A.f_people_called A.d_people_called ["calls", "count"] (sp_people_called K) := by
  have G_next_call : FnOk P w K mg base CX0 1 A.f_next_call A.d_next_call ["call", "count"] sp_next_call := ok_next_call T
  refine T.F_people_called.ok sc_people_called (fun vs H Q E h => ?_) (fun cdv A' outer s H vs Q E hr h => ?_)
  · obtain ⟨a, cs, n, rfl, _⟩ := h
    rfl
  · obtain ⟨a, cs, n, rfl, hS, hn, hl, q⟩ := h
    refine ⟨_, (pss_one (ps_ret (pe_lc (own := [("call", 2)]) rfl sc_people_called.nd (pi_listK (K := K) rfl (pv 0)) (blkOk_by (by kernel_rfl)) (fun _ _ _ _ _ => (pg_name (i := 2) sc_people_called.nd rfl (by first | exact .inl rfl | exact .inr rfl))) (fun _ _ _ _ _ => pts_nil) (fun _ _ _ _ _ => (pe_tup (pa_cons (pv 2) (pa_cons (pe_call G_next_call (hr.mono (by decide)) (by rfl) T.g_next_call T.F_next_call.kp T.b_next_call .nil pass0 (pa_cons (pv 2) (pa_cons (pv 1) pa_nil))) pa_nil))))))), ?_⟩
    refine s_retLT (elt_lcL (K := K) (xs := cs.map V.int) (fun i => [V.int (cs.getD i 0), V.int (MR.nxt n (cs.getD i 0))]) (ev_var rfl) hS (by rw [List.length_map]; omega) (fun x => rfl) (fun i x H1 e1 hx => ?_)) fun D H1 nD e1 hD => ?_
    · obtain ⟨c, hc, rfl⟩ := map_at hx
      have ec : cs.getD i 0 = c := by rw [List.getD_eq_getElem?_getD, hc]; rfl
      rw [ec]
      exact eu_tup (ea_cons (ev_var rfl) (ea_cons (ev_call (ea_cons (ev_var rfl) (ea_cons (ev_var rfl) ea_nil)) fun H2 e2 Q q E => ⟨c, n, rfl, hn, q⟩) ea_nil)) (by show 2 ≤ 100000; decide)
    · refine q D H1 nD e1 ?_
      obtain ⟨ps, h1, h2, h3⟩ := hD
      rw [List.length_map, List.length_map, List.length_range] at h2
      refine ⟨ps, .inl (.inl h1), by rw [h2]; unfold MR.pairsF; rw [List.length_map], fun i b c x y => .inl (.inl ?_)⟩
      unfold MR.pairsF at y
      rw [List.getElem?_map, Option.map_eq_some_iff] at y
      obtain ⟨c0, hc, rfl⟩ := y
      have hi := (List.getElem?_eq_some_iff.mp hc).1
      refine h3 i b _ x ?_
      rw [List.length_map, List.getElem?_map, List.getElem?_range hi]
      show some [V.int (cs.getD i 0), _] = _
      rw [List.getD_eq_getElem?_getD, hc]
      rfl
def sp_places_after (K : PySem.W.Frag) : Sp := fun vs H Q _ => ∃ (a b t : Addr) (pl : List Int) (cs : List (Int × Int)) (n : Nat) (td : Int → Int → Bool), vs = [.ref a, .ref b, .ref t] ∧ SqL K H a (pl.map V.int) ∧ PairsAt K H b cs ∧ TdAt K H t n td ∧
  MR.Plc n pl ∧ (∀ c ∈ cs, MR.CallOk n c) ∧ RetL ((MR.runP td pl cs).map V.int) H Q
theorem run_more {td : Int → Int → Bool} {pl : List Int} {cs : List (Int × Int)} {i : Nat} {c : Int × Int} (h : cs[i]? = some c) : MR.runP td pl (cs.take (i + 1)) = MR.stepP td (MR.runP td pl (cs.take i)) c := by
  rw [take_snoc h, MR.run_append]
  rfl
theorem ok_places_after (T : Txt K mg A) : FnOk P w K mg base CX0 1 A.f_places_after A.d_places_after ["places", "pairs", "tied"] (sp_places_after K) := by
  refine T.F_places_after.ok sc_places_after (fun vs H Q E h => ?_) (fun cdv A' outer s H vs Q E hr h => ?_)
  · obtain ⟨a, b, t, pl, cs, n, td, rfl, _⟩ := h
    rfl
  · obtain ⟨a, b, t, pl, cs, n, td, rfl, hS, hP, hT, Pl, hC, q⟩ := h
    refine ⟨_, (pss_cons (ps_set (i := 0) sc_places_after.nd rfl (by first | exact .inl rfl | exact .inr rfl) (pe_callTy (call_listK (K := K) rfl) (by rfl) T.z_list (by decide +kernel) (pa_cons (pv 0) pa_nil)))
      (pss_cons (ps_for PassesOwn.never rfl (pi_listK (K := K) rfl (pv 1)) (pg_tupK (K := K) rfl rfl (pgs_cons (pg_name (i := 3) sc_places_after.nd rfl (by first | exact .inl rfl | exact .inr rfl)) (pgs_cons (pg_name (i := 4) sc_places_after.nd rfl (by first | exact .inl rfl | exact .inr rfl)) pgs_nil))) (pss_cons (ps_set (i := 5) sc_places_after.nd rfl (by first | exact .inl rfl | exact .inr rfl) (pe_ix (ix_listK (K := K) rfl) (pv 0) (pv 3) (fun _ _ => rfl)))
      (pss_cons (ps_set (i := 6) sc_places_after.nd rfl (by first | exact .inl rfl | exact .inr rfl) (pe_ix (ix_listK (K := K) rfl) (pv 0) (pv 4) (fun _ _ => rfl)))
      (pss_one (ps_if (pt_not (pt_val (pe_ix (ix_listK (K := K) rfl) (pe_ix (ix_listK (K := K) rfl) (pv 2) (pv 5) (fun _ _ => rfl)) (pv 6) (fun _ _ => rfl)))) (pss_cons (ps_asg (pv 6) (pg_sub (pv 0) (pv 3) set_list))
      (pss_one (ps_asg (pv 5) (pg_sub (pv 0) (pv 4) set_list)))) pss_nil)))))
      (pss_one (ps_ret (pv 0))))), ?_⟩
    refine ⟨_, rfl, a, _, rfl, .inl hS, fun p np => ?_⟩
    have e0 : Ex H (upd H p (.lst (pl.map V.int))) := Ex.new np
    obtain ⟨as, hA, hlen, hat⟩ := hP
    refine ⟨.ref b, rfl, b, rfl, ⟨_, ex_l e0 hA⟩, ?_⟩
    refine for_list (xs := as.map V.ref) (fun i σ' H' => (∃ y3 y4 y5 y6, σ' = [some (.ref p), some (.ref b), some (.ref t), y3, y4, y5, y6]) ∧ Ex H H' ∧ H' p = some (.lst ((MR.runP td pl (cs.take i)).map V.int)))
      ⟨⟨none, none, none, none, rfl⟩, e0, upd_same⟩ (fun i σ' H' _ z => ex_l z.2.1 hA) ?_ ?_
    · rintro i x σ' H' hx ⟨⟨y3, y4, y5, y6, rfl⟩, e1, hp⟩
      obtain ⟨r, hr0, rfl⟩ := map_at hx
      have hi : i < cs.length := by rw [← hlen]; exact (List.getElem?_eq_some_iff.mp hr0).1
      obtain ⟨c, hc⟩ : ∃ c, cs[i]? = some c := ⟨_, List.getElem?_eq_getElem hi⟩
      have ok := hC c (List.mem_of_getElem? hc)
      have Pi : MR.Plc n (MR.runP td pl (cs.take i)) := MR.run_plc Pl fun d hd => hC d (List.mem_of_mem_take hd)
      have hrm := run_more (td := td) (pl := pl) hc
      generalize MR.runP td pl (cs.take i) = m at hp Pi hrm
      obtain ⟨k1, k2, k3⟩ := ok
      have A1 := Pi.of k1.1 k1.2
      have A2 := Pi.of k2.1 k2.2
      have ml := Pi.row.len
      refine ⟨r, _, rfl, ex_t e1 (hat i r c hr0 hc), rfl, _, _, rfl, _, _, rfl, rfl, ?_⟩
      refine ⟨_, rfl, _, rfl, p, _, c.1, _, rfl, rfl, .inl (.inl hp), atI_int (by omega) (by omega), ?_⟩
      refine ⟨_, rfl, _, rfl, p, _, c.2, _, rfl, rfl, .inl (.inl hp), atI_int (by omega) (by omega), ?_⟩
      -- if not tied[here][there]
      obtain ⟨ps, t1, t2, t3⟩ := hT.on e1
      have hx1 : (MR.g0 m c.1).toNat < ps.length := by omega
      have hps : ps[(MR.g0 m c.1).toNat]? = some ps[(MR.g0 m c.1).toNat] := List.getElem?_eq_getElem hx1
      have a1 := atI_refs hps
      rw [show (((MR.g0 m c.1).toNat : Nat) : Int) = MR.g0 m c.1 by omega] at a1
      have a2 : atI (tdRow td n (MR.g0 m c.1).toNat) (MR.g0 m c.2) = some (V.bl (td (MR.g0 m c.1) (MR.g0 m c.2))) := by
        have z := atI_nat (tdRow_at (td := td) (n := n) (i := (MR.g0 m c.1).toNat) (j := (MR.g0 m c.2).toNat) (by omega))
        rwa [show (((MR.g0 m c.1).toNat : Nat) : Int) = MR.g0 m c.1 by omega, show (((MR.g0 m c.2).toNat : Nat) : Int) = MR.g0 m c.2 by omega] at z
      refine ⟨_, rfl, _, rfl, t, _, _, _, rfl, rfl, t1, a1, _, rfl, _, _, _, _, rfl, rfl, t3 _ _ hps, a2, ?_⟩
      by_cases tt : td (MR.g0 m c.1) (MR.g0 m c.2) = true
      · have es : MR.stepP td m c = m := by unfold MR.stepP; rw [if_pos tt]
        rw [tt]
        refine ⟨true, rfl, iteF ⟨⟨_, _, _, _, rfl⟩, e1, ?_⟩⟩
        rw [hrm, es]
        exact hp
      · have es : MR.stepP td m c = (m.set c.1.toNat (MR.g0 m c.2)).set c.2.toNat (MR.g0 m c.1) := by unfold MR.stepP; rw [if_neg tt]
        rw [Bool.eq_false_iff.mpr tt]
        have i1 : ∀ {l : List V} {k : Int}, l.length = n + 1 → 1 ≤ k → k ≤ n → ixN l.length k = some k.toNat := fun {l k} hl h1 h2 => by
          have z := ixN_nat (n := n + 1) (j := k.toNat) (by omega)
          rw [hl]
          rwa [show ((k.toNat : Nat) : Int) = k by omega] at z
        refine ⟨false, rfl, iteT ?_⟩
        refine ⟨_, rfl, _, rfl, _, rfl, p, _, c.1, _, rfl, rfl, hp, i1 (by rw [List.length_map, ml]) k1.1 k1.2, ?_⟩
        refine ⟨_, rfl, _, rfl, _, rfl, p, _, c.2, _, rfl, rfl, upd_same, i1 (by rw [List.length_set, List.length_map, ml]) k2.1 k2.2, ?_⟩
        refine ⟨⟨_, _, _, _, rfl⟩, Ex.mut (Ex.mut e1 np) np, ?_⟩
        rw [upd_same, hrm, es, List.map_set, List.map_set]
    · rintro σ' H' ⟨⟨y3, y4, y5, y6, rfl⟩, e1, hp⟩
      rw [List.length_map, hlen, List.take_length] at hp
      exact ⟨_, rfl, q p H' np e1 hp⟩
end
end K20

namespace K20
open PySem PySem.Spec PyProof.Rows L2 Vf Evl StX
/-- so many rounds, backwards if below 0 -/
def roundsZ (td : Int → Int → Bool) (n : Int) (ord : List Int) (m : Int) (pl : List Int) : List Int :=
  if 0 ≤ m then MR.it (MR.roundP td (MR.pairsF n ord)) m.toNat pl else MR.it (MR.roundP td (MR.pairsF n ord.reverse)) (-m).toNat pl
section
variable {P : Program} {w : World} {K : PySem.W.Frag} {mg : Str → Option Value} {base : Heap} {A : Ad}
def sp_called (K : PySem.W.Frag) : Sp := fun vs H Q _ => ∃ (a s c : Addr) (ts : List (Int × Int)) (st cs : List Int) (n : Nat), vs = [.int (n : Int), .ref a, .ref s, .ref c] ∧ TiesAt K H a ts ∧ NetOk (n : Int) ts ∧
  SqL K H s (st.map V.int) ∧ MR.Stn n st ∧ SqL K H c (cs.map V.int) ∧ (∀ x ∈ cs, 1 ≤ x ∧ x ≤ (n : Int)) ∧ cs.length ≤ 10000 ∧ RetL ((MR.stOf (MR.runP (MR.tdF ts) (MR.plOf st) (MR.pairsF n cs))).map V.int) H Q
theorem ok_called (T : Txt K mg A) : FnOk P w K mg base CX0 6 A.f_called A.d_called ["seats", "ties", "standing", "calls"] (sp_called K) := by
  have G_check_net : FnOk P w K mg base CX0 5 A.f_check_net A.d_check_net ["seats", "ties"] (sp_check_net K) := ok_check_net T
  have G_check_standing : FnOk P w K mg base CX0 3 A.f_check_standing A.d_check_standing ["standing", "seats"] (sp_check_standing K) := ok_check_standing T
  have G_check_calls : FnOk P w K mg base CX0 2 A.f_check_calls A.d_check_calls ["calls", "count"] (sp_check_calls K) := ok_check_calls T
  have G_standing_of : FnOk P w K mg base CX0 2 A.f_standing_of A.d_standing_of ["places"] (sp_standing_of K) := ok_standing_of T
  have G_places_after : FnOk P w K mg base CX0 1 A.f_places_after A.d_places_after ["places", "pairs", "tied"] (sp_places_after K) := ok_places_after T
  have G_places_of : FnOk P w K mg base CX0 2 A.f_places_of A.d_places_of ["standing"] (sp_places_of K) := ok_places_of T
  have G_people_called : FnOk P w K mg base CX0 2 A.f_people_called A.d_people_called ["calls", "count"] (sp_people_called K) := ok_people_called T
  have G_tied_seats : FnOk P w K mg base CX0 1 A.f_tied_seats A.d_tied_seats ["seats", "ties"] (sp_tied_seats K) := ok_tied_seats T
  refine T.F_called.ok sc_called (fun vs H Q E h => ?_) (fun cdv A' outer s0 H vs Q E hr h => ?_)
  · obtain ⟨a, s, c, ts, st, cs, n, rfl, _⟩ := h
    rfl
  · obtain ⟨a, s, c, ts, st, cs, n, rfl, hT, N, hS, S, hC, hc, hl, q⟩ := h
    have n1 := N.lo
    have n2 := N.hi
    refine ⟨_, (pss_cons (ps_expr (pe_call G_check_net (hr.mono (by decide)) (by rfl) T.g_check_net T.F_check_net.kp T.b_check_net .nil pass0 (pa_cons (pv 0) (pa_cons (pv 1) pa_nil))))
      (pss_cons (ps_expr (pe_call G_check_standing (hr.mono (by decide)) (by rfl) T.g_check_standing T.F_check_standing.kp T.b_check_standing .nil pass0 (pa_cons (pv 2) (pa_cons (pv 0) pa_nil))))
      (pss_cons (ps_expr (pe_call G_check_calls (hr.mono (by decide)) (by rfl) T.g_check_calls T.F_check_calls.kp T.b_check_calls .nil pass0 (pa_cons (pv 3) (pa_cons (pv 0) pa_nil))))
      (pss_one (ps_ret (pe_call G_standing_of (hr.mono (by decide)) (by rfl) T.g_standing_of T.F_standing_of.kp T.b_standing_of .nil pass0 (pa_cons (pe_call G_places_after (hr.mono (by decide)) (by rfl) T.g_places_after T.F_places_after.kp T.b_places_after .nil pass0 (pa_cons (pe_call G_places_of (hr.mono (by decide)) (by rfl) T.g_places_of T.F_places_of.kp T.b_places_of .nil pass0 (pa_cons (pv 2) pa_nil)) (pa_cons (pe_call G_people_called (hr.mono (by decide)) (by rfl) T.g_people_called T.F_people_called.kp T.b_people_called .nil pass0 (pa_cons (pv 3) (pa_cons (pv 0) pa_nil))) (pa_cons (pe_call G_tied_seats (hr.mono (by decide)) (by rfl) T.g_tied_seats T.F_tied_seats.kp T.b_tied_seats .nil pass0 (pa_cons (pv 0) (pa_cons (pv 1) pa_nil))) pa_nil)))) pa_nil))))))), ?_⟩
    refine ⟨_, rfl, _, rfl, a, ts, n, rfl, hT, N, fun H1 e1 => ?_⟩
    refine ⟨_, rfl, _, rfl, s, st, n, rfl, ex_l e1 hS, S, by omega, fun H2 e2 => ?_⟩
    refine ⟨_, rfl, _, rfl, c, cs, n, rfl, ex_l (e1.trans e2) hC, hc, fun H3 e3 => ?_⟩
    have e13 := (e1.trans e2).trans e3
    refine ⟨_, rfl, s, st, n, rfl, ex_l e13 hS, S, by omega, fun p H4 np e4 hp => ?_⟩
    refine ⟨_, rfl, _, rfl, c, cs, n, rfl, ex_l (e13.trans e4) hC, by omega, hl, fun b H5 nb e5 hb => ?_⟩
    refine ⟨_, rfl, _, rfl, a, ts, n, rfl, hT.mono ((e13.trans e4).trans e5), N, fun t H6 nt e6 ht => ?_⟩
    have ok := MR.pairs_ok (n := n) (by omega) hc
    refine ⟨p, b, t, MR.plOf st, MR.pairsF n cs, n, MR.tdF ts, rfl, .inl (.inl (e6 _ _ (e5 _ _ hp))), hb.on e6, ht, S.plc, ok, fun r H7 nr e7 hr7 => ?_⟩
    refine ⟨r, _, n, rfl, .inl (.inl hr7), MR.run_plc S.plc ok, by omega, fun z H8 nz e8 hz => ?_⟩
    exact q z H8 (fresh_back e13 (fresh_back e4 (fresh_back e5 (fresh_back e6 (fresh_back e7 nz))))) ((((e13.trans e4).trans e5).trans e6).trans (e7.trans e8)) hz
def sp_places_after_rounds (K : PySem.W.Frag) : Sp := fun vs H Q _ => ∃ (a b t : Addr) (pl : List Int) (cs : List (Int × Int)) (n : Nat) (td : Int → Int → Bool) (m : Int), vs = [.ref a, .ref b, .ref t, .int m] ∧ SqL K H a (pl.map V.int) ∧ PairsAt K H b cs ∧ TdAt K H t n td ∧
  MR.Plc n pl ∧ (∀ c ∈ cs, MR.CallOk n c) ∧ 0 ≤ m ∧ ∀ p H2, Ex H H2 → SqL K H2 p ((MR.it (MR.roundP td cs) m.toNat pl).map V.int) → Q (.ref p) H2
theorem ok_places_after_rounds (T : Txt K mg A) : FnOk P w K mg base CX0 2 A.f_places_after_rounds A.d_places_after_rounds ["start", "pairs", "tied", "many"] (sp_places_after_rounds K) := by
  have G_places_after : FnOk P w K mg base CX0 1 A.f_places_after A.d_places_after ["places", "pairs", "tied"] (sp_places_after K) := ok_places_after T
  refine T.F_places_after_rounds.ok sc_places_after_rounds (fun vs H Q E h => ?_) (fun cdv A' outer s0 H vs Q E hr h => ?_)
  · obtain ⟨a, b, t, pl, cs, n, td, m, rfl, _⟩ := h
    rfl
  · obtain ⟨a, b, t, pl, cs, n, td, m, rfl, hS, hP, hT, Pl, hC, hm, q⟩ := h
    refine ⟨_, (pss_cons (ps_set (i := 4) sc_places_after_rounds.nd rfl (by first | exact .inl rfl | exact .inr rfl) (pv 0))
      (pss_cons (ps_set (i := 5) sc_places_after_rounds.nd rfl (by first | exact .inl rfl | exact .inr rfl) (pv 3))
      (pss_cons (ps_set (i := 6) sc_places_after_rounds.nd rfl (by first | exact .inl rfl | exact .inr rfl) pe_int)
      (pss_cons (ps_while PassesOwn.never (pt_cmpR op_gt (pv 5) pe_int (nomark _)) (pss_cons (ps_set (i := 4) sc_places_after_rounds.nd rfl (by first | exact .inl rfl | exact .inr rfl) (pe_call G_places_after (hr.mono (by decide)) (by rfl) T.g_places_after T.F_places_after.kp T.b_places_after .nil pass0 (pa_cons (pv 4) (pa_cons (pv 1) (pa_cons (pv 2) pa_nil)))))
      (pss_cons (ps_aug (i := 5) sc_places_after_rounds.nd rfl (by first | exact .inl rfl | exact .inr rfl) pe_int ip_sub)
      (pss_cons (ps_aug (i := 6) sc_places_after_rounds.nd rfl (by first | exact .inl rfl | exact .inr rfl) pe_int ip_add)
      (pss_one (ps_if (pt_cmpR (op_eqD hr.units) (pv 4) (pv 0) (nomark _)) (pss_one (ps_aug (i := 5) sc_places_after_rounds.nd rfl (by first | exact .inl rfl | exact .inr rfl) (pv 6) ip_modN)) pss_nil))))))
      (pss_one (ps_ret (pv 4))))))), ?_⟩
    refine ⟨_, rfl, _, rfl, ?_⟩
    generalize hf : MR.roundP td cs = f at q
    refine ⟨fun k σ' H' => ∃ (p : Addr) (left made : Nat), σ' = [some (.ref a), some (.ref b), some (.ref t), some (.int m), some (.ref p), some (.int (left : Int)), some (.int (made : Int))] ∧ Ex H H' ∧ SqL K H' p ((MR.it f made pl).map V.int) ∧ k = left ∧
        MR.it f left (MR.it f made pl) = MR.it f m.toNat pl, ⟨m.toNat, a, m.toNat, 0, ?_, Ex.refl H, hS, rfl, rfl⟩, ?_⟩
    · rw [show ((m.toNat : Nat) : Int) = m by omega]
      rfl
    rintro left σ' H' ⟨p, left', made, rfl, e1, hp, rfl, hit⟩
    refine ⟨_, rfl, _, _, rfl, rfl, _, rfl, ?_⟩
    by_cases c : left = 0
    · subst c
      rw [decide_eq_false (show ¬ (0 : Int) < ((0 : Nat) : Int) by decide)]
      refine iteF ⟨_, rfl, q p H' e1 ?_⟩
      rw [← hit]
      exact hp
    · rw [decide_eq_true (show (0 : Int) < (left : Int) by omega)]
      refine iteT ⟨fun σ2 H2 => ∃ k', k' < left ∧ ∃ (p : Addr) (left made : Nat), σ2 = [some (.ref a), some (.ref b), some (.ref t), some (.int m), some (.ref p), some (.int (left : Int)), some (.int (made : Int))] ∧ Ex H H2 ∧ SqL K H2 p ((MR.it f made pl).map V.int) ∧ k' = left ∧
        MR.it f left (MR.it f made pl) = MR.it f m.toNat pl, fun σ2 H2 z => z, ?_⟩
      have Pm : MR.Plc n (MR.it f made pl) := by rw [← hf]; exact MR.it_plc hC made Pl
      refine ⟨_, rfl, _, rfl, _, rfl, p, b, t, _, cs, n, td, rfl, hp, hP.on e1, hT.on e1, Pm, hC, fun r H3 nr e3 hr3 => ?_⟩
      have er : MR.runP td (MR.it f made pl) cs = MR.it f (made + 1) pl := by rw [MR.it_succ, ← hf]; rfl
      rw [er] at hr3
      have e13 := e1.trans e3
      refine ⟨_, rfl, _, _, rfl, rfl, ?_⟩
      refine ⟨_, rfl, _, _, rfl, rfl, ?_⟩
      have hit2 : MR.it f (left - 1) (MR.it f (made + 1) pl) = MR.it f m.toNat pl := by
        rw [← hit, MR.it_succ]
        conv => rhs; rw [show left = (left - 1) + 1 by omega]
        rfl
      -- if places == start
      refine ⟨_, rfl, _, rfl, eq_ints (.inl (.inl hr3)) (ex_l e13 hS) ⟨_, rfl, ?_⟩⟩
      by_cases d : MR.it f (made + 1) pl = pl
      · rw [decide_eq_true d]
        refine iteT ⟨_, rfl, _, rfl, _, _, rfl, rfl, (by show (made : Int) + 1 ≠ 0; omega), ?_⟩
        have lt := Nat.mod_lt (left - 1) (show 0 < made + 1 by omega)
        have le := Nat.mod_le (left - 1) (made + 1)
        refine ⟨(left - 1) % (made + 1), by omega, r, (left - 1) % (made + 1), made + 1, ?_, e13, .inl (.inl hr3), rfl, ?_⟩
        · have ei : ((left : Int) - 1).fmod ((made : Int) + 1) = (((left - 1) % (made + 1) : Nat) : Int) := by
            rw [Int.fmod_eq_emod_of_nonneg _ (by omega), Int.natCast_emod, show (((left - 1 : Nat)) : Int) = (left : Int) - 1 by omega]
            rfl
          show [_, _, _, _, _, some (V.int (((left : Int) - 1).fmod ((made : Int) + 1))), some (V.int ((made : Int) + 1))] = _
          rw [ei]
          rfl
        · rw [← hf] at hit2 d ⊢
          exact MR.left_mod hit2 d
      · rw [decide_eq_false d]
        refine iteF ⟨left - 1, by omega, r, left - 1, made + 1, ?_, e13, .inl (.inl hr3), rfl, hit2⟩
        show [_, _, _, _, _, some (V.int ((left : Int) - 1)), some (V.int ((made : Int) + 1))] = _
        rw [show (((left - 1 : Nat)) : Int) = (left : Int) - 1 by omega]
        rfl
def sp_after_rounds (K : PySem.W.Frag) : Sp := fun vs H Q _ => ∃ (a s o : Addr) (ts : List (Int × Int)) (st ord : List Int) (n : Nat) (m : Int), vs = [.int (n : Int), .ref a, .ref s, .ref o, .int m] ∧ TiesAt K H a ts ∧ NetOk (n : Int) ts ∧
  SqL K H s (st.map V.int) ∧ MR.Stn n st ∧ SqL K H o (ord.map V.int) ∧ MR.Stn n ord ∧ RetL ((MR.stOf (roundsZ (MR.tdF ts) n ord m (MR.plOf st))).map V.int) H Q
theorem ok_after_rounds (T : Txt K mg A) : FnOk P w K mg base CX0 6 A.f_after_rounds A.d_after_rounds ["seats", "ties", "standing", "order", "many"] (sp_after_rounds K) := by
  have G_check_net : FnOk P w K mg base CX0 5 A.f_check_net A.d_check_net ["seats", "ties"] (sp_check_net K) := ok_check_net T
  have G_check_standing : FnOk P w K mg base CX0 3 A.f_check_standing A.d_check_standing ["standing", "seats"] (sp_check_standing K) := ok_check_standing T
  have G_check_order_of : FnOk P w K mg base CX0 3 A.f_check_order_of A.d_check_order_of ["order", "count"] (sp_check_order_of K) := ok_check_order_of T
  have G_check_many : FnOk P w K mg base CX0 2 A.f_check_many A.d_check_many ["many"] sp_check_many := ok_check_many T
  have G_standing_of : FnOk P w K mg base CX0 2 A.f_standing_of A.d_standing_of ["places"] (sp_standing_of K) := ok_standing_of T
  have G_places_after_rounds : FnOk P w K mg base CX0 2 A.f_places_after_rounds A.d_places_after_rounds ["start", "pairs", "tied", "many"] (sp_places_after_rounds K) := ok_places_after_rounds T
  have G_places_of : FnOk P w K mg base CX0 2 A.f_places_of A.d_places_of ["standing"] (sp_places_of K) := ok_places_of T
  have G_people_called : FnOk P w K mg base CX0 2 A.f_people_called A.d_people_called ["calls", "count"] (sp_people_called K) := ok_people_called T
  have G_tied_seats : FnOk P w K mg base CX0 1 A.f_tied_seats A.d_tied_seats ["seats", "ties"] (sp_tied_seats K) := ok_tied_seats T
  refine T.F_after_rounds.ok sc_after_rounds (fun vs H Q E h => ?_) (fun cdv A' outer s0 H vs Q E hr h => ?_)
  · obtain ⟨a, s, o, ts, st, ord, n, m, rfl, _⟩ := h
    rfl
  · obtain ⟨a, s, o, ts, st, ord, n, m, rfl, hT, N, hS, S, hO, O, q⟩ := h
    have n1 := N.lo
    have n2 := N.hi
    have ol := O.len
    refine ⟨_, (pss_cons (ps_expr (pe_call G_check_net (hr.mono (by decide)) (by rfl) T.g_check_net T.F_check_net.kp T.b_check_net .nil pass0 (pa_cons (pv 0) (pa_cons (pv 1) pa_nil))))
      (pss_cons (ps_expr (pe_call G_check_standing (hr.mono (by decide)) (by rfl) T.g_check_standing T.F_check_standing.kp T.b_check_standing .nil pass0 (pa_cons (pv 2) (pa_cons (pv 0) pa_nil))))
      (pss_cons (ps_expr (pe_call G_check_order_of (hr.mono (by decide)) (by rfl) T.g_check_order_of T.F_check_order_of.kp T.b_check_order_of .nil pass0 (pa_cons (pv 3) (pa_cons (pv 0) pa_nil))))
      (pss_cons (ps_expr (pe_call G_check_many (hr.mono (by decide)) (by rfl) T.g_check_many T.F_check_many.kp T.b_check_many .nil pass0 (pa_cons (pv 4) pa_nil)))
      (pss_cons (ps_set (i := 5) sc_after_rounds.nd rfl (by first | exact .inl rfl | exact .inr rfl) (pe_ifExp (pt_cmpR op_ge (pv 4) pe_int (nomark _)) (pv 3) (pe_revK (K := K) rfl (pv 3))))
      (pss_cons (ps_set (i := 6) sc_after_rounds.nd rfl (by first | exact .inl rfl | exact .inr rfl) (pe_call G_people_called (hr.mono (by decide)) (by rfl) T.g_people_called T.F_people_called.kp T.b_people_called .nil pass0 (pa_cons (pv 5) (pa_cons (pv 0) pa_nil))))
      (pss_one (ps_ret (pe_call G_standing_of (hr.mono (by decide)) (by rfl) T.g_standing_of T.F_standing_of.kp T.b_standing_of .nil pass0 (pa_cons (pe_call G_places_after_rounds (hr.mono (by decide)) (by rfl) T.g_places_after_rounds T.F_places_after_rounds.kp T.b_places_after_rounds .nil pass0 (pa_cons (pe_call G_places_of (hr.mono (by decide)) (by rfl) T.g_places_of T.F_places_of.kp T.b_places_of .nil pass0 (pa_cons (pv 2) pa_nil)) (pa_cons (pv 6) (pa_cons (pe_call G_tied_seats (hr.mono (by decide)) (by rfl) T.g_tied_seats T.F_tied_seats.kp T.b_tied_seats .nil pass0 (pa_cons (pv 0) (pa_cons (pv 1) pa_nil))) (pa_cons (pe_callB call_abs (by rfl) T.z_abs (by decide +kernel) (pa_cons (pv 4) pa_nil)) pa_nil))))) pa_nil)))))))))), ?_⟩
    refine ⟨_, rfl, _, rfl, a, ts, n, rfl, hT, N, fun H1 e1 => ?_⟩
    refine ⟨_, rfl, _, rfl, s, st, n, rfl, ex_l e1 hS, S, by omega, fun H2 e2 => ?_⟩
    refine ⟨_, rfl, _, rfl, o, ord, n, rfl, ex_l (e1.trans e2) hO, O, by omega, fun H3 e3 => ?_⟩
    refine ⟨_, rfl, m, rfl, fun H4 e4 => ?_⟩
    have e14 := ((e1.trans e2).trans e3).trans e4
    have hO4 := ex_l e14 hO
    obtain ⟨cs, hcs⟩ : ∃ cs, cs = if 0 ≤ m then ord else ord.reverse := ⟨_, rfl⟩
    have hcb : ∀ x ∈ cs, 1 ≤ x ∧ x ≤ (n : Int) := fun x hx => by
      rw [hcs] at hx
      split at hx
      · exact O.lo x hx
      · exact O.lo x (List.mem_reverse.mp hx)
    have hcl : cs.length ≤ 10000 := by
      rw [hcs]
      split
      · omega
      · rw [List.length_reverse]; omega
    have hgo : MR.it (MR.roundP (MR.tdF ts) (MR.pairsF n cs)) (if m < 0 then -m else m).toNat (MR.plOf st) = roundsZ (MR.tdF ts) n ord m (MR.plOf st) := by
      unfold roundsZ
      by_cases c : 0 ≤ m
      · rw [if_pos c, if_neg (by omega), hcs, if_pos c]
      · rw [if_neg c, if_pos (by omega), hcs, if_neg c]
    -- calls = order if many >= 0 else order[::-1]
    have pick : ∀ Qx : VK, (∀ c H5, Ex H4 H5 → SqL K H5 c (cs.map V.int) → Qx (.ref c) H5) →
        tIf (tTest (tOp (rI0 fun i j => V.bl (decide (j ≤ i))) (tVar 4) (tC (.int 0)))) (tVar 3) (tRevL K (tVar 3)) [some (.int (n : Int)), some (.ref a), some (.ref s), some (.ref o), some (.int m), none, none] H4 Qx := by
      intro Qx k
      refine ⟨_, rfl, _, _, rfl, rfl, _, rfl, ?_⟩
      by_cases c : 0 ≤ m
      · rw [decide_eq_true c]
        refine iteT ⟨_, rfl, k o H4 (Ex.refl H4) ?_⟩
        rw [hcs, if_pos c]
        exact hO4
      · rw [decide_eq_false c]
        refine iteF ⟨_, rfl, o, _, rfl, hO4, fun r nr => k r _ (Ex.new nr) (.inl (.inl ?_))⟩
        rw [upd_same, hcs, if_neg c, List.map_reverse]
    refine pick _ fun c H5 e5 hc => ?_
    have ok := MR.pairs_ok (n := n) (by omega) hcb
    refine ⟨_, rfl, _, rfl, c, cs, n, rfl, hc, by omega, hcl, fun b H6 nb e6 hb => ?_⟩
    have e16 := (e14.trans e5).trans e6
    refine ⟨_, rfl, s, st, n, rfl, ex_l e16 hS, S, by omega, fun p H7 np e7 hp => ?_⟩
    refine ⟨_, rfl, _, rfl, _, rfl, a, ts, n, rfl, hT.mono (e16.trans e7), N, fun t H8 nt e8 ht => ?_⟩
    refine ⟨_, rfl, m, rfl, ?_⟩
    refine ⟨p, b, t, MR.plOf st, MR.pairsF n cs, n, MR.tdF ts, _, rfl, .inl (.inl (e8 _ _ hp)), (hb.on e7).on e8, ht, S.plc, ok, by split <;> omega, fun r H9 e9 hr9 => ?_⟩
    rw [hgo] at hr9
    refine ⟨r, _, n, rfl, hr9, ?_, by omega, fun z Hz nz ez hz => ?_⟩
    · rw [← hgo]
      exact MR.it_plc ok _ S.plc
    · exact q z Hz (fresh_back e16 (fresh_back e7 (fresh_back e8 (fresh_back e9 nz)))) (((e16.trans e7).trans e8).trans (e9.trans ez)) hz
end
end K20

namespace K20
open PySem PySem.Spec PyProof.Rows L2 Vf Evl
/-! ### the law's draws -/
/-- all but the object at a is as it was -/
def ExA (a : Addr) (H H' : Hp) : Prop := ∀ b o, b ≠ a → H b = some o → H' b = some o
theorem ExA.trans {a : Addr} {H H1 H2 : Hp} (x : ExA a H H1) (y : ExA a H1 H2) : ExA a H H2 := fun b o ne h => y b o ne (x b o ne h)
theorem ExA.of {a : Addr} {H H' : Hp} (e : Ex H H') : ExA a H H' := fun b o _ h => e b o h
theorem ExA.upd (a : Addr) (H : Hp) (o : HO) : ExA a H (upd H a o) := fun b u ne h => by rw [upd_ne ne]; exact h
theorem ExA.list {K : PySem.W.Frag} {a b : Addr} {H H' : Hp} {xs : List V} (e : ExA a H H') (ne : b ≠ a) (h : SqL K H b xs) : SqL K H' b xs := by
  rcases h with (h | ⟨o, h⟩) | h
  · exact .inl (.inl (e _ _ ne h))
  · exact .inl (.inr ⟨o, e _ _ ne h⟩)
  · exact .inr h
/-- a list of draws at a, k of them made -/
def Dr (H : Hp) (a : Addr) (k : Int) : Prop := ∃ (x : Int) (b : Bool), H a = some (.lst [.int x, .int k, .bl b])
theorem Dr.on {H H' : Hp} {a : Addr} {k : Int} (e : Ex H H') (d : Dr H a k) : Dr H' a k := by
  obtain ⟨x, b, h⟩ := d
  exact ⟨x, b, e _ _ h⟩
theorem fmod_at {i j : Int} (h : 0 < j) : 0 ≤ i.fmod j ∧ i.fmod j < j := by
  rw [Int.fmod_eq_emod_of_nonneg i (by omega)]
  exact ⟨Int.emod_nonneg _ (by omega), Int.emod_lt_of_pos _ h⟩
theorem fdiv_at {i j : Int} (h : 0 ≤ i) (hj : 0 ≤ j) : 0 ≤ i.fdiv j := by
  rw [Int.fdiv_eq_ediv_of_nonneg i hj]
  exact Int.ediv_nonneg h hj
section
variable {P : Program} {w : World} {K : PySem.W.Frag} {mg : Str → Option Value} {base : Heap} {A : Ad}
def DrX (H : Hp) (a : Addr) (x k : Int) (b : Bool) : Prop := H a = some (.lst [.int x, .int k, .bl b])
theorem DrX.dr {H : Hp} {a : Addr} {x k : Int} {b : Bool} (h : DrX H a x k b) : Dr H a k := ⟨x, b, h⟩
theorem DrX.on {H H' : Hp} {a : Addr} {x k : Int} {b : Bool} (e : Ex H H') (h : DrX H a x k b) : DrX H' a x k b := e _ _ h
def cellX (c : Int) : Int := c.fmod (((10 ^ 60) ^ 60) ^ 4)
def nextV (x k : Int) (b : Bool) : Int :=
  if b then x.fmod 1000000 else
    let y := ((x.fmod 1000003 + k * k * 7919 + k) * 48271).fmod 2147483629
    let z := (y * y).fmod 2147483587
    (((z * (z + 2)).fmod 2147483579)).fdiv 7
def nextX (x : Int) (b : Bool) : Int := if b then x.fdiv 1000000 else x
theorem nextV_nn (x k : Int) (b : Bool) : 0 ≤ nextV x k b := by
  unfold nextV
  split
  · exact (fmod_at (by decide)).1
  · exact fdiv_at (fmod_at (by decide)).1 (by decide)
def sp_l_draws : Sp := fun vs H Q _ => ∃ c : Int, vs = [.int c] ∧ ∀ (x : Int) (b : Bool) (p : Addr) (H2 : Hp), H p = none → Ex H H2 → H2 p = some (.lst [.int x, .int 0, .bl b]) → Q (.ref p) H2
theorem ok_l_draws (T : Txt K mg A) : FnOk P w K mg base CX0 1 A.f_l_draws A.d_l_draws ["_law_cell"] sp_l_draws := by
  refine T.F_l_draws.ok sc_l_draws (fun vs H Q E h => ?_) (fun cdv A' outer s H vs Q E hr h => ?_)
  · obtain ⟨c, rfl, _⟩ := h
    rfl
  · obtain ⟨c, rfl, q⟩ := h
    refine ⟨_, (pss_one (ps_ret (pe_lst (pa_cons (pe_op op_modN (pe_callTy call_int1 (by rfl) T.z_int (by decide +kernel) (pa_cons (pv 0) pa_nil)) (pe_op op_powW (pe_op op_powW (pe_op op_powW pe_int pe_int) pe_int) pe_int)) (pa_cons pe_int (pa_cons (pe_cmpR op_ge (pv 0) (pe_op op_powW pe_int pe_int) (nomark _)) pa_nil)))))), ?_⟩
    refine ⟨_, rfl, .inl ⟨c, rfl, ?_⟩⟩
    refine ⟨_, _, rfl, rfl, ⟨by decide, by decide +kernel⟩, _, _, rfl, rfl, ⟨by decide, by decide +kernel⟩, _, _, rfl, rfl, ⟨by decide, by decide +kernel⟩, ?_⟩
    refine ⟨_, _, rfl, rfl, (by show (_ : Int) ≠ 0; decide +kernel), ?_⟩
    refine ⟨_, rfl, _, _, rfl, rfl, ⟨by decide, by decide +kernel⟩, _, _, rfl, rfl, ?_⟩
    refine ⟨(by show 3 ≤ sizeLine; decide), fun p np => ?_⟩
    exact q _ _ p _ np (Ex.new np) upd_same
def sp_l_next : Sp := fun vs H Q _ => ∃ (a : Addr) (k : Int), vs = [.ref a] ∧ Dr H a k ∧ (0 ≤ k ∧ k < 2 ^ 40) ∧ ∀ (r : Int) (H2 : Hp), 0 ≤ r → ExA a H H2 → Dr H2 a (k + 1) → Q (.int r) H2
theorem ok_l_next (T : Txt K mg A) : FnOk P w K mg base CX0 1 A.f_l_next A.d_l_next ["_law_draws_here"] sp_l_next := by
  refine T.F_l_next.ok sc_l_next (fun vs H Q E h => ?_) (fun cdv A' outer s H vs Q E hr h => ?_)
  · obtain ⟨a, k, rfl, _⟩ := h
    rfl
  · obtain ⟨a, k, rfl, ⟨x, b, hd⟩, hk, q⟩ := h
    refine ⟨_, (pss_cons (ps_asg (pe_op op_add (pe_ix (ix_listK (K := K) rfl) (pv 0) pe_int (fun _ _ => rfl)) pe_int) (pg_sub (pv 0) pe_int set_list))
      (pss_cons (ps_set (i := 1) sc_l_next.nd rfl (by first | exact .inl rfl | exact .inr rfl) (pe_ix (ix_listK (K := K) rfl) (pv 0) pe_int (fun _ _ => rfl)))
      (pss_cons (ps_if (pt_val (pe_ix (ix_listK (K := K) rfl) (pv 0) pe_int (fun _ _ => rfl))) (pss_cons (ps_set (i := 2) sc_l_next.nd rfl (by first | exact .inl rfl | exact .inr rfl) (pe_op op_modN (pe_callTy call_int1 (by rfl) T.z_int (by decide +kernel) (pa_cons (pe_ix (ix_listK (K := K) rfl) (pv 0) pe_int (fun _ _ => rfl)) pa_nil)) (pe_op op_powW pe_int pe_int)))
      (pss_cons (ps_asg (pe_op op_fdivN (pe_ix (ix_listK (K := K) rfl) (pv 0) pe_int (fun _ _ => rfl)) (pe_op op_powW pe_int pe_int)) (pg_sub (pv 0) pe_int set_list))
      (pss_one (ps_ret (pv 2))))) pss_nil)
      (pss_cons (ps_set (i := 2) sc_l_next.nd rfl (by first | exact .inl rfl | exact .inr rfl) (pe_op op_modN (pe_callTy call_int1 (by rfl) T.z_int (by decide +kernel) (pa_cons (pe_op op_mul (pe_op op_add (pe_op op_add (pe_op op_modN (pe_callTy call_int1 (by rfl) T.z_int (by decide +kernel) (pa_cons (pe_ix (ix_listK (K := K) rfl) (pv 0) pe_int (fun _ _ => rfl)) pa_nil)) pe_int) (pe_op op_mul (pe_op op_mul (pv 1) (pv 1)) pe_int)) (pv 1)) pe_int) pa_nil)) pe_int))
      (pss_cons (ps_set (i := 2) sc_l_next.nd rfl (by first | exact .inl rfl | exact .inr rfl) (pe_op op_modN (pe_callTy call_int1 (by rfl) T.z_int (by decide +kernel) (pa_cons (pe_op op_mul (pv 2) (pv 2)) pa_nil)) pe_int))
      (pss_one (ps_ret (pe_op op_fdivN (pe_op op_modN (pe_callTy call_int1 (by rfl) T.z_int (by decide +kernel) (pa_cons (pe_op op_mul (pv 2) (pe_op op_add (pv 2) pe_int)) pa_nil)) pe_int) pe_int)))))))), ?_⟩
    -- d[1] = d[1] + 1
    refine ⟨_, rfl, a, _, _, _, rfl, rfl, .inl (.inl hd), atI_nat (j := 1) rfl, _, _, rfl, rfl, ?_⟩
    refine ⟨_, rfl, a, _, 1, 1, rfl, rfl, hd, rfl, ?_⟩
    have h1 : upd H a (.lst [.int x, .int (k + 1), .bl b]) a = some (.lst [.int x, .int (k + 1), .bl b]) := upd_same
    have e1 := ExA.upd a H (.lst [.int x, .int (k + 1), .bl b])
    show _
    generalize hH1 : upd H a (.lst [.int x, .int (k + 1), .bl b]) = H1 at h1 e1
    have hH1' : upd H a (.lst ([V.int x, .int k, .bl b].set 1 (.int (k + 1)))) = H1 := hH1
    rw [hH1']
    -- k = d[1]
    refine ⟨_, rfl, a, _, _, _, rfl, rfl, .inl (.inl h1), atI_nat (j := 1) rfl, ?_⟩
    -- if d[2]
    refine ⟨_, rfl, a, _, _, _, rfl, rfl, .inl (.inl h1), atI_nat (j := 2) rfl, b, rfl, ?_⟩
    cases b with
    | true =>
      refine iteT ?_
      refine ⟨_, rfl, a, _, _, _, rfl, rfl, .inl (.inl h1), atI_nat (j := 0) rfl, .inl ⟨x, rfl, _, _, rfl, rfl, ⟨by decide, by decide +kernel⟩, _, _, rfl, rfl, (by show (_ : Int) ≠ 0; decide +kernel), ?_⟩⟩
      refine ⟨_, rfl, a, _, _, _, rfl, rfl, .inl (.inl h1), atI_nat (j := 0) rfl, _, _, rfl, rfl, ⟨by decide, by decide +kernel⟩, _, _, rfl, rfl, ⟨by decide +kernel, by decide +kernel⟩, ?_⟩
      refine ⟨_, rfl, a, _, 0, 0, rfl, rfl, h1, rfl, ?_⟩
      refine ⟨_, rfl, q _ _ (fmod_at (by decide +kernel)).1 (e1.trans (ExA.upd a H1 _)) ⟨_, _, upd_same⟩⟩
    | false =>
      refine iteF ?_
      have ne1 : (1000003 : Int) ≠ 0 := by decide
      have ne2 : (2147483629 : Int) ≠ 0 := by decide
      have ne3 : (2147483587 : Int) ≠ 0 := by decide
      have ne4 : (2147483579 : Int) ≠ 0 := by decide
      -- number = int((int(d[0]) % 1000003 + k * k * 7919 + k) * 48271) % 2147483629
      refine ⟨_, rfl, a, _, _, _, rfl, rfl, .inl (.inl h1), atI_nat (j := 0) rfl, .inl ⟨x, rfl, _, _, rfl, rfl, ne1, ?_⟩⟩
      refine ⟨_, rfl, _, rfl, _, _, rfl, rfl, .inl ⟨by omega, by omega⟩, _, _, rfl, rfl, .inr ⟨by decide, by decide⟩, _, _, rfl, rfl, ?_⟩
      refine ⟨_, rfl, _, _, rfl, rfl, _, _, rfl, rfl, .inr ⟨by decide, by decide⟩, .inl ⟨_, rfl, _, _, rfl, rfl, ne2, ?_⟩⟩
      generalize (x.fmod 1000003 + (k + 1) * (k + 1) * 7919 + (k + 1)) * 48271 = y
      have y0 := fmod_at (i := y) (j := 2147483629) (by decide)
      -- number = int(number * number) % 2147483587
      refine ⟨_, rfl, _, rfl, _, _, rfl, rfl, .inl ⟨by omega, by omega⟩, .inl ⟨_, rfl, _, _, rfl, rfl, ne3, ?_⟩⟩
      have u0 := fmod_at (i := y.fmod 2147483629 * y.fmod 2147483629) (j := 2147483587) (by decide)
      -- return int(number * (number + 2)) % 2147483579 // 7
      refine ⟨_, rfl, _, rfl, _, _, rfl, rfl, _, _, rfl, rfl, .inl ⟨by omega, by omega⟩, .inl ⟨_, rfl, _, _, rfl, rfl, ne4, _, _, rfl, rfl, ⟨by decide, by decide⟩, ?_⟩⟩
      exact q _ H1 (fdiv_at (fmod_at (by decide)).1 (by decide)) e1 ⟨_, _, h1⟩
def sp_l_drawsX : Sp := fun vs H Q _ => ∃ c : Int, vs = [.int c] ∧ ∀ (p : Addr) (H2 : Hp), H p = none → Ex H H2 → DrX H2 p (cellX c) 0 (decide (10 ^ 18 ≤ c)) → Q (.ref p) H2
theorem ok_l_drawsX (T : Txt K mg A) : FnOk P w K mg base CX0 1 A.f_l_draws A.d_l_draws ["_law_cell"] sp_l_drawsX := by
  refine T.F_l_draws.ok sc_l_draws (fun vs H Q E h => ?_) (fun cdv A' outer s H vs Q E hr h => ?_)
  · obtain ⟨c, rfl, _⟩ := h
    rfl
  · obtain ⟨c, rfl, q⟩ := h
    refine ⟨_, (pss_one (ps_ret (pe_lst (pa_cons (pe_op op_modN (pe_callTy call_int1 (by rfl) T.z_int (by decide +kernel) (pa_cons (pv 0) pa_nil)) (pe_op op_powW (pe_op op_powW (pe_op op_powW pe_int pe_int) pe_int) pe_int)) (pa_cons pe_int (pa_cons (pe_cmpR op_ge (pv 0) (pe_op op_powW pe_int pe_int) (nomark _)) pa_nil)))))), ?_⟩
    refine ⟨_, rfl, .inl ⟨c, rfl, ?_⟩⟩
    refine ⟨_, _, rfl, rfl, ⟨by decide, by decide +kernel⟩, _, _, rfl, rfl, ⟨by decide, by decide +kernel⟩, _, _, rfl, rfl, ⟨by decide, by decide +kernel⟩, ?_⟩
    refine ⟨_, _, rfl, rfl, (by show (_ : Int) ≠ 0; decide +kernel), ?_⟩
    refine ⟨_, rfl, _, _, rfl, rfl, ⟨by decide, by decide +kernel⟩, _, _, rfl, rfl, ?_⟩
    refine ⟨(by show 3 ≤ sizeLine; decide), fun p np => ?_⟩
    refine q p _ np (Ex.new np) ?_
    exact upd_same
def sp_l_nextX : Sp := fun vs H Q _ => ∃ (a : Addr) (x k : Int) (b : Bool), vs = [.ref a] ∧ DrX H a x k b ∧ (0 ≤ k ∧ k < 2 ^ 40) ∧ ∀ (H2 : Hp), ExA a H H2 → DrX H2 a (nextX x b) (k + 1) b → Q (.int (nextV x (k + 1) b)) H2
theorem ok_l_nextX (T : Txt K mg A) : FnOk P w K mg base CX0 1 A.f_l_next A.d_l_next ["_law_draws_here"] sp_l_nextX := by
  refine T.F_l_next.ok sc_l_next (fun vs H Q E h => ?_) (fun cdv A' outer s H vs Q E hr h => ?_)
  · obtain ⟨a, x, k, b, rfl, _⟩ := h
    rfl
  · obtain ⟨a, x, k, b, rfl, hd, hk, q⟩ := h
    unfold DrX at hd
    refine ⟨_, (pss_cons (ps_asg (pe_op op_add (pe_ix (ix_listK (K := K) rfl) (pv 0) pe_int (fun _ _ => rfl)) pe_int) (pg_sub (pv 0) pe_int set_list))
      (pss_cons (ps_set (i := 1) sc_l_next.nd rfl (by first | exact .inl rfl | exact .inr rfl) (pe_ix (ix_listK (K := K) rfl) (pv 0) pe_int (fun _ _ => rfl)))
      (pss_cons (ps_if (pt_val (pe_ix (ix_listK (K := K) rfl) (pv 0) pe_int (fun _ _ => rfl))) (pss_cons (ps_set (i := 2) sc_l_next.nd rfl (by first | exact .inl rfl | exact .inr rfl) (pe_op op_modN (pe_callTy call_int1 (by rfl) T.z_int (by decide +kernel) (pa_cons (pe_ix (ix_listK (K := K) rfl) (pv 0) pe_int (fun _ _ => rfl)) pa_nil)) (pe_op op_powW pe_int pe_int)))
      (pss_cons (ps_asg (pe_op op_fdivN (pe_ix (ix_listK (K := K) rfl) (pv 0) pe_int (fun _ _ => rfl)) (pe_op op_powW pe_int pe_int)) (pg_sub (pv 0) pe_int set_list))
      (pss_one (ps_ret (pv 2))))) pss_nil)
      (pss_cons (ps_set (i := 2) sc_l_next.nd rfl (by first | exact .inl rfl | exact .inr rfl) (pe_op op_modN (pe_callTy call_int1 (by rfl) T.z_int (by decide +kernel) (pa_cons (pe_op op_mul (pe_op op_add (pe_op op_add (pe_op op_modN (pe_callTy call_int1 (by rfl) T.z_int (by decide +kernel) (pa_cons (pe_ix (ix_listK (K := K) rfl) (pv 0) pe_int (fun _ _ => rfl)) pa_nil)) pe_int) (pe_op op_mul (pe_op op_mul (pv 1) (pv 1)) pe_int)) (pv 1)) pe_int) pa_nil)) pe_int))
      (pss_cons (ps_set (i := 2) sc_l_next.nd rfl (by first | exact .inl rfl | exact .inr rfl) (pe_op op_modN (pe_callTy call_int1 (by rfl) T.z_int (by decide +kernel) (pa_cons (pe_op op_mul (pv 2) (pv 2)) pa_nil)) pe_int))
      (pss_one (ps_ret (pe_op op_fdivN (pe_op op_modN (pe_callTy call_int1 (by rfl) T.z_int (by decide +kernel) (pa_cons (pe_op op_mul (pv 2) (pe_op op_add (pv 2) pe_int)) pa_nil)) pe_int) pe_int)))))))), ?_⟩
    -- d[1] = d[1] + 1
    refine ⟨_, rfl, a, _, _, _, rfl, rfl, .inl (.inl hd), atI_nat (j := 1) rfl, _, _, rfl, rfl, ?_⟩
    refine ⟨_, rfl, a, _, 1, 1, rfl, rfl, hd, rfl, ?_⟩
    have h1 : upd H a (.lst [.int x, .int (k + 1), .bl b]) a = some (.lst [.int x, .int (k + 1), .bl b]) := upd_same
    have e1 := ExA.upd a H (.lst [.int x, .int (k + 1), .bl b])
    show _
    generalize hH1 : upd H a (.lst [.int x, .int (k + 1), .bl b]) = H1 at h1 e1
    have hH1' : upd H a (.lst ([V.int x, .int k, .bl b].set 1 (.int (k + 1)))) = H1 := hH1
    rw [hH1']
    -- k = d[1]
    refine ⟨_, rfl, a, _, _, _, rfl, rfl, .inl (.inl h1), atI_nat (j := 1) rfl, ?_⟩
    -- if d[2]
    refine ⟨_, rfl, a, _, _, _, rfl, rfl, .inl (.inl h1), atI_nat (j := 2) rfl, b, rfl, ?_⟩
    cases b with
    | true =>
      refine iteT ?_
      refine ⟨_, rfl, a, _, _, _, rfl, rfl, .inl (.inl h1), atI_nat (j := 0) rfl, .inl ⟨x, rfl, _, _, rfl, rfl, ⟨by decide, by decide +kernel⟩, _, _, rfl, rfl, (by show (_ : Int) ≠ 0; decide +kernel), ?_⟩⟩
      refine ⟨_, rfl, a, _, _, _, rfl, rfl, .inl (.inl h1), atI_nat (j := 0) rfl, _, _, rfl, rfl, ⟨by decide, by decide +kernel⟩, _, _, rfl, rfl, ⟨by decide +kernel, by decide +kernel⟩, ?_⟩
      refine ⟨_, rfl, a, _, 0, 0, rfl, rfl, h1, rfl, ?_⟩
      exact ⟨_, rfl, q _ (e1.trans (ExA.upd a H1 _)) upd_same⟩
    | false =>
      refine iteF ?_
      have ne1 : (1000003 : Int) ≠ 0 := by decide
      have ne2 : (2147483629 : Int) ≠ 0 := by decide
      have ne3 : (2147483587 : Int) ≠ 0 := by decide
      have ne4 : (2147483579 : Int) ≠ 0 := by decide
      -- number = int((int(d[0]) % 1000003 + k * k * 7919 + k) * 48271) % 2147483629
      refine ⟨_, rfl, a, _, _, _, rfl, rfl, .inl (.inl h1), atI_nat (j := 0) rfl, .inl ⟨x, rfl, _, _, rfl, rfl, ne1, ?_⟩⟩
      refine ⟨_, rfl, _, rfl, _, _, rfl, rfl, .inl ⟨by omega, by omega⟩, _, _, rfl, rfl, .inr ⟨by decide, by decide⟩, _, _, rfl, rfl, ?_⟩
      refine ⟨_, rfl, _, _, rfl, rfl, _, _, rfl, rfl, .inr ⟨by decide, by decide⟩, .inl ⟨_, rfl, _, _, rfl, rfl, ne2, ?_⟩⟩
      have hv : ∀ y, (x.fmod 1000003 + (k + 1) * (k + 1) * 7919 + (k + 1)) * 48271 = y → nextV x (k + 1) false = (((y.fmod 2147483629 * y.fmod 2147483629).fmod 2147483587 * ((y.fmod 2147483629 * y.fmod 2147483629).fmod 2147483587 + 2)).fmod 2147483579).fdiv 7 := fun y e => by
        subst e
        rfl
      generalize hy : (x.fmod 1000003 + (k + 1) * (k + 1) * 7919 + (k + 1)) * 48271 = y
      have y0 := fmod_at (i := y) (j := 2147483629) (by decide)
      -- number = int(number * number) % 2147483587
      refine ⟨_, rfl, _, rfl, _, _, rfl, rfl, .inl ⟨by omega, by omega⟩, .inl ⟨_, rfl, _, _, rfl, rfl, ne3, ?_⟩⟩
      have u0 := fmod_at (i := y.fmod 2147483629 * y.fmod 2147483629) (j := 2147483587) (by decide)
      -- return int(number * (number + 2)) % 2147483579 // 7
      refine ⟨_, rfl, _, rfl, _, _, rfl, rfl, _, _, rfl, rfl, .inl ⟨by omega, by omega⟩, .inl ⟨_, rfl, _, _, rfl, rfl, ne4, _, _, rfl, rfl, ⟨by decide, by decide⟩, ?_⟩⟩
      have go := q H1 e1 h1
      rw [hv y hy] at go
      exact go
end
end K20

namespace K20
open PySem PySem.Spec PyProof.Rows L2 Vf Evl
theorem ExA.new {a p : Addr} {H H' : Hp} {o : HO} (e : ExA a H H') (h : H' p = none) : ExA a H (L2.upd H' p o) := fun b u ne hb => by
  have z := e b u ne hb
  rw [upd_ne (ne_of_none z h)]
  exact z
theorem ExA.mut {a p : Addr} {H H' : Hp} {o : HO} (e : ExA a H H') (h : H p = none) : ExA a H (L2.upd H' p o) := fun b u ne hb => by
  rw [upd_ne (ne_of_none hb h)]
  exact e b u ne hb
theorem seqIx {i : Int} {n : Nat} (h0 : 0 ≤ i) (h1 : i < n) : seqIndex? i n = some i.toNat := by
  unfold seqIndex?
  rw [if_neg (show ¬ i < 0 by omega)]
  simp [h0, h1]
section
variable {P : Program} {w : World} {K : PySem.W.Frag} {mg : Str → Option Value} {base : Heap} {A : Ad}
def sp_l_shuffled (K : PySem.W.Frag) : Sp := fun vs H Q _ => ∃ (d a : Addr) (k : Int) (xs : List V), vs = [.ref d, .ref a] ∧ Dr H d k ∧ (0 ≤ k ∧ k + xs.length < 2 ^ 40) ∧ SqL K H a xs ∧ xs.length ≤ 1000 ∧
  (∀ H', ExA d H H' → ∀ x ∈ xs, Sh K H' x) ∧ ∀ (ys : List V) (p : Addr) (H2 : Hp), ys.Perm xs → H p = none → ExA d H H2 → Dr H2 d (k + xs.length) → H2 p = some (.lst ys) → Q (.ref p) H2
theorem ok_l_shuffled (T : Txt K mg A) : FnOk P w K mg base CX0 2 A.f_l_shuffled A.d_l_shuffled ["_law_draws_here", "_law_things"] (sp_l_shuffled K) := by
  have G_l_next : FnOk P w K mg base CX0 1 A.f_l_next A.d_l_next ["_law_draws_here"] sp_l_next := ok_l_next T
  refine T.F_l_shuffled.ok sc_l_shuffled (fun vs H Q E h => ?_) (fun cdv A' outer s H vs Q E hr h => ?_)
  · obtain ⟨d, a, k, xs, rfl, _⟩ := h
    rfl
  · obtain ⟨d, a, k, xs, rfl, hd, hk, hS, hl, hsh, q⟩ := h
    refine ⟨_, (pss_cons (ps_set (i := 2) sc_l_shuffled.nd rfl (by first | exact .inl rfl | exact .inr rfl) (pe_callTy (call_listK (K := K) rfl) (by rfl) T.z_list (by decide +kernel) (pa_cons (pv 1) pa_nil)))
      (pss_cons (ps_set (i := 3) sc_l_shuffled.nd rfl (by first | exact .inl rfl | exact .inr rfl) (pe_lst pa_nil))
      (pss_cons (ps_while PassesOwn.never (pt_cmpR (op_neD hr.units) (pv 2) (pe_lst pa_nil) (nomark _)) (pss_one (ps_expr (pe_bmK (K := K) rfl PySem.F.plainAttrs_list PySem.F.slot_list_append PySem.F.type_list_append mt_append (pv 3) (pa_cons (pe_bmK (K := K) rfl PySem.F.plainAttrs_list PySem.F.slot_list_pop PySem.F.type_list_pop mt_popAt (pv 2) (pa_cons (pe_op op_modN (pe_callTy call_int1 (by rfl) T.z_int (by decide +kernel) (pa_cons (pe_call G_l_next (hr.mono (by decide)) (by rfl) T.g_l_next T.F_l_next.kp T.b_l_next .nil pass0 (pa_cons (pv 0) pa_nil)) pa_nil)) (pe_callB (call_lenK (K := K) rfl) (by rfl) T.z_len PySem.boot_len (pa_cons (pv 2) pa_nil))) pa_nil)) pa_nil)))))
      (pss_one (ps_ret (pv 3)))))), ?_⟩
    have hdn : H d ≠ none := by
      obtain ⟨x, b, h⟩ := hd
      rw [h]
      exact fun z => nomatch z
    -- left = list(some); told = []
    refine ⟨_, rfl, a, xs, rfl, .inl hS, fun l nl => ?_⟩
    have e1 : Ex H (upd H l (.lst xs)) := Ex.new nl
    refine ⟨Nat.zero_le _, fun t nt => ?_⟩
    have e2 : Ex (upd H l (.lst xs)) (upd (upd H l (.lst xs)) t (.lst [])) := Ex.new nt
    have nlt : l ≠ t := ne_of_none upd_same nt
    have nt0 : H t = none := fresh_back e1 nt
    have ndl : d ≠ l := fun z => hdn (z ▸ nl)
    have ndt : d ≠ t := fun z => hdn (z ▸ nt0)
    refine ⟨fun m σ' H' => σ' = [some (.ref d), some (.ref a), some (.ref l), some (.ref t)] ∧ ∃ ls ts : List V, H' l = some (.lst ls) ∧ H' t = some (.lst ts) ∧ m = ls.length ∧
        (ts ++ ls).Perm xs ∧ ExA d H H' ∧ Dr H' d (k + ts.length), ⟨xs.length, rfl, xs, [], e2 _ _ upd_same, upd_same, rfl, .refl _, ExA.of (e1.trans e2), ?_⟩, ?_⟩
    · have z := hd.on (e1.trans e2)
      simpa using z
    rintro m σ' H' ⟨rfl, ls, ts, h1, h2, rfl, pm, e, hd'⟩
    have hsub : ∀ x ∈ ls, x ∈ xs := fun x hx => pm.mem_iff.mp (List.mem_append_right _ hx)
    have hlen : ts.length + ls.length = xs.length := by rw [← List.length_append]; exact pm.length_eq
    -- while left != []
    refine ⟨_, rfl, Nat.zero_le _, fun z nz => ?_⟩
    have e3 : Ex H' (upd H' z (.lst [])) := Ex.new nz
    refine ne_nil (.inl (.inl (e3 _ _ h1))) upd_same (fun x hx => hsh _ (e.trans (ExA.of e3)) x (hsub x hx)) ⟨_, rfl, ?_⟩
    have h1' := e3 _ _ h1
    have h2' := e3 _ _ h2
    have hd3 := hd'.on e3
    have ee := e.trans (ExA.of (a := d) e3)
    generalize upd H' z (.lst []) = H3 at e3 h1' h2' hd3 ee
    cases ls with
    | nil =>
      refine iteF ?_
      rw [List.append_nil] at pm
      refine ⟨_, rfl, q ts t H3 pm nt0 ee ?_ h2'⟩
      have hl0 : ts.length = xs.length := by simpa using hlen
      rw [← hl0]
      exact hd3
    | cons y0 ls =>
      refine iteT ⟨fun σ' H' => ∃ m', m' < (y0 :: ls).length ∧ (σ' = [some (.ref d), some (.ref a), some (.ref l), some (.ref t)] ∧ ∃ ls ts : List V, H' l = some (.lst ls) ∧ H' t = some (.lst ts) ∧ m' = ls.length ∧
        (ts ++ ls).Perm xs ∧ ExA d H H' ∧ Dr H' d (k + ts.length)), fun σ' H' z => z, ?_⟩
      -- told.append(left.pop(int(next(draws)) % len(left)))
      refine ⟨_, rfl, .inl ⟨rfl, _, .inl (.inl h2')⟩, _, rfl, .inl ⟨rfl, _, .inl (.inl h1')⟩, _, rfl, d, _, rfl, hd3, ⟨by omega, by simp only [List.length_cons] at hlen; omega⟩, fun r H4 hr0 e4 hd4 => ?_⟩
      have h1'' := e4 _ _ ndl.symm h1'
      have h2'' := e4 _ _ ndt.symm h2'
      refine .inl ⟨r, rfl, _, rfl, l, _, rfl, .inl (.inl (.inl h1'')), _, _, rfl, rfl, (by simp only [List.length_cons]; omega), ?_⟩
      have fm := fmod_at (i := r) (j := ((y0 :: ls).length : Int)) (by simp only [List.length_cons]; omega)
      generalize hi : r.fmod ((y0 :: ls).length : Int) = i at fm
      have hi' : i.toNat < (y0 :: ls).length := by omega
      have hll : (y0 :: ls).length ≤ 1000 := by omega
      refine ⟨l, y0 :: ls, i, i.toNat, (y0 :: ls)[i.toNat], rfl, by rw [← hi], h1'', by omega, by omega, seqIx fm.1 fm.2, List.getElem?_eq_getElem hi', ?_⟩
      have h3 : (upd H4 l (.lst ((y0 :: ls).eraseIdx i.toNat))) t = some (.lst ts) := by rw [upd_ne nlt.symm]; exact h2''
      refine ⟨t, ts, _, rfl, rfl, h3, sz_lt (by omega), ?_⟩
      have pm2 := erase_perm (y0 :: ls) i.toNat (y0 :: ls)[i.toNat] (List.getElem?_eq_getElem hi')
      refine ⟨((y0 :: ls).eraseIdx i.toNat).length, by rw [List.length_eraseIdx_of_lt hi']; omega, rfl, (y0 :: ls).eraseIdx i.toNat, ts ++ [(y0 :: ls)[i.toNat]], ?_, upd_same, rfl, ?_, ?_, ?_⟩
      · rw [upd_ne nlt]; exact upd_same
      · rw [List.append_assoc]
        exact (List.Perm.append_left ts pm2).trans pm
      · exact ExA.mut (ExA.mut (ee.trans e4) nl) nt0
      · obtain ⟨x, b, hx⟩ := hd4
        refine ⟨x, b, ?_⟩
        rw [upd_ne ndt, upd_ne ndl, hx, List.length_append]
        simp only [List.length_cons, List.length_nil]
        rw [show k + (ts.length : Int) + 1 = k + ((ts.length + (0 + 1) : Nat) : Int) by omega]
end
end K20

namespace K20
open PySem PySem.Spec PyProof.Rows L2 Vf Evl
/-! ### shuffled, to the item, of the draws of the cell 0 -/
def shufGo : Nat → Int → List Int → List Int → List Int
  | 0, _, _, ts => ts
  | m + 1, k, ls, ts => shufGo m (k + 1) (ls.eraseIdx ((nextV 0 (k + 1) false).fmod (ls.length : Int)).toNat) (ts ++ [ls.getD ((nextV 0 (k + 1) false).fmod (ls.length : Int)).toNat 0])
theorem erase_map {α β : Type} (f : α → β) : ∀ (l : List α) (i : Nat), (l.map f).eraseIdx i = (l.eraseIdx i).map f
  | [], _ => rfl
  | _ :: _, 0 => rfl
  | x :: l, i + 1 => by
    show f x :: (l.map f).eraseIdx i = f x :: (l.eraseIdx i).map f
    rw [erase_map f l i]
def shufF (k : Int) (ns : List Int) : List Int := shufGo ns.length k ns []
section
variable {P : Program} {w : World} {K : PySem.W.Frag} {mg : Str → Option Value} {base : Heap} {A : Ad}
def sp_l_shuffled0 (K : PySem.W.Frag) : Sp := fun vs H Q _ => ∃ (d a : Addr) (k : Int) (ns : List Int), vs = [.ref d, .ref a] ∧ DrX H d 0 k false ∧ (0 ≤ k ∧ k + ns.length < 2 ^ 40) ∧ SqL K H a (ns.map V.int) ∧ ns.length ≤ 1000 ∧
  ∀ (p : Addr) (H2 : Hp), H p = none → ExA d H H2 → DrX H2 d 0 (k + ns.length) false → H2 p = some (.lst ((shufF k ns).map V.int)) → Q (.ref p) H2
theorem ok_l_shuffled0 (T : Txt K mg A) : FnOk P w K mg base CX0 2 A.f_l_shuffled A.d_l_shuffled ["_law_draws_here", "_law_things"] (sp_l_shuffled0 K) := by
  have G_l_next : FnOk P w K mg base CX0 1 A.f_l_next A.d_l_next ["_law_draws_here"] sp_l_nextX := ok_l_nextX T
  refine T.F_l_shuffled.ok sc_l_shuffled (fun vs H Q E h => ?_) (fun cdv A' outer s H vs Q E hr h => ?_)
  · obtain ⟨d, a, k, ns, rfl, _⟩ := h
    rfl
  · obtain ⟨d, a, k, ns, rfl, hd, hk, hS, hl, q⟩ := h
    refine ⟨_, (pss_cons (ps_set (i := 2) sc_l_shuffled.nd rfl (by first | exact .inl rfl | exact .inr rfl) (pe_callTy (call_listK (K := K) rfl) (by rfl) T.z_list (by decide +kernel) (pa_cons (pv 1) pa_nil)))
      (pss_cons (ps_set (i := 3) sc_l_shuffled.nd rfl (by first | exact .inl rfl | exact .inr rfl) (pe_lst pa_nil))
      (pss_cons (ps_while PassesOwn.never (pt_cmpR (op_neD hr.units) (pv 2) (pe_lst pa_nil) (nomark _)) (pss_one (ps_expr (pe_bmK (K := K) rfl PySem.F.plainAttrs_list PySem.F.slot_list_append PySem.F.type_list_append mt_append (pv 3) (pa_cons (pe_bmK (K := K) rfl PySem.F.plainAttrs_list PySem.F.slot_list_pop PySem.F.type_list_pop mt_popAt (pv 2) (pa_cons (pe_op op_modN (pe_callTy call_int1 (by rfl) T.z_int (by decide +kernel) (pa_cons (pe_call G_l_next (hr.mono (by decide)) (by rfl) T.g_l_next T.F_l_next.kp T.b_l_next .nil pass0 (pa_cons (pv 0) pa_nil)) pa_nil)) (pe_callB (call_lenK (K := K) rfl) (by rfl) T.z_len PySem.boot_len (pa_cons (pv 2) pa_nil))) pa_nil)) pa_nil)))))
      (pss_one (ps_ret (pv 3)))))), ?_⟩
    have hdn : H d ≠ none := by
      rw [hd]
      exact fun z => nomatch z
    refine ⟨_, rfl, a, ns.map V.int, rfl, .inl hS, fun l nl => ?_⟩
    have e1 : Ex H (upd H l (.lst (ns.map V.int))) := Ex.new nl
    refine ⟨Nat.zero_le _, fun t nt => ?_⟩
    have e2 : Ex (upd H l (.lst (ns.map V.int))) (upd (upd H l (.lst (ns.map V.int))) t (.lst [])) := Ex.new nt
    have nlt : l ≠ t := ne_of_none upd_same nt
    have nt0 : H t = none := fresh_back e1 nt
    have ndl : d ≠ l := fun z => hdn (z ▸ nl)
    have ndt : d ≠ t := fun z => hdn (z ▸ nt0)
    refine ⟨fun m σ' H' => σ' = [some (.ref d), some (.ref a), some (.ref l), some (.ref t)] ∧ ∃ ls ts : List Int, H' l = some (.lst (ls.map V.int)) ∧ H' t = some (.lst (ts.map V.int)) ∧ m = ls.length ∧
        ts.length + ls.length = ns.length ∧ shufGo ls.length (k + ts.length) ls ts = shufF k ns ∧ ExA d H H' ∧ DrX H' d 0 (k + ts.length) false, ⟨ns.length, rfl, ns, [], e2 _ _ upd_same, upd_same, rfl, by simp, ?_, ExA.of (e1.trans e2), ?_⟩, ?_⟩
    · show shufGo ns.length (k + ((0 : Nat) : Int)) ns [] = _
      rw [show k + ((0 : Nat) : Int) = k by omega]
      rfl
    · have z := (hd.on (e1.trans e2))
      show DrX _ d 0 (k + ((0 : Nat) : Int)) false
      rw [show k + ((0 : Nat) : Int) = k by omega]
      exact z
    rintro m σ' H' ⟨rfl, ls, ts, h1, h2, rfl, hlen, hsf, e, hd'⟩
    refine ⟨_, rfl, Nat.zero_le _, fun z nz => ?_⟩
    have e3 : Ex H' (upd H' z (.lst [])) := Ex.new nz
    refine ne_nil (.inl (.inl (e3 _ _ h1))) upd_same (fun x hx => ?_) ⟨_, rfl, ?_⟩
    · obtain ⟨i, _, rfl⟩ := List.mem_map.mp hx
      exact Sh.int i
    have h1' := e3 _ _ h1
    have h2' := e3 _ _ h2
    have hd3 := hd'.on e3
    have ee := e.trans (ExA.of (a := d) e3)
    generalize upd H' z (.lst []) = H3 at e3 h1' h2' hd3 ee
    cases ls with
    | nil =>
      refine iteF ?_
      have hsf : ts = shufF k ns := hsf
      have hl0 : ts.length = ns.length := by simpa using hlen
      refine ⟨_, rfl, q t H3 nt0 ee ?_ ?_⟩
      · rw [← hl0]
        exact hd3
      · rw [← hsf]
        exact h2'
    | cons y0 ls =>
      refine iteT ⟨fun σ' H' => ∃ m', m' < (y0 :: ls).length ∧ (σ' = [some (.ref d), some (.ref a), some (.ref l), some (.ref t)] ∧ ∃ ls ts : List Int, H' l = some (.lst (ls.map V.int)) ∧ H' t = some (.lst (ts.map V.int)) ∧ m' = ls.length ∧
        ts.length + ls.length = ns.length ∧ shufGo ls.length (k + ts.length) ls ts = shufF k ns ∧ ExA d H H' ∧ DrX H' d 0 (k + ts.length) false), fun σ' H' z => z, ?_⟩
      refine ⟨_, rfl, .inl ⟨rfl, _, .inl (.inl h2')⟩, _, rfl, .inl ⟨rfl, _, .inl (.inl h1')⟩, _, rfl, d, 0, _, false, rfl, hd3, ⟨by omega, by simp only [List.length_cons] at hlen; omega⟩, fun H4 e4 hd4 => ?_⟩
      have h1'' := e4 _ _ ndl.symm h1'
      have h2'' := e4 _ _ ndt.symm h2'
      obtain ⟨r, hr0⟩ : ∃ r, nextV 0 (k + ts.length + 1) false = r := ⟨_, rfl⟩
      rw [hr0]
      have ll : ((y0 :: ls).map V.int).length = (y0 :: ls).length := List.length_map ..
      refine .inl ⟨r, rfl, _, rfl, l, _, rfl, .inl (.inl (.inl h1'')), _, _, rfl, rfl, (by rw [ll]; simp only [List.length_cons]; omega), ?_⟩
      have fm := fmod_at (i := r) (j := ((y0 :: ls).length : Int)) (by simp only [List.length_cons]; omega)
      rw [ll]
      obtain ⟨i, hi⟩ : ∃ i, r.fmod ((y0 :: ls).length : Int) = i := ⟨_, rfl⟩
      rw [hi] at fm
      have hi' : i.toNat < (y0 :: ls).length := by omega
      have hll : (y0 :: ls).length ≤ 1000 := by omega
      refine ⟨l, (y0 :: ls).map V.int, i, i.toNat, V.int (y0 :: ls)[i.toNat], rfl, by rw [← hi], h1'', by omega, by omega, by rw [ll]; exact seqIx fm.1 fm.2, by rw [List.getElem?_map, List.getElem?_eq_getElem hi']; rfl, ?_⟩
      have h3 : (upd H4 l (.lst (((y0 :: ls).map V.int).eraseIdx i.toNat))) t = some (.lst (ts.map V.int)) := by rw [upd_ne nlt.symm]; exact h2''
      refine ⟨t, _, _, rfl, rfl, h3, sz_lt (by rw [List.length_map]; omega), ?_⟩
      have he : (((y0 :: ls).map V.int).eraseIdx i.toNat) = ((y0 :: ls).eraseIdx i.toNat).map V.int := erase_map V.int _ _
      have el : ((y0 :: ls).eraseIdx i.toNat).length + 1 = (y0 :: ls).length := by rw [List.length_eraseIdx_of_lt hi']; omega
      refine ⟨((y0 :: ls).eraseIdx i.toNat).length, by omega, rfl, (y0 :: ls).eraseIdx i.toNat, ts ++ [(y0 :: ls)[i.toNat]], ?_, ?_, rfl, ?_, ?_, ?_, ?_⟩
      · rw [upd_ne nlt, upd_same, he]
      · rw [upd_same, List.map_append]
        rfl
      · rw [List.length_append, List.length_singleton]
        omega
      · rw [← hsf]
        have e5 : (y0 :: ls).length = ((y0 :: ls).eraseIdx i.toNat).length + 1 := el.symm
        conv => rhs; rw [e5]
        show _ = shufGo _ (k + ts.length + 1) ((y0 :: ls).eraseIdx ((nextV 0 (k + ts.length + 1) false).fmod ((y0 :: ls).length : Int)).toNat) (ts ++ [(y0 :: ls).getD ((nextV 0 (k + ts.length + 1) false).fmod ((y0 :: ls).length : Int)).toNat 0])
        rw [hr0, hi, List.length_append, List.length_singleton, List.getD_eq_getElem?_getD, List.getElem?_eq_getElem hi', show k + ((ts.length + 1 : Nat) : Int) = k + (ts.length : Int) + 1 by omega]
        rfl
      · exact ExA.mut (ExA.mut (ee.trans e4) nl) nt0
      · unfold DrX at hd4 ⊢
        rw [upd_ne ndt, upd_ne ndl, hd4, List.length_append, List.length_singleton]
        show some (HO.lst [V.int (nextX 0 false), V.int (k + (ts.length : Int) + 1), V.bl false]) = _
        rw [show k + (ts.length : Int) + 1 = k + ((ts.length + 1 : Nat) : Int) by omega]
        rfl
end
end K20

namespace K20
open PySem PySem.Spec PyProof.Rows L2 Vf Evl
/-! ### a drawn order -/
def turnedF (n : Nat) (f : Int) : List Int := (List.range n).map fun i : Nat => (f + (i : Int)) % (n : Int) + 1
theorem turned_stn {n : Nat} (hn : 0 < n) (f : Int) : MR.Stn n (turnedF n f) := by
  refine ⟨by simp [turnedF], fun x hx => ?_, ?_⟩
  · obtain ⟨i, hi, rfl⟩ := List.mem_map.mp hx
    have a := Int.emod_nonneg (f + (i : Int)) (show (n : Int) ≠ 0 by omega)
    have b := Int.emod_lt_of_pos (f + (i : Int)) (show (0 : Int) < n by omega)
    omega
  · unfold turnedF
    rw [List.nodup_iff_pairwise_ne, List.pairwise_map]
    refine List.Pairwise.imp_of_mem ?_ (List.nodup_iff_pairwise_ne.mp List.nodup_range)
    intro a b ha hb hab e
    have ha := List.mem_range.mp ha
    have hb := List.mem_range.mp hb
    have e : (f + (a : Int)) % (n : Int) = (f + (b : Int)) % (n : Int) := by omega
    have z := Int.emod_emod_of_dvd (f + (a : Int)) (Int.dvd_refl (n : Int))
    have d : ((f + (a : Int)) - (f + (b : Int))) % (n : Int) = 0 := Int.emod_eq_emod_iff_emod_sub_eq_zero.mp e
    have d2 : (n : Int) ∣ ((a : Int) - (b : Int)) := by
      have := Int.dvd_of_emod_eq_zero d
      rwa [show (f + (a : Int)) - (f + (b : Int)) = (a : Int) - (b : Int) by omega] at this
    obtain ⟨c, hc⟩ := d2
    have c1 : -1 < c := by
      refine Int.lt_of_mul_lt_mul_left (a := (n : Int)) ?_ (by omega)
      rw [← hc]; omega
    have c2 : c < 1 := by
      refine Int.lt_of_mul_lt_mul_left (a := (n : Int)) ?_ (by omega)
      rw [← hc]; omega
    have : c = 0 := by omega
    rw [this, Int.mul_zero] at hc
    omega
/-- every other one, then the others -/
theorem halves_perm {α : Type} (xs : List α) (h : xs.length ≤ 40) : (pickL xs none none (some 2) ++ pickL xs (some 1) none (some 2)).Perm xs := by
  have key : ∀ n, n ≤ 40 → (idxF none none (some 2) n ++ idxF (some 1) none (some 2) n).Perm (List.range n) := by
    intro n hn
    have z : ∀ n : Fin 41, (idxF none none (some 2) n.1 ++ idxF (some 1) none (some 2) n.1).Perm (List.range n.1) := by decide +kernel
    exact z ⟨n, by omega⟩
  have e : xs = (List.range xs.length).filterMap (xs[·]?) := by
    refine List.ext_getElem? fun i => ?_
    have : ∀ m, m ≤ xs.length → (List.range m).filterMap (xs[·]?) = xs.take m := by
      intro m hm
      induction m with
      | zero => rfl
      | succ m ih =>
        rw [List.range_succ, List.filterMap_append, ih (by omega)]
        have hx : xs[m]? = some xs[m] := List.getElem?_eq_getElem (by omega)
        rw [take_snoc hx]
        simp [hx]
    rw [this _ (Nat.le_refl _), List.take_length]
  unfold pickL
  rw [← List.filterMap_append]
  conv => rhs; rw [e]
  exact (key _ h).filterMap _
theorem stn_perm {n : Nat} {a b : List Int} (h : MR.Stn n a) (p : b.Perm a) : MR.Stn n b := ⟨by rw [p.length_eq, h.len], fun x hx => h.lo x (p.mem_iff.mp hx), p.nodup_iff.mpr h.nd⟩
theorem map_perm {ys : List V} {ns : List Int} (p : ys.Perm (ns.map V.int)) : ∃ ms : List Int, ys = ms.map V.int ∧ ms.Perm ns := by
  let un : V → Int := fun v => match v with | .int i => i | _ => 0
  have q := p.map un
  have e1 : (ns.map V.int).map un = ns := by
    rw [List.map_map]
    exact (List.map_congr_left fun _ _ => rfl).trans (List.map_id _)
  rw [e1] at q
  refine ⟨ys.map un, ?_, q⟩
  rw [List.map_map]
  refine ((List.map_congr_left fun v hv => ?_).trans (List.map_id _)).symm
  obtain ⟨i, _, rfl⟩ := List.mem_map.mp (p.mem_iff.mp hv)
  rfl
theorem exA_fresh {d p : Addr} {H H' : Hp} (e : ExA d H H') (hd : ∃ k, Dr H' d k) (h : H' p = none) : H p = none := by
  cases hq : H p with
  | none => rfl
  | some o =>
    obtain ⟨k, x, b, hx⟩ := hd
    have nd : p ≠ d := fun z => by
      rw [z, hx] at h
      cases h
    have z := e _ _ nd hq
    rw [h] at z
    cases z
section
variable {P : Program} {w : World} {K : PySem.W.Frag} {mg : Str → Option Value} {base : Heap} {A : Ad}
def sp_l_order : Sp := fun vs H Q _ => ∃ (d : Addr) (k m : Int), vs = [.ref d, .int m] ∧ Dr H d k ∧ (0 ≤ k ∧ k < 2 ^ 39) ∧ (4 ≤ m ∧ m ≤ 40) ∧
  ∀ (n : Nat) (ord : List Int) (p : Addr) (k' : Int) (H2 : Hp), 3 ≤ n → (n : Int) ≤ m → MR.Stn n ord → H p = none → ExA d H H2 → Dr H2 d k' → (0 ≤ k' ∧ k' ≤ k + 100) → H2 p = some (.lst (ord.map V.int)) → Q (.ref p) H2
theorem ok_l_order (T : Txt K mg A) : FnOk P w K mg base CX0 3 A.f_l_order A.d_l_order ["_law_draws_here", "_law_most"] sp_l_order := by
  have G_l_next : FnOk P w K mg base CX0 1 A.f_l_next A.d_l_next ["_law_draws_here"] sp_l_next := ok_l_next T
  have G_l_shuffled : FnOk P w K mg base CX0 2 A.f_l_shuffled A.d_l_shuffled ["_law_draws_here", "_law_things"] (sp_l_shuffled K) := ok_l_shuffled T
  refine T.F_l_order.ok sc_l_order (fun vs H Q E h => ?_) (fun cdv A' outer s H vs Q E hr h => ?_)
  · obtain ⟨d, k, m, rfl, _⟩ := h
    rfl
  · obtain ⟨d, k, m, rfl, hd, hk, hm, q⟩ := h
    refine ⟨_, (pss_cons (ps_set (i := 2) sc_l_order.nd rfl (by first | exact .inl rfl | exact .inr rfl) (pe_op op_add pe_int (pe_op op_modN (pe_callTy call_int1 (by rfl) T.z_int (by decide +kernel) (pa_cons (pe_call G_l_next (hr.mono (by decide)) (by rfl) T.g_l_next T.F_l_next.kp T.b_l_next .nil pass0 (pa_cons (pv 0) pa_nil)) pa_nil)) (pe_op op_sub (pv 1) pe_int))))
      (pss_cons (ps_set (i := 3) sc_l_order.nd rfl (by first | exact .inl rfl | exact .inr rfl) (pe_op op_modN (pe_callTy call_int1 (by rfl) T.z_int (by decide +kernel) (pa_cons (pe_call G_l_next (hr.mono (by decide)) (by rfl) T.g_l_next T.F_l_next.kp T.b_l_next .nil pass0 (pa_cons (pv 0) pa_nil)) pa_nil)) pe_int))
      (pss_cons (ps_set (i := 4) sc_l_order.nd rfl (by first | exact .inl rfl | exact .inr rfl) (pe_op op_modN (pe_callTy call_int1 (by rfl) T.z_int (by decide +kernel) (pa_cons (pe_call G_l_next (hr.mono (by decide)) (by rfl) T.g_l_next T.F_l_next.kp T.b_l_next .nil pass0 (pa_cons (pv 0) pa_nil)) pa_nil)) (pv 2)))
      (pss_cons (ps_setLc (i := 5) (own := [("_law_at", 6)]) rfl sc_l_order.nd rfl rfl (sw_true rfl rfl rfl (by decide +kernel)) (pi_range1 (by rfl) T.z_range (pa_cons (pv 2) pa_nil)) (blkOk_by (by kernel_rfl)) (fun _ _ _ _ _ => (pg_name (i := 6) sc_l_order.nd rfl (by first | exact .inl rfl | exact .inr rfl))) (fun _ _ _ _ _ => pts_nil) (fun _ _ _ _ _ => (pe_op op_add (pe_op op_modN (pe_op op_add (pv 4) (pv 6)) (pv 2)) pe_int)))
      (pss_cons (ps_if (pt_cmpR op_lt (pv 3) pe_int (nomark _)) (pss_one (ps_ret (pe_ix (ix_listK (K := K) rfl) (pe_lst (pa_cons (pv 5) (pa_cons (pe_revK (K := K) rfl (pv 5)) pa_nil))) (pv 3) (fun _ _ => rfl)))) pss_nil)
      (pss_cons (ps_if (pt_cmpR op_eq (pv 3) pe_int (nomark _)) (pss_one (ps_ret (pe_op op_cat (pe_slice3 (K := K) rfl (pv 5) po_none po_none (po_some pe_int)) (pe_slice3 (K := K) rfl (pv 5) (po_some pe_int) po_none (po_some pe_int))))) pss_nil)
      (pss_one (ps_ret (pe_call G_l_shuffled (hr.mono (by decide)) (by rfl) T.g_l_shuffled T.F_l_shuffled.kp T.b_l_shuffled .nil pass0 (pa_cons (pv 0) (pa_cons (pv 5) pa_nil))))))))))), ?_⟩
    refine ⟨_, rfl, d, k, rfl, hd, ⟨hk.1, by omega⟩, fun r1 H1 r1p e1 hd1 => .inl ⟨r1, rfl, _, rfl, m, 2, rfl, rfl, _, _, rfl, rfl, (by omega), _, _, rfl, rfl, ?_⟩⟩
    have f1 := fmod_at (i := r1) (j := m - 2) (by omega)
    refine ⟨_, rfl, d, _, rfl, hd1, ⟨by omega, by omega⟩, fun r2 H2 r2p e2 hd2 => .inl ⟨r2, rfl, _, _, rfl, rfl, (by show (5 : Int) ≠ 0; decide), ?_⟩⟩
    have f2 := fmod_at (i := r2) (j := 5) (by decide)
    refine ⟨_, rfl, d, _, rfl, hd2, ⟨by omega, by omega⟩, fun r3 H3 r3p e3 hd3 => .inl ⟨r3, rfl, _, rfl, _, _, rfl, rfl, (by show 3 + r1.fmod (m - 2) ≠ 0; omega), ?_⟩⟩
    have f3 := fmod_at (i := r3) (j := 3 + r1.fmod (m - 2)) (by omega)
    dsimp only [gName]
    show tSeq (tAsg _ (gName 5)) _ _ [some (.ref d), some (.int m), some (.int (3 + r1.fmod (m - 2))), some (.int (r2.fmod 5)), some (.int (r3.fmod (3 + r1.fmod (m - 2)))), none, none] H3
    generalize hf : r3.fmod (3 + r1.fmod (m - 2)) = f at f3
    generalize hkd : r2.fmod 5 = kd at f2
    obtain ⟨n, hn⟩ : ∃ n : Nat, 3 + r1.fmod (m - 2) = (n : Int) := ⟨(3 + r1.fmod (m - 2)).toNat, by omega⟩
    rw [hn] at f3 ⊢
    have n3 : 3 ≤ n := by omega
    have nm : (n : Int) ≤ m := by omega
    have e13 := (e1.trans e2).trans e3
    have S := turned_stn (n := n) (by omega) f
    -- turned = [..]
    refine q_asgL (xs := (turnedF n f).map V.int) ?_ fun p H4 np e4 hp => ?_
    · have go := el_lcR1 (H := H3) (σ := [some (.ref d), some (.int m), some (.int (n : Int)), some (.int kd), some (.int f), none, none]) (j := 6) (vs := [6]) (n := (n : Int)) (ta := tCons (tVar 2) tNil) (t := tYes)
        (te := tOp (rI0 fun i j => .int (i + j)) (tOp (rI (fun _ j => j ≠ 0) fun i j => .int (i.fmod j)) (tOp (rI0 fun i j => .int (i + j)) (tVar 4) (tVar 6)) (tVar 2)) (tC (.int 1)))
        (fun _ => true) (fun i => V.int ((f + (i : Int)) % (n : Int) + 1)) (ea_cons (ev_var rfl) ea_nil) (by omega) (fun x => rfl) (fun _ _ _ _ => et_yes) (fun i H4 e4 hi _ => ?_)
      · have e : given (n : Int).toNat (fun _ => true) (fun i => V.int ((f + (i : Int)) % (n : Int) + 1)) = (turnedF n f).map V.int := by
          unfold given turnedF
          rw [List.filter_eq_self.mpr (fun _ _ => rfl), List.map_map, show (n : Int).toNat = n by omega]
          rfl
        rw [e] at go
        exact go
      · rw [← fm (f + (i : Int)) (show (0 : Int) < n by omega)]
        exact ev_op (ev_op (ev_op (ev_var rfl) (ev_var rfl) rv_I0) (ev_var rfl) (rv_I (by show (n : Int) ≠ 0; omega))) ev_c rv_I0
    have hd4 := hd3.on e4
    have e14 := e13.trans (ExA.of e4)
    have np0 : H p = none := exA_fresh e13 ⟨_, hd3⟩ np
    have fin : ∀ (o : List Int) (r : Addr) (H5 : Hp), MR.Stn n o → H r = none → Ex H4 H5 → H5 r = some (.lst (o.map V.int)) → Q (.ref r) H5 := fun o r H5 O nr e5 hr5 => q n o r _ H5 n3 nm O nr (e14.trans (ExA.of e5)) (hd4.on e5) (by omega) hr5
    show tSeq (tIfS _ _ _) _ _ [some (.ref d), some (.int m), some (.int (n : Int)), some (.int kd), some (.int f), some (.ref p), none] H4
    -- if kind < 2
    refine ⟨_, rfl, _, _, rfl, rfl, _, rfl, ?_⟩
    by_cases c2 : kd < 2
    · rw [decide_eq_true c2]
      refine iteT ⟨_, rfl, _, rfl, p, _, rfl, .inl (.inl hp), fun rv nrv => ⟨(by show 2 ≤ sizeLine; decide), fun l nl => ?_⟩⟩
      have e5 : Ex H4 (upd H4 rv (.lst ((turnedF n f).map V.int).reverse)) := Ex.new nrv
      have e6 := e5.trans (Ex.new (o := .lst [.ref p, .ref rv]) nl)
      have hrv : (upd (upd H4 rv (.lst ((turnedF n f).map V.int).reverse)) l (.lst [.ref p, .ref rv])) rv = some (.lst ((turnedF n f).reverse.map V.int)) := by
        rw [upd_ne (ne_of_none upd_same nl), upd_same, List.map_reverse]
      have nrv0 : H rv = none := exA_fresh e14 ⟨_, hd4⟩ nrv
      by_cases c0 : kd = 0
      · refine ⟨_, rfl, l, _, _, _, rfl, rfl, .inl (.inl upd_same), (by rw [c0]; exact atI_nat (j := 0) rfl), ?_⟩
        exact fin _ p _ S np0 e6 (e6 _ _ hp)
      · refine ⟨_, rfl, l, _, _, _, rfl, rfl, .inl (.inl upd_same), (by rw [show kd = ((1 : Nat) : Int) by omega]; exact atI_nat (j := 1) rfl), ?_⟩
        exact fin _ rv _ (stn_perm S (List.reverse_perm _)) nrv0 e6 hrv
    · rw [decide_eq_false c2]
      refine iteF ?_
      -- if kind == 2
      refine ⟨_, rfl, rfl, _, rfl, ?_⟩
      rw [dec_vi]
      by_cases c3 : kd = 2
      · rw [decide_eq_true c3]
        refine iteT (s_retL (xs := (pickL (turnedF n f) none none (some 2) ++ pickL (turnedF n f) (some 1) none (some 2)).map V.int) ?_ fun r H5 nr e5 hr5 => fin _ r H5 (stn_perm S (halves_perm _ (by rw [S.len]; omega))) (exA_fresh e14 ⟨_, hd4⟩ nr) e5 hr5)
        intro H5 e5 Qx k
        refine el_sl3 (K := K) (ev_var rfl) eo_none eo_none (eo_some ev_c) (.inl (.inl hp)) (by decide) H5 e5 _ fun a H6 na e6 ha => ?_
        refine el_sl3 (K := K) (ev_var rfl) (eo_some ev_c) eo_none (eo_some ev_c) (.inl (.inl hp)) (by decide) H6 (e5.trans e6) _ fun b H7 nb e7 hb => ?_
        rw [pick_map] at ha hb
        have hz : (pickL (turnedF n f) none none (some 2) ++ pickL (turnedF n f) (some 1) none (some 2)).length = n := by
          rw [(halves_perm _ (by rw [S.len]; omega)).length_eq, S.len]
        refine ⟨a, b, _, _, rfl, rfl, e7 _ _ ha, hb, sz_of ?_, fun r nr => k r _ (fresh_back (e6.trans e7) nr) ((e6.trans e7).trans (Ex.new nr)) ?_⟩
        · rw [List.length_map, List.length_map, ← List.length_append, hz]
          omega
        · rw [upd_same, List.map_append]
      · rw [decide_eq_false c3]
        refine iteF ⟨_, rfl, _, rfl, d, p, _, (turnedF n f).map V.int, rfl, hd4, ⟨by omega, by rw [List.length_map, S.len]; omega⟩, .inl (.inl hp), by rw [List.length_map, S.len]; omega, fun H' _ x hx => ?_, fun ys r H5 pm nr e5 hd5 hr5 => ?_⟩
        · obtain ⟨i, _, rfl⟩ := List.mem_map.mp hx
          exact Sh.int _
        · obtain ⟨ms, rfl, pm2⟩ := map_perm pm
          refine q n ms r _ H5 n3 nm (stn_perm S pm2) (exA_fresh e14 ⟨_, hd4⟩ nr) (e14.trans e5) hd5 (by rw [List.length_map, S.len]; omega) hr5
end
end K20

namespace K20
open PySem PySem.Spec PyProof.Rows L2 Vf Evl
/-! ### a drawn net: its ties by their places in a line of all seats -/
structure LineOk (n : Nat) (ln : List Int) : Prop where
  len : ln.length = n
  nd : ln.Nodup
  at_ : ∀ x ∈ ln, 1 ≤ x ∧ x ≤ (n : Int)
abbrev at0 (ln : List Int) (i : Nat) : Int := ln.getD i 0
theorem LineOk.mem {n : Nat} {ln : List Int} (L : LineOk n ln) {i : Nat} (h : i < n) : at0 ln i ∈ ln := by
  have h' : i < ln.length := by rw [L.len]; exact h
  unfold at0
  rw [List.getD_eq_getElem?_getD, List.getElem?_eq_getElem h']
  exact List.getElem_mem h'
theorem LineOk.inj {n : Nat} {ln : List Int} (L : LineOk n ln) {i j : Nat} (hi : i < n) (hj : j < n) (e : at0 ln i = at0 ln j) : i = j := by
  have hi' : i < ln.length := by rw [L.len]; exact hi
  have hj' : j < ln.length := by rw [L.len]; exact hj
  unfold at0 at e
  rw [List.getD_eq_getElem?_getD, List.getD_eq_getElem?_getD, List.getElem?_eq_getElem hi', List.getElem?_eq_getElem hj'] at e
  exact (List.getElem_inj L.nd).mp e
/-- t ties the seats at the places i, j of the line -/
def Ties2 (ln : List Int) (i j : Nat) (t : Int × Int) : Prop := t = (at0 ln i, at0 ln j) ∨ t = (at0 ln j, at0 ln i)
theorem nrm_swap (x y : Int) : nrm (x, y) = nrm (y, x) := by
  unfold nrm
  by_cases c : x ≤ y <;> by_cases d : y ≤ x <;> simp only [c, d, if_true, if_false]
  · rw [show x = y by omega]
  · omega
theorem nrm_cases {x y u v : Int} (h : nrm (x, y) = nrm (u, v)) : (x = u ∧ y = v) ∨ (x = v ∧ y = u) := by
  unfold nrm at h
  by_cases c : x ≤ y <;> by_cases d : u ≤ v <;> simp only [c, d, if_true, if_false] at h <;> injection h with h1 h2
  · exact .inl ⟨h1, h2⟩
  · exact .inr ⟨h1, h2⟩
  · exact .inr ⟨h2, h1⟩
  · exact .inl ⟨h2, h1⟩
theorem Ties2.nrm {ln : List Int} {i j : Nat} {t : Int × Int} (h : Ties2 ln i j t) : nrm t = nrm (at0 ln i, at0 ln j) := by
  rcases h with rfl | rfl
  · rfl
  · exact nrm_swap _ _
theorem ties_apart {n : Nat} {ln : List Int} (L : LineOk n ln) {i j i' j' : Nat} {t t' : Int × Int} (h : Ties2 ln i j t) (h' : Ties2 ln i' j' t') (hi : i < n) (hj : j < n) (hi' : i' < n) (hj' : j' < n) (e : nrm t = nrm t') :
    (i = i' ∧ j = j') ∨ (i = j' ∧ j = i') := by
  rw [h.nrm, h'.nrm] at e
  rcases nrm_cases e with ⟨a, b⟩ | ⟨a, b⟩
  · exact .inl ⟨L.inj hi hi' a, L.inj hj hj' b⟩
  · exact .inr ⟨L.inj hi hj' a, L.inj hj hi' b⟩
structure Good (n : Nat) (ln : List Int) (a o : Nat) (ts : List (Int × Int)) : Prop where
  pl : ∀ t ∈ ts, ∃ i j, i < j ∧ j < n ∧ (j < a ∨ (j = a ∧ i < o)) ∧ Ties2 ln i j t
  nd : (ts.map nrm).Nodup
  few : 2 * ts.length ≤ a * (a - 1) + 2 * o
theorem Good.nil (n : Nat) (ln : List Int) : Good n ln 1 0 [] := ⟨(fun t h => by cases h), List.nodup_nil, Nat.zero_le _⟩
theorem Good.mono {n : Nat} {ln : List Int} {a o o' : Nat} {ts : List (Int × Int)} (g : Good n ln a o ts) (h : o ≤ o') : Good n ln a o' ts := by
  refine ⟨fun t ht => ?_, g.nd, by have := g.few; omega⟩
  obtain ⟨i, j, a1, a2, a3, a4⟩ := g.pl t ht
  exact ⟨i, j, a1, a2, by omega, a4⟩
theorem Good.next {n : Nat} {ln : List Int} {a : Nat} {ts : List (Int × Int)} (g : Good n ln a a ts) (h : 1 ≤ a) : Good n ln (a + 1) 0 ts := by
  refine ⟨fun t ht => ?_, g.nd, ?_⟩
  · obtain ⟨i, j, a1, a2, a3, a4⟩ := g.pl t ht
    exact ⟨i, j, a1, a2, by omega, a4⟩
  · have z := g.few
    obtain ⟨b, rfl⟩ : ∃ b, a = b + 1 := ⟨a - 1, by omega⟩
    have e : (b + 1) * (b + 1 - 1) + 2 * (b + 1) = (b + 1 + 1) * (b + 1 + 1 - 1) + 2 * 0 := by
      rw [Nat.add_sub_cancel, Nat.add_sub_cancel, Nat.mul_comm (b + 1 + 1) (b + 1), Nat.mul_add (b + 1) (b + 1) 1, Nat.mul_add (b + 1) b 1]
      omega
    omega
theorem nodup_snoc {α : Type} {l : List α} {x : α} (h : l.Nodup) (hx : x ∉ l) : (l ++ [x]).Nodup := by
  refine List.nodup_append.mpr ⟨h, by simp, fun a ha b hb e => ?_⟩
  rw [List.mem_singleton.mp hb] at e
  exact hx (e ▸ ha)
theorem Good.add {n : Nat} {ln : List Int} {a o i : Nat} {ts : List (Int × Int)} {t : Int × Int} (L : LineOk n ln) (g : Good n ln a o ts) (ha : a < n) (hi : i < a) (ho : o ≤ i) (ht : Ties2 ln i a t) : Good n ln a (i + 1) (ts ++ [t]) := by
  refine ⟨fun u hu => ?_, ?_, ?_⟩
  · rcases List.mem_append.mp hu with hu | hu
    · exact (g.mono (by omega : o ≤ i + 1)).pl u hu
    · rw [List.mem_singleton.mp hu]
      exact ⟨i, a, hi, ha, .inr ⟨rfl, Nat.lt_succ_self i⟩, ht⟩
  · rw [List.map_append]
    refine nodup_snoc g.nd fun hm => ?_
    obtain ⟨u, hu, e⟩ := List.mem_map.mp hm
    obtain ⟨i', j', a1, a2, a3, a4⟩ := g.pl u hu
    rcases ties_apart L a4 ht (by omega) a2 (by omega) ha e with ⟨b1, b2⟩ | ⟨b1, b2⟩ <;> omega
  · have z := g.few
    rw [List.length_append, List.length_singleton]
    omega
theorem Good.net {n : Nat} {ln : List Int} {o : Nat} {ts : List (Int × Int)} (L : LineOk n ln) (g : Good n ln n 0 ts) (h3 : 3 ≤ n) (h40 : n ≤ 40) : NetOk (n : Int) ts := by
  refine ⟨by omega, by omega, fun t ht => ?_, g.nd, ?_⟩
  · obtain ⟨i, j, a1, a2, a3, a4⟩ := g.pl t ht
    have b1 := L.at_ _ (L.mem (show i < n by omega))
    have b2 := L.at_ _ (L.mem a2)
    have b3 : at0 ln i ≠ at0 ln j := fun e => by
      have := L.inj (by omega) a2 e
      omega
    rcases a4 with rfl | rfl
    · exact ⟨b1, b2, b3⟩
    · exact ⟨b2, b1, b3.symm⟩
  · have z := g.few
    have y : n * (n - 1) ≤ 40 * 39 := Nat.mul_le_mul h40 (by omega)
    omega
/-- neighbours in the line, and its ends -/
theorem Good.ring {n : Nat} {ln : List Int} {ts : List (Int × Int)} (L : LineOk n ln) (g : Good n ln n 0 ts) (h3 : 3 ≤ n) (h40 : n ≤ 40) (hn : ∀ t ∈ ts, ∃ i, i + 1 < n ∧ Ties2 ln i (i + 1) t) :
    NetOk (n : Int) (ts ++ [(at0 ln 0, at0 ln (n - 1))]) := by
  have N := Good.net (o := 0) L g h3 h40
  have b1 := L.at_ _ (L.mem (show 0 < n by omega))
  have b2 := L.at_ _ (L.mem (show n - 1 < n by omega))
  refine ⟨N.lo, N.hi, fun t ht => ?_, ?_, ?_⟩
  · rcases List.mem_append.mp ht with ht | ht
    · exact N.ok t ht
    · rw [List.mem_singleton.mp ht]
      refine ⟨b1, b2, fun e => ?_⟩
      have := L.inj (by omega) (by omega) e
      omega
  · rw [List.map_append]
    refine nodup_snoc g.nd fun hm => ?_
    obtain ⟨u, hu, e⟩ := List.mem_map.mp hm
    obtain ⟨i, a1, a2⟩ := hn u hu
    rcases ties_apart L a2 (.inl rfl : Ties2 ln 0 (n - 1) _) (by omega) a1 (by omega) (by omega) e with ⟨c1, c2⟩ | ⟨c1, c2⟩ <;> omega
  · rw [List.length_append, List.length_singleton]
    have z := g.few
    have y : n * (n - 1) ≤ 40 * 39 := Nat.mul_le_mul h40 (by omega)
    omega
/-! ### the list of ties while it is made -/
def TM (H : Hp) (a : Addr) (ts : List (Int × Int)) : Prop :=
  ∃ as : List Addr, H a = some (.lst (as.map V.ref)) ∧ as.length = ts.length ∧ a ∉ as ∧ ∀ (i : Nat) (b : Addr) (t : Int × Int), as[i]? = some b → ts[i]? = some t → H b = some (.lst [.int t.1, .int t.2])
theorem TM.on {H H' : Hp} {a : Addr} {ts : List (Int × Int)} (h : TM H a ts) (e : Ex H H') : TM H' a ts := by
  obtain ⟨as, h1, h2, h3, h4⟩ := h
  exact ⟨as, e _ _ h1, h2, h3, fun i b t x y => e _ _ (h4 i b t x y)⟩
theorem TM.at_ {K : PySem.W.Frag} {H : Hp} {a : Addr} {ts : List (Int × Int)} (h : TM H a ts) : TiesAt K H a ts := by
  obtain ⟨as, h1, h2, h3, h4⟩ := h
  exact ⟨as, .inl (.inl h1), h2, fun i b t x y => .inl (.inl (h4 i b t x y))⟩
theorem TM.exA {H H' : Hp} {a d : Addr} {k : Int} {ts : List (Int × Int)} (h : TM H a ts) (hd : Dr H d k) (e : ExA d H H') : TM H' a ts := by
  obtain ⟨as, h1, h2, h3, h4⟩ := h
  obtain ⟨x, b, hx⟩ := hd
  refine ⟨as, e _ _ ?_ h1, h2, h3, fun i b t x y => e _ _ ?_ (h4 i b t x y)⟩
  · rintro rfl
    rw [hx] at h1
    cases as with
    | nil => cases h1
    | cons _ _ => cases h1
  · rintro rfl
    have z := h4 i _ t x y
    rw [hx] at z
    cases z
theorem TM.push {H : Hp} {a p : Addr} {ts : List (Int × Int)} (h : TM H a ts) (np : H p = none) (x y : Int) :
    ∃ as : List Addr, (upd H p (.lst [.int x, .int y])) a = some (.lst (as.map V.ref)) ∧ as.length = ts.length ∧ TM (upd (upd H p (.lst [.int x, .int y])) a (.lst (as.map V.ref ++ [.ref p]))) a (ts ++ [(x, y)]) := by
  obtain ⟨as, h1, h2, h3, h4⟩ := h
  have nap : a ≠ p := ne_of_none h1 np
  refine ⟨as, by rw [upd_ne nap]; exact h1, h2, as ++ [p], by rw [upd_same, List.map_append]; rfl, by simp [h2], ?_, ?_⟩
  · intro hm
    rcases List.mem_append.mp hm with hm | hm
    · exact h3 hm
    · exact nap (List.mem_singleton.mp hm)
  · intro i b t hb ht
    by_cases hi : i < as.length
    · rw [List.getElem?_append_left hi] at hb
      rw [List.getElem?_append_left (by rw [← h2]; exact hi)] at ht
      have z := h4 i b t hb ht
      have nba : b ≠ a := fun e => h3 (e ▸ List.mem_of_getElem? hb)
      rw [upd_ne nba, upd_ne (ne_of_none z np)]
      exact z
    · have hi2 : i = as.length := by
        have z := (List.getElem?_eq_some_iff.mp hb).1
        rw [List.length_append, List.length_singleton] at z
        omega
      rw [hi2, List.getElem?_append_right (Nat.le_refl _), Nat.sub_self] at hb
      rw [hi2, h2, List.getElem?_append_right (Nat.le_refl _), Nat.sub_self] at ht
      cases hb
      cases ht
      rw [upd_ne nap.symm]
      exact upd_same
theorem TM.push2 {H : Hp} {a : Addr} {ts : List (Int × Int)} (h : TM H a ts) (x y : Int) :
    ∃ as : List Addr, H a = some (.lst (as.map V.ref)) ∧ as.length = ts.length ∧ ∀ (p : Addr) (H1 : Hp), H p = none → Ex H H1 → H1 p = some (.lst [.int x, .int y]) → TM (upd H1 a (.lst (as.map V.ref ++ [.ref p]))) a (ts ++ [(x, y)]) := by
  obtain ⟨as, h1, h2, h3, h4⟩ := h
  refine ⟨as, h1, h2, fun p H1 np e hp => ?_⟩
  have nap : a ≠ p := ne_of_none h1 np
  refine ⟨as ++ [p], by rw [upd_same, List.map_append]; rfl, by simp [h2], ?_, ?_⟩
  · intro hm
    rcases List.mem_append.mp hm with hm | hm
    · exact h3 hm
    · exact nap (List.mem_singleton.mp hm)
  · intro i b t hb ht
    by_cases hi : i < as.length
    · rw [List.getElem?_append_left hi] at hb
      rw [List.getElem?_append_left (by rw [← h2]; exact hi)] at ht
      have nba : b ≠ a := fun e => h3 (e ▸ List.mem_of_getElem? hb)
      rw [upd_ne nba]
      exact e _ _ (h4 i b t hb ht)
    · have hi2 : i = as.length := by
        have z := (List.getElem?_eq_some_iff.mp hb).1
        rw [List.length_append, List.length_singleton] at z
        omega
      rw [hi2, List.getElem?_append_right (Nat.le_refl _), Nat.sub_self] at hb
      rw [hi2, h2, List.getElem?_append_right (Nat.le_refl _), Nat.sub_self] at ht
      cases hb
      cases ht
      rw [upd_ne nap.symm]
      exact hp
/-- the net while it is drawn: behind the ties of the places below a, and of a with those below o -/
def NS (H : Hp) (d pl pt : Addr) (ln : List Int) (n : Nat) (kd kmax : Int) (a o : Nat) (H' : Hp) : Prop :=
  ∃ (ts : List (Int × Int)) (k' : Int), TM H' pt ts ∧ H' pl = some (.lst (ln.map V.int)) ∧ ExA d H H' ∧ Dr H' d k' ∧ (0 ≤ k' ∧ k' ≤ kmax) ∧ Good n ln a o ts ∧ (kd = 4 → ∀ t ∈ ts, ∃ i, i + 1 < n ∧ Ties2 ln i (i + 1) t)
section
variable {H H' H1 : Hp} {d pl pt : Addr} {ln : List Int} {n : Nat} {kd kmax : Int} {a o i : Nat}
theorem NS.on (h : NS H d pl pt ln n kd kmax a o H') (e : Ex H' H1) : NS H d pl pt ln n kd kmax a o H1 := by
  obtain ⟨ts, k', h1, h2, h3, h4, h5, h6, h7⟩ := h
  exact ⟨ts, k', h1.on e, e _ _ h2, h3.trans (ExA.of e), h4.on e, h5, h6, h7⟩
theorem NS.mono {o' : Nat} {kmax' : Int} (h : NS H d pl pt ln n kd kmax a o H') (ho : o ≤ o') (hk : kmax ≤ kmax') : NS H d pl pt ln n kd kmax' a o' H' := by
  obtain ⟨ts, k', h1, h2, h3, h4, h5, h6, h7⟩ := h
  exact ⟨ts, k', h1, h2, h3, h4, by omega, h6.mono ho, h7⟩
theorem NS.next (h : NS H d pl pt ln n kd kmax a a H') (ha : 1 ≤ a) : NS H d pl pt ln n kd kmax (a + 1) 0 H' := by
  obtain ⟨ts, k', h1, h2, h3, h4, h5, h6, h7⟩ := h
  exact ⟨ts, k', h1, h2, h3, h4, h5, h6.next ha, h7⟩
theorem NS.push (h : NS H d pl pt ln n kd kmax a o H') (L : LineOk n ln) (ha : a < n) (hi : i < a) (ho : o ≤ i) {x y : Int} (hx : Ties2 ln i a (x, y)) (h4 : kd = 4 → i + 1 = a) (hn : H pt = none) (hp : pl ≠ pt) (hd : d ≠ pt) (h40 : n ≤ 40) :
    ∃ as : List Addr, H' pt = some (.lst (as.map V.ref)) ∧ as.length < 2000 ∧ ∀ (p : Addr) (H1 : Hp), H' p = none → Ex H' H1 → H1 p = some (.lst [.int x, .int y]) → NS H d pl pt ln n kd kmax a (i + 1) (upd H1 pt (.lst (as.map V.ref ++ [.ref p]))) := by
  obtain ⟨ts, k', h1, h2, h3, ⟨xx, bb, hdr⟩, h5, h6, h7⟩ := h
  obtain ⟨as, a1, a2, a3⟩ := h1.push2 x y
  have few := h6.few
  have y1 : a * (a - 1) ≤ 40 * 40 := Nat.mul_le_mul (by omega) (by omega)
  refine ⟨as, a1, by omega, fun p H1 np e hpp => ⟨ts ++ [(x, y)], k', a3 p H1 np e hpp, ?_, (h3.trans (ExA.of e)).mut hn, ⟨xx, bb, ?_⟩, h5, h6.add L ha hi ho hx, fun c t ht => ?_⟩⟩
  · rw [upd_ne hp]; exact e _ _ h2
  · rw [upd_ne hd]; exact e _ _ hdr
  · rcases List.mem_append.mp ht with ht | ht
    · exact h7 c t ht
    · rw [List.mem_singleton.mp ht]
      have := h4 c
      exact ⟨i, by omega, by rw [show i + 1 = a from this]; exact hx⟩
/-- behind a draw -/
theorem NS.draw {ts : List (Int × Int)} {k' : Int} (h1 : TM H' pt ts) (h2 : H' pl = some (.lst (ln.map V.int))) (h3 : ExA d H H') (h4 : Dr H' d k') (h5 : 0 ≤ k' ∧ k' ≤ kmax) (h6 : Good n ln a o ts)
    (h7 : kd = 4 → ∀ t ∈ ts, ∃ i, i + 1 < n ∧ Ties2 ln i (i + 1) t) (e : ExA d H' H1) (hd : Dr H1 d (k' + 1)) (hp : pl ≠ d) : NS H d pl pt ln n kd (kmax + 1) a o H1 :=
  ⟨ts, k' + 1, h1.exA h4 e, e _ _ hp h2, h3.trans e, hd, by omega, h6, h7⟩
end
theorem in14 (k : Int) : inV (.int k) [.int 1, .int 4] = (decide (k = 1) || decide (k = 4)) := by
  show ((1 : Int) == k || ((4 : Int) == k || false)) = _
  rw [Bool.or_false, Bool.eq_iff_iff]
  simp only [Bool.or_eq_true, beq_iff_eq, decide_eq_true_eq]
  omega
theorem cut_to (xs : List V) (k : Nat) : cutV xs none (some (k : Int)) = xs.take k := by
  unfold cutV
  rw [HT.sIx_none, HT.sIx_nat]
  by_cases h : k ≤ xs.length
  · rw [Nat.min_eq_left h]
    rfl
  · rw [Nat.min_eq_right (by omega), List.take_of_length_le (by show (xs.drop 0).length ≤ _; simp), List.take_of_length_le (by omega)]
    rfl
theorem line_of {n : Int} (hn : 0 ≤ n) {ys : List V} (h : ys.Perm (rgV 1 (n + 1))) : ∃ ln : List Int, ys = ln.map V.int ∧ LineOk n.toNat ln := by
  let un : V → Int := fun v => match v with | .int i => i | _ => 0
  have e0 : rgV 1 (n + 1) = ((List.range n.toNat).map fun i : Nat => 1 + (i : Int)).map V.int := by
    unfold rgV
    rw [List.map_map, show (n + 1 - 1).toNat = n.toNat by omega]
    rfl
  have e1 : (((List.range n.toNat).map fun i : Nat => 1 + (i : Int)).map V.int).map un = (List.range n.toNat).map fun i : Nat => 1 + (i : Int) := by
    rw [List.map_map]
    exact (List.map_congr_left fun _ _ => rfl).trans (List.map_id _)
  rw [e0] at h
  have hp : (ys.map un).Perm ((List.range n.toNat).map fun i : Nat => 1 + (i : Int)) := by
    have z := h.map un
    rw [e1] at z
    exact z
  refine ⟨ys.map un, ?_, ?_, ?_, ?_⟩
  · rw [List.map_map]
    refine ((List.map_congr_left fun v hv => ?_).trans (List.map_id _)).symm
    obtain ⟨i, _, rfl⟩ := List.mem_map.mp (h.mem_iff.mp hv)
    rfl
  · rw [hp.length_eq]
    simp
  · refine hp.nodup_iff.mpr ?_
    refine List.Pairwise.map _ (fun a b hab => ?_) List.nodup_range
    intro e
    exact hab (by omega)
  · intro x hx
    obtain ⟨i, hi, rfl⟩ := List.mem_map.mp (hp.mem_iff.mp hx)
    have := List.mem_range.mp hi
    omega
/-! ### two lists, item by item -/
inductive F2 {α β : Type} (R : α → β → Prop) : List α → List β → Prop
  | nil : F2 R [] []
  | cons {a b as bs} : R a b → F2 R as bs → F2 R (a :: as) (b :: bs)
section
variable {α β : Type} {R S : α → β → Prop}
theorem F2.len {as : List α} {bs : List β} (h : F2 R as bs) : as.length = bs.length := by
  induction h with
  | nil => rfl
  | cons _ _ ih => simp [ih]
theorem F2.mono {as : List α} {bs : List β} (h : F2 R as bs) (hi : ∀ a b, R a b → S a b) : F2 S as bs := by
  induction h with
  | nil => exact .nil
  | cons x _ ih => exact .cons (hi _ _ x) ih
theorem F2.at_ {as : List α} {bs : List β} (h : F2 R as bs) : ∀ {i : Nat} {a : α} {b : β}, as[i]? = some a → bs[i]? = some b → R a b := by
  induction h with
  | nil => intro i a b x _; cases x
  | cons x _ ih =>
    intro i a b y z
    cases i with
    | zero => cases y; cases z; exact x
    | succ i => exact ih (by simpa using y) (by simpa using z)
theorem F2.of_at : ∀ {as : List α} {bs : List β}, as.length = bs.length → (∀ (i : Nat) (a : α) (b : β), as[i]? = some a → bs[i]? = some b → R a b) → F2 R as bs
  | [], [], _, _ => .nil
  | [], _ :: _, h, _ => nomatch h
  | _ :: _, [], h, _ => nomatch h
  | a :: as, b :: bs, h, k => .cons (k 0 a b rfl rfl) (F2.of_at (by simpa using h) fun i x y p q => k (i + 1) x y p q)
theorem F2.append {as as' : List α} {bs bs' : List β} (h : F2 R as bs) (k : F2 R as' bs') : F2 R (as ++ as') (bs ++ bs') := by
  induction h with
  | nil => exact k
  | cons x _ ih => exact .cons x ih
theorem F2.take {as : List α} {bs : List β} (h : F2 R as bs) (n : Nat) : F2 R (as.take n) (bs.take n) := by
  induction h generalizing n with
  | nil => simpa using F2.nil
  | cons x _ ih =>
    cases n with
    | zero => exact .nil
    | succ n => exact .cons x (ih n)
theorem F2.perm {as as' : List α} (p : as.Perm as') : ∀ {bs : List β}, F2 R as bs → ∃ bs', bs.Perm bs' ∧ F2 R as' bs' := by
  induction p with
  | nil => intro bs h; cases h; exact ⟨[], .refl _, .nil⟩
  | cons a p ih =>
    intro bs h
    cases h with
    | cons x h =>
      obtain ⟨bs', h1, h2⟩ := ih h
      exact ⟨_, h1.cons _, .cons x h2⟩
  | swap a b l =>
    intro bs h
    cases h with
    | cons x h =>
      cases h with
      | cons y h => exact ⟨_, .swap _ _ _, .cons y (.cons x h)⟩
  | trans p1 p2 ih1 ih2 =>
    intro bs h
    obtain ⟨b1, h1, h2⟩ := ih1 h
    obtain ⟨b2, h3, h4⟩ := ih2 h2
    exact ⟨b2, h1.trans h3, h4⟩
end
def At2 (H : Hp) (b : Addr) (t : Int × Int) : Prop := H b = some (.lst [.int t.1, .int t.2])
/-- a list of pairs, all of it lists of this run -/
def Ps (H : Hp) (a : Addr) (as : List Addr) (ts : List (Int × Int)) : Prop := H a = some (.lst (as.map V.ref)) ∧ F2 (At2 H) as ts
theorem Ps.on {H H' : Hp} {a : Addr} {as : List Addr} {ts : List (Int × Int)} (h : Ps H a as ts) (e : Ex H H') : Ps H' a as ts := ⟨e _ _ h.1, h.2.mono fun _ _ x => e _ _ x⟩
theorem Ps.ties {K : PySem.W.Frag} {H : Hp} {a : Addr} {as : List Addr} {ts : List (Int × Int)} (h : Ps H a as ts) : TiesAt K H a ts :=
  ⟨as, .inl (.inl h.1), h.2.len, fun i b t x y => .inl (.inl (h.2.at_ x y))⟩
theorem TM.ps {H : Hp} {a : Addr} {ts : List (Int × Int)} (h : TM H a ts) : ∃ as, Ps H a as ts ∧ a ∉ as := by
  obtain ⟨as, h1, h2, h3, h4⟩ := h
  exact ⟨as, ⟨h1, F2.of_at h2 h4⟩, h3⟩
def netB (n : Int) (ts : List (Int × Int)) : Bool := decide (3 ≤ n) && decide (n ≤ 40) && ts.all (fun t => decide (1 ≤ t.1) && decide (t.1 ≤ n) && decide (1 ≤ t.2) && decide (t.2 ≤ n) && decide (t.1 ≠ t.2)) && decide (ts.map nrm).Nodup && decide (ts.length ≤ 1000)
theorem netB_ok {n : Int} {ts : List (Int × Int)} (h : netB n ts = true) : NetOk n ts := by
  unfold netB at h
  simp only [Bool.and_eq_true, decide_eq_true_eq, List.all_eq_true] at h
  obtain ⟨⟨⟨⟨h1, h2⟩, h3⟩, h4⟩, h5⟩ := h
  refine ⟨h1, h2, fun t ht => ?_, h4, h5⟩
  obtain ⟨⟨⟨⟨a, b⟩, c⟩, d⟩, e⟩ := h3 t ht
  exact ⟨⟨a, b⟩, ⟨c, d⟩, e⟩
/-- the same ties, in another order, turned or not -/
theorem net_turned {n : Int} {ts us : List (Int × Int)} (N : NetOk n ts) (h : (us.map nrm).Perm (ts.map nrm)) : NetOk n us := by
  have hl : us.length = ts.length := by
    have z := h.length_eq
    rwa [List.length_map, List.length_map] at z
  refine ⟨N.lo, N.hi, fun u hu => ?_, h.nodup_iff.mpr N.nd, by rw [hl]; exact N.few⟩
  obtain ⟨t, ht, e⟩ := List.mem_map.mp (h.mem_iff.mp (List.mem_map.mpr ⟨u, hu, rfl⟩))
  obtain ⟨a, b, c⟩ := N.ok t ht
  have e2 : nrm (t.1, t.2) = nrm (u.1, u.2) := e
  rcases nrm_cases e2 with ⟨x, y⟩ | ⟨x, y⟩
  · rw [← x, ← y]
    exact ⟨a, b, c⟩
  · rw [← x, ← y]
    exact ⟨b, a, c.symm⟩
/-! ### nets written down -/
section
variable {K : PySem.W.Frag} {σ : L2.St} {H : Hp} {te tn : TE} {ta tr : TA} {ts us : List (Int × Int)} {tss : List (List (Int × Int))}
def EvP (te : TE) (σ : L2.St) (H : Hp) (ts : List (Int × Int)) : Prop := ∀ H1, Ex H H1 → ∀ Q : VK, (∀ a as H2, H1 a = none → Ex H1 H2 → Ps H2 a as ts → Q (.ref a) H2) → te σ H1 Q
def EaP (ta : TA) (σ : L2.St) (H : Hp) (ts : List (Int × Int)) : Prop := ∀ H1, Ex H H1 → ∀ Q : List V → Hp → Prop, (∀ (as : List Addr) H2, Ex H1 H2 → F2 (At2 H2) as ts → Q (as.map V.ref) H2) → ta σ H1 Q
theorem ep_nil : EaP tNil σ H [] := fun H1 _ _ q => q [] H1 (Ex.refl H1) .nil
theorem ep_cons {x y : Int} (h : EvL te σ H [.int x, .int y]) (k : EaP tr σ H ts) : EaP (tCons te tr) σ H ((x, y) :: ts) := fun H1 e _ q =>
  h H1 e _ fun p H2 np e2 hp => k H2 (e.trans e2) _ fun as H3 e3 hF => q (p :: as) H3 (e2.trans e3) (.cons (e3 _ _ hp) hF)
theorem ep_lst (h : EaP ta σ H ts) (hl : ts.length ≤ 1000) : EvP (tLst ta) σ H ts := fun H1 e _ q =>
  h H1 e _ fun as H2 e2 hF => ⟨sz_of (by rw [List.length_map, hF.len]; omega), fun p np => q p as _ (fresh_back e2 np) (e2.trans (Ex.new np)) ⟨upd_same, hF.mono fun _ _ x => (Ex.new (o := .lst (as.map V.ref)) np) _ _ x⟩⟩
theorem el_cc {x y : Int} : EvL (tLst (tCons (tC (.int x)) (tCons (tC (.int y)) tNil))) σ H [.int x, .int y] := el_lst (ea_cons ev_c (ea_cons ev_c ea_nil)) (by show 2 ≤ 100000; decide)
def EvTs (K : PySem.W.Frag) (te : TE) (σ : L2.St) (H : Hp) (ts : List (Int × Int)) : Prop := ∀ H1, Ex H H1 → ∀ Q : VK, (∀ a H2, Ex H1 H2 → TiesAt K H2 a ts → Q (.ref a) H2) → te σ H1 Q
def EaT (K : PySem.W.Frag) (ta : TA) (σ : L2.St) (H : Hp) (tss : List (List (Int × Int))) : Prop := ∀ H1, Ex H H1 → ∀ Q : List V → Hp → Prop, (∀ (as : List Addr) H2, Ex H1 H2 → F2 (TiesAt K H2) as tss → Q (as.map V.ref) H2) → ta σ H1 Q
theorem EvP.t (h : EvP te σ H ts) : EvTs K te σ H ts := fun H1 e _ q => h H1 e _ fun a _ H2 _ e2 hP => q a H2 e2 hP.ties
theorem et_var {i : Nat} {a : Addr} {as : List Addr} (h : σ[i]? = some (some (.ref a))) (hP : Ps H a as ts) : EvTs K (tVar i) σ H ts := fun H1 e _ q => ⟨_, h, q a H1 (Ex.refl H1) (hP.on e).ties⟩
theorem et_cat {i : Nat} {a : Addr} {as : List Addr} (h : σ[i]? = some (some (.ref a))) (hP : Ps H a as ts) (k : EvP te σ H us) (hl : ts.length + us.length ≤ 1000) : EvTs K (tOp rCat (tVar i) te) σ H (ts ++ us) := fun H1 e _ q =>
  ⟨_, h, k H1 e _ fun b bs H2 _ e2 hB => by
    have hA := (hP.on e).on e2
    refine ⟨a, b, _, _, rfl, rfl, hA.1, hB.1, ?_, fun p np => ?_⟩
    · rw [List.length_map, List.length_map, hA.2.len, hB.2.len]
      exact sz_of (by omega)
    · rw [← List.map_append]
      have e3 : Ex H2 (upd H2 p (.lst ((as ++ bs).map V.ref))) := Ex.new np
      exact q p _ (e2.trans e3) (Ps.ties ⟨upd_same, (hA.2.append hB.2).mono fun _ _ x => e3 _ _ x⟩)⟩
theorem et_cut {i : Nat} {a : Addr} {as : List Addr} {n : Nat} (h : σ[i]? = some (some (.ref a))) (hP : Ps H a as ts) : EvTs K (tSl (rSlL K) (tVar i) tNoPart (tPart (tC (.int (n : Int))))) σ H (ts.take n) := fun H1 e _ q => by
  refine el_sl (ev_var h) eo_none (eo_some ev_c) (.inl (.inl hP.1)) H1 e _ fun p H2 np e2 hp => ?_
  rw [cut_to, ← List.map_take] at hp
  exact q p H2 e2 (Ps.ties (as := as.take n) ⟨hp, ((hP.on e).on e2).2.take n⟩)
theorem ea_nilT : EaT K tNil σ H [] := fun H1 _ _ q => q [] H1 (Ex.refl H1) .nil
theorem ea_consT (h : EvTs K te σ H ts) (k : EaT K tr σ H tss) : EaT K (tCons te tr) σ H (ts :: tss) := fun H1 e _ q =>
  h H1 e _ fun a H2 e2 hT => k H2 (e.trans e2) _ fun as H3 e3 hF => q (a :: as) H3 (e2.trans e3) (.cons (hT.mono e3) hF)
/-- a comprehension's list of pairs -/
theorem ep_of {ls : List (List V)} (h : EvLL te σ H ls) (hl : ls = ts.map fun t => [V.int t.1, V.int t.2]) : EvP te σ H ts := fun H1 e _ q => h H1 e _ fun D H2 nD e2 hD => by
  obtain ⟨ps, a, b, c, d⟩ := hD
  refine q D ps H2 nD e2 ⟨a, F2.of_at (by rw [b, hl, List.length_map]) fun i p t x y => (d i p _ x ?_).2⟩
  rw [hl, List.getElem?_map, y]
  rfl
theorem q_asgP {D : Ends} {tz : TS} {i : Nat} (h : EvP te σ H ts) (k : ∀ a as H1, H a = none → Ex H H1 → Ps H1 a as ts → tz D (σ.set i (some (.ref a))) H1) : tSeq (tAsg te (gName i)) tz D σ H :=
  h H (Ex.refl H) _ fun a as H1 na e hP => k a as H1 na e hP
end
theorem perm_refs {ys : List V} {as : List Addr} (h : ys.Perm (as.map V.ref)) : ∃ as' : List Addr, ys = as'.map V.ref ∧ as'.Perm as := by
  have key : ∀ {xs ys : List V}, xs.Perm ys → ∀ {as : List Addr}, xs = as.map V.ref → ∃ as' : List Addr, ys = as'.map V.ref ∧ as'.Perm as := by
    intro xs ys h
    induction h with
    | nil =>
      intro as e
      cases as with
      | nil => exact ⟨[], rfl, .refl _⟩
      | cons _ _ => cases e
    | cons x p ih =>
      intro as e
      cases as with
      | nil => cases e
      | cons b bs =>
        injection e with e1 e2
        obtain ⟨cs, h1, h2⟩ := ih e2
        exact ⟨b :: cs, by rw [e1, h1]; rfl, h2.cons _⟩
    | swap x y l =>
      intro as e
      match as, e with
      | b :: c :: bs, e =>
        injection e with e1 e2
        injection e2 with e2 e3
        exact ⟨c :: b :: bs, by rw [e1, e2, e3]; rfl, .swap _ _ _⟩
    | trans p1 p2 ih1 ih2 =>
      intro as e
      obtain ⟨b1, h1, h2⟩ := ih1 e
      obtain ⟨b2, h3, h4⟩ := ih2 h1
      exact ⟨b2, h3, h4.trans h2⟩
  exact key h.symm rfl
section
variable {K : PySem.W.Frag} {σ : L2.St} {H : Hp} {te tl : TE}
def EvD (te : TE) (σ : L2.St) (H : Hp) : Prop := ∀ H1, Ex H H1 → ∀ Q : VK, (∀ (R : Addr) (ds : List Addr) (H2 : Hp), Ex H1 H2 → H2 R = some (.lst (ds.map V.ref)) → R ∉ ds → (∀ d ∈ ds, Dr H2 d 0) → ds.length ≤ 100 → Q (.ref R) H2) → te σ H1 Q
def DW (H1 : Hp) (Dl : Addr) (i : Nat) (H' : Hp) : Prop := H1 Dl = none ∧ Ex H1 H' ∧ ∃ ds : List Addr, H' Dl = some (.lst (ds.map V.ref)) ∧ ds.length = i ∧ Dl ∉ ds ∧ ∀ d ∈ ds, Dr H' d 0
theorem ed_lc {cs : List Int} {j : Nat} {vs : List Nat} (h : EvL tl σ H (cs.map V.int)) (hl : cs.length ≤ 100) (hw : ∀ x, wipe ((wipe σ vs).set j (some x)) vs = wipe σ vs) (hj : ∀ x, ((wipe σ vs).set j (some x))[j]? = some (some x)) :
    EvD (tLc (iList K tl) (gName j) tYes (tCall sp_l_draws [] E0 (tCons (tVar j) tNil)) vs) σ H := by
  intro H0 e Q q
  refine h H0 e _ fun a H1 na e1 hx => ⟨a, rfl, ⟨_, .inl (.inl hx)⟩, fun Dl hD => ?_⟩
  refine lc_list (xs := cs.map V.int) (DW H1 Dl) ⟨hD, Ex.new hD, [], upd_same, rfl, (by simp), fun d hd => (by simp at hd)⟩
    (fun i H' _ p => .inl (.inl (p.2.1 _ _ hx))) (fun i x H' hi p => ⟨hw x, ?_⟩) fun H' p => ?_
  · obtain ⟨c, hc, rfl⟩ := map_at hi
    obtain ⟨p1, p2, ds, h1, h2, h3, h4⟩ := p
    have hlt := (List.getElem?_eq_some_iff.mp hc).1
    show tCall sp_l_draws [] E0 (tCons (tVar j) tNil) _ H' fun y H4 => ∃ acc, H4 Dl = some (.lst acc) ∧ acc.length < sizeLine ∧ DW H1 Dl (i + 1) (upd H4 Dl (.lst (acc ++ [y])))
    refine ⟨_, hj _, c, rfl, fun x b p H2 np e2 hp => ⟨ds.map V.ref, e2 _ _ h1, sz_lt (by rw [List.length_map]; omega), p1, Ex.mut (p2.trans e2) p1, ds ++ [p], ?_, ?_, ?_, ?_⟩⟩
    · rw [upd_same, List.map_append]
      rfl
    · rw [List.length_append, h2]
      rfl
    · intro z
      rcases List.mem_append.mp z with z | z
      · exact h3 z
      · rw [List.mem_singleton.mp z, np] at h1
        cases h1
    · intro d hd
      rcases List.mem_append.mp hd with z | z
      · obtain ⟨xx, bb, hh⟩ := h4 d z
        refine ⟨xx, bb, ?_⟩
        rw [upd_ne (show d ≠ Dl from fun y => h3 (y ▸ z))]
        exact e2 _ _ hh
      · rw [List.mem_singleton.mp z]
        refine ⟨x, b, ?_⟩
        rw [upd_ne (show p ≠ Dl from fun y => by rw [y, h1] at np; cases np)]
        exact hp
  · obtain ⟨p1, p2, ds, h1, h2, h3, h4⟩ := p
    exact q Dl ds H' (e1.trans p2) h1 h3 h4 (by rw [h2, List.length_map]; exact hl)
theorem q_forD {tu tz : TS} {D : Ends} {j : Nat} (h : EvD te σ H) (Pv : Addr → List Addr → Nat → L2.St → Hp → Prop) (h0 : ∀ R ds H1, Ex H H1 → H1 R = some (.lst (ds.map V.ref)) → R ∉ ds → (∀ d ∈ ds, Dr H1 d 0) → ds.length ≤ 100 → Pv R ds 0 σ H1)
    (hl : ∀ R ds i σ' H', Pv R ds i σ' H' → H' R = some (.lst (ds.map V.ref))) (hs : ∀ R (ds : List Addr) i d σ' H', ds[i]? = some d → Pv R ds i σ' H' → tu { D with nx := Pv R ds (i + 1), ct := Pv R ds (i + 1), bk := tz D } (σ'.set j (some (.ref d))) H')
    (hd : ∀ R ds i σ' H', Pv R ds i σ' H' → tz D σ' H') : tSeq (tFor (iList K te) (gName j) tu) tz D σ H :=
  h H (Ex.refl H) _ fun R ds H1 e1 hR nR hds dl => ⟨R, rfl, ⟨_, .inl (.inl hR)⟩, for_list (xs := ds.map V.ref) (D := { D with nx := tz D }) (Pv R ds) (h0 R ds H1 e1 hR nR hds dl) (fun i σ' H' _ z => .inl (.inl (hl R ds i σ' H' z)))
    (fun i x σ' H' hx z => by
      obtain ⟨d, hd, rfl⟩ := map_at hx
      exact hs R ds i d σ' H' hd z) fun σ' H' z => hd R ds _ σ' H' z⟩
/-- each of the draws is a list of draws, and none of them far gone -/
def Drs (H : Hp) (ds : List Addr) (m : Int) : Prop := ∀ d ∈ ds, ∃ k, Dr H d k ∧ 0 ≤ k ∧ k ≤ m
theorem Drs.step {H H' : Hp} {ds : List Addr} {m m' : Int} {d : Addr} {k : Int} (h : Drs H ds m) (e : ExA d H H') (hd : Dr H' d k) (h0 : 0 ≤ k) (h1 : k ≤ m') (hm : m ≤ m') : Drs H' ds m' := fun b hb => by
  by_cases c : b = d
  · rw [c]
    exact ⟨k, hd, h0, h1⟩
  · obtain ⟨kk, ⟨x, bb, hx⟩, k0, k1⟩ := h b hb
    exact ⟨kk, ⟨x, bb, e _ _ c hx⟩, k0, by omega⟩
theorem Drs.on {H H' : Hp} {ds : List Addr} {m m' : Int} (h : Drs H ds m) (e : Ex H H') (hm : m ≤ m') : Drs H' ds m' := fun b hb => by
  obtain ⟨kk, hd, k0, k1⟩ := h b hb
  exact ⟨kk, hd.on e, k0, by omega⟩
end
/-- the turned ties while they are made -/
def TW (H3 : Hp) (Dl p2 d : Addr) (as' : List Addr) (ts' : List (Int × Int)) (k3 : Int) (i : Nat) (H' : Hp) : Prop :=
  H3 Dl = none ∧ H' p2 = some (.lst (as'.map V.ref)) ∧ ∃ (us : List (Int × Int)) (k2 : Int), TM H' Dl us ∧ us.map nrm = (ts'.take i).map nrm ∧ ExA d H3 H' ∧ Dr H' d k2 ∧ (0 ≤ k2 ∧ k2 ≤ k3 + i)
theorem TW.push {H3 H4 : Hp} {Dl p2 d : Addr} {as' : List Addr} {ts' us : List (Int × Int)} {k3 k2 : Int} {i : Nat} {t : Int × Int} {x y : Int} {q : Addr} (ht : ts'[i]? = some t) (hl : ts'.length ≤ 1000) (h0 : H3 Dl = none) (hp2 : H4 p2 = some (.lst (as'.map V.ref)))
    (hT : TM H4 Dl us) (hu : us.map nrm = (ts'.take i).map nrm) (e : ExA d H3 H4) (hd : Dr H4 d k2) (hk : 0 ≤ k2 ∧ k2 ≤ k3 + (i + 1 : Nat)) (nq : H4 q = none) (hx : nrm (x, y) = nrm t) (npl : p2 ≠ Dl) (ndl : d ≠ Dl) :
    ∃ acc, (upd H4 q (.lst [.int x, .int y])) Dl = some (.lst acc) ∧ acc.length < sizeLine ∧ TW H3 Dl p2 d as' ts' k3 (i + 1) (upd (upd H4 q (.lst [.int x, .int y])) Dl (.lst (acc ++ [.ref q]))) := by
  obtain ⟨as, a1, a2, a3⟩ := hT.push2 x y
  have eq : Ex H4 (upd H4 q (.lst [.int x, .int y])) := Ex.new nq
  have hi := (List.getElem?_eq_some_iff.mp ht).1
  have ul : us.length = i := by
    have z := congrArg List.length hu
    rw [List.length_map, List.length_map, List.length_take] at z
    omega
  refine ⟨as.map V.ref, eq _ _ a1, sz_lt (by rw [List.length_map]; omega), h0, ?_, us ++ [(x, y)], k2, a3 q _ nq eq upd_same, ?_, (e.trans (ExA.of eq)).mut h0, ?_, hk⟩
  · rw [upd_ne npl]
    exact eq _ _ hp2
  · rw [List.map_append, hu, take_snoc ht, List.map_append]
    show _ ++ [nrm (x, y)] = _ ++ [nrm t]
    rw [hx]
  · obtain ⟨xx, bb, hh⟩ := hd
    refine ⟨xx, bb, ?_⟩
    rw [upd_ne ndl]
    exact eq _ _ hh
theorem yes_if {σ : L2.St} {H : Hp} {A B : Hp → Prop} (h : A H) : tYes σ H fun b H3 => if b = true then A H3 else B H3 := iteT (B := B H) h

theorem TW.push' {H3 H4 : Hp} {Dl p2 d : Addr} {as' : List Addr} {ts' us : List (Int × Int)} {k3 k2 : Int} {i : Nat} {t : Int × Int} {q : Addr} (ht : ts'[i]? = some t) (hl : ts'.length ≤ 1000) (h0 : H3 Dl = none) (hp2 : H4 p2 = some (.lst (as'.map V.ref)))
    (hT : TM H4 Dl us) (hu : us.map nrm = (ts'.take i).map nrm) (e : ExA d H3 H4) (hd : Dr H4 d k2) (hk : 0 ≤ k2 ∧ k2 ≤ k3 + (i + 1 : Nat)) (hq : At2 H4 q t) (nq : q ≠ Dl) (npl : p2 ≠ Dl) (ndl : d ≠ Dl) :
    ∃ acc, H4 Dl = some (.lst acc) ∧ acc.length < sizeLine ∧ TW H3 Dl p2 d as' ts' k3 (i + 1) (upd H4 Dl (.lst (acc ++ [.ref q]))) := by
  obtain ⟨as, a1, a2, a3, a4⟩ := hT
  have hi := (List.getElem?_eq_some_iff.mp ht).1
  have ul : us.length = i := by
    have z := congrArg List.length hu
    rw [List.length_map, List.length_map, List.length_take] at z
    omega
  refine ⟨as.map V.ref, a1, sz_lt (by rw [List.length_map]; omega), h0, ?_, us ++ [t], k2, ⟨as ++ [q], by rw [upd_same, List.map_append]; rfl, by simp [a2], ?_, fun j b u hb hu' => ?_⟩, ?_, e.mut h0, ?_, hk⟩
  · rw [upd_ne npl]
    exact hp2
  · intro z
    rcases List.mem_append.mp z with z | z
    · exact a3 z
    · exact nq (List.mem_singleton.mp z).symm
  · by_cases c : j < as.length
    · rw [List.getElem?_append_left c] at hb
      rw [List.getElem?_append_left (by rw [← a2]; exact c)] at hu'
      rw [upd_ne (fun z => a3 (by rw [← z]; exact List.mem_of_getElem? hb))]
      exact a4 j b u hb hu'
    · have hj : j = as.length := by
        have z := (List.getElem?_eq_some_iff.mp hb).1
        rw [List.length_append, List.length_singleton] at z
        omega
      rw [hj, List.getElem?_append_right (Nat.le_refl _), Nat.sub_self] at hb
      rw [hj, a2, List.getElem?_append_right (Nat.le_refl _), Nat.sub_self] at hu'
      cases hb
      cases hu'
      rw [upd_ne nq]
      exact hq
  · rw [List.map_append, hu, take_snoc ht, List.map_append, List.map_singleton]
  · obtain ⟨xx, bb, hh⟩ := hd
    exact ⟨xx, bb, by rw [upd_ne ndl]; exact hh⟩
end K20

namespace K20
open PySem PySem.Spec PyProof.Rows L2 Vf Evl
section
variable {P : Program} {w : World} {K : PySem.W.Frag} {mg : Str → Option Value} {base : Heap} {A : Ad}
def sp_l_net : Sp := fun vs H Q _ => ∃ (d : Addr) (k n : Int), vs = [.ref d, .int n] ∧ Dr H d k ∧ (0 ≤ k ∧ k < 2 ^ 39) ∧ (3 ≤ n ∧ n ≤ 40) ∧
  ∀ (ts : List (Int × Int)) (a : Addr) (k' : Int) (H2 : Hp), NetOk n ts → H a = none → ExA d H H2 → Dr H2 d k' → (0 ≤ k' ∧ k' ≤ k + 5000) → TM H2 a ts → Q (.ref a) H2
theorem ok_l_net (T : Txt K mg A) : FnOk P w K mg base CX0 3 A.f_l_net A.d_l_net ["_law_draws_here", "_law_figure"] sp_l_net := by
  have G_l_next : FnOk P w K mg base CX0 1 A.f_l_next A.d_l_next ["_law_draws_here"] sp_l_next := ok_l_next T
  have G_l_shuffled : FnOk P w K mg base CX0 2 A.f_l_shuffled A.d_l_shuffled ["_law_draws_here", "_law_things"] (sp_l_shuffled K) := ok_l_shuffled T
  refine T.F_l_net.ok sc_l_net (fun vs H Q E h => ?_) (fun cdv A' outer s H vs Q E hr h => ?_)
  · obtain ⟨d, k, n, rfl, _⟩ := h
    rfl
  · obtain ⟨d, k, n, rfl, hd, hk, ⟨n3, n40⟩, q⟩ := h
    refine ⟨_, (pss_cons (ps_set (i := 2) sc_l_net.nd rfl (by first | exact .inl rfl | exact .inr rfl) (pe_op op_modN (pe_callTy call_int1 (by rfl) T.z_int (by decide +kernel) (pa_cons (pe_call G_l_next (hr.mono (by decide)) (by rfl) T.g_l_next T.F_l_next.kp T.b_l_next .nil pass0 (pa_cons (pv 0) pa_nil)) pa_nil)) pe_int))
      (pss_cons (ps_set (i := 3) sc_l_net.nd rfl (by first | exact .inl rfl | exact .inr rfl) (pe_call G_l_shuffled (hr.mono (by decide)) (by rfl) T.g_l_shuffled T.F_l_shuffled.kp T.b_l_shuffled .nil pass0 (pa_cons (pv 0) (pa_cons (pe_listRg rfl (by rfl) T.z_list (prg_2 (by rfl) T.z_range pe_int (pe_op op_add (pv 1) pe_int))) pa_nil))))
      (pss_cons (ps_set (i := 4) sc_l_net.nd rfl (by first | exact .inl rfl | exact .inr rfl) (pe_lst pa_nil))
      (pss_cons (ps_for PassesOwn.never rfl (pi_range2 (by rfl) T.z_range (pa_cons pe_int (pa_cons (pv 1) pa_nil))) (pg_name (i := 5) sc_l_net.nd rfl (by first | exact .inl rfl | exact .inr rfl)) (pss_cons (ps_set (i := 6) sc_l_net.nd rfl (by first | exact .inl rfl | exact .inr rfl) (pe_callTy call_int1 (by rfl) T.z_int (by decide +kernel) (pa_cons (pe_call G_l_next (hr.mono (by decide)) (by rfl) T.g_l_next T.F_l_next.kp T.b_l_next .nil pass0 (pa_cons (pv 0) pa_nil)) pa_nil)))
      (pss_cut (ps_if (PW.pt (pw_or (pt_cmpR op_lt (pv 2) pe_int (nomark _)) (pw_or1 (PW.pt (pw_and (pt_cmpR op_eq (pv 2) pe_int (nomark _)) (pw_and1 (pt_cmpR op_gt (pe_op op_modN (pv 6) pe_int) pe_int (nomark _)))))))) (pss_one (ps_expr (pe_bmK (K := K) rfl PySem.F.plainAttrs_list PySem.F.slot_list_append PySem.F.type_list_append mt_append (pv 4) (pa_cons (pe_lst (pa_cons (pe_ix (ix_listK (K := K) rfl) (pv 3) (pv 5) (fun _ _ => rfl)) (pa_cons (pe_ix (ix_listK (K := K) rfl) (pv 3) (pe_ix (ix_listK (K := K) rfl) (pe_lst (pa_cons (pe_op op_sub (pv 5) pe_int) (pa_cons (pe_op op_modN (pe_op op_fdivN (pv 6) pe_int) (pv 5)) pa_nil))) (pe_callB (call_min2 rfl) (by rfl) T.z_min (by decide +kernel) (pa_cons (pv 2) (pa_cons pe_int pa_nil))) (fun _ _ => rfl)) (fun _ _ => rfl)) pa_nil))) pa_nil)))) pss_nil)
      (pss_one (ps_for PassesOwn.never rfl (pi_range1 (by rfl) T.z_range (pa_cons (pe_op op_mul (pv 5) (pe_callTy call_int1 (by rfl) T.z_int (by decide +kernel) (pa_cons (pe_cmpR op_gt (pv 2) pe_int (nomark _)) pa_nil))) pa_nil)) (pg_name (i := 7) sc_l_net.nd rfl (by first | exact .inl rfl | exact .inr rfl)) (pss_one (ps_if (pt_cmpR op_lt (pe_op op_modN (pe_op op_add (pe_op op_fdivN (pv 6) pe_int) (pe_op op_mul (pv 7) (pv 7))) pe_int) (pe_op op_sub (pe_op op_mul pe_int (pv 2)) pe_int) (nomark _)) (pss_one (ps_expr (pe_bmK (K := K) rfl PySem.F.plainAttrs_list PySem.F.slot_list_append PySem.F.type_list_append mt_append (pv 4) (pa_cons (pe_lst (pa_cons (pe_ix (ix_listK (K := K) rfl) (pv 3) (pv 5) (fun _ _ => rfl)) (pa_cons (pe_ix (ix_listK (K := K) rfl) (pv 3) (pv 7) (fun _ _ => rfl)) pa_nil))) pa_nil)))) pss_nil)))))))
      (pss_one (ps_ret (pe_lc (own := [("_law_pair", 8)]) rfl sc_l_net.nd (pi_listK (K := K) rfl (pe_call G_l_shuffled (hr.mono (by decide)) (by rfl) T.g_l_shuffled T.F_l_shuffled.kp T.b_l_shuffled .nil pass0 (pa_cons (pv 0) (pa_cons (pv 4) pa_nil)))) (blkOk_by (by kernel_rfl)) (fun _ _ _ _ _ => (pg_name (i := 8) sc_l_net.nd rfl (by first | exact .inl rfl | exact .inr rfl))) (fun _ _ _ _ _ => pts_nil) (fun _ _ _ _ _ => (pe_ifExp (pt_cmpR op_eq (pe_op op_modN (pe_callTy call_int1 (by rfl) T.z_int (by decide +kernel) (pa_cons (pe_call G_l_next (hr.mono (by decide)) (by rfl) T.g_l_next T.F_l_next.kp T.b_l_next .nil pass0 (pa_cons (pv 0) pa_nil)) pa_nil)) pe_int) pe_int (nomark _)) (pe_revK (K := K) rfl (pv 8)) (pv 8)))))))))), ?_⟩
    have hdn : H d ≠ none := by
      obtain ⟨x, b, h⟩ := hd
      rw [h]
      exact fun z => nomatch z
    -- kind = int(next) % 7
    refine ⟨_, rfl, d, _, rfl, hd, ⟨by omega, by omega⟩, fun r2 H2 r2p e2 hd2 => .inl ⟨r2, rfl, _, _, rfl, rfl, (by show (7 : Int) ≠ 0; decide), ?_⟩⟩
    have f2 := fmod_at (i := r2) (j := 7) (by decide)
    obtain ⟨kd, hkd⟩ : ∃ kd, r2.fmod 7 = kd := ⟨_, rfl⟩
    rw [hkd] at f2
    -- line = shuffled(list(range(1, figure + 1)))
    refine ⟨_, rfl, _, rfl, _, _, rfl, rfl, _, _, rfl, rfl, ⟨by decide, by decide, by omega, by omega, by omega⟩, fun p0 np0 => ?_⟩
    have e3 : Ex H2 (upd H2 p0 (.lst (rgV 1 (n + 1)))) := Ex.new np0
    have hp0 : (upd H2 p0 (.lst (rgV 1 (n + 1)))) p0 = some (.lst (rgV 1 (n + 1))) := upd_same
    have xsl : (rgV 1 (n + 1)).length = n.toNat := by rw [rgV_length]; omega
    refine ⟨d, p0, _, rgV 1 (n + 1), rfl, hd2.on e3, ⟨by omega, by rw [xsl]; omega⟩, .inl (.inl hp0), by rw [xsl]; omega, fun H' _ x hx => ?_, fun ys pl H3 pm npl e4 hd3 hpl => ?_⟩
    · unfold rgV at hx
      obtain ⟨i, _, rfl⟩ := List.mem_map.mp hx
      exact Sh.int _
    obtain ⟨ln, rfl, L⟩ := line_of (by omega) pm
    -- pairs = []
    refine ⟨Nat.zero_le _, fun pt npt => ?_⟩
    have e5 : Ex H3 (upd H3 pt (.lst [])) := Ex.new npt
    have eA : ExA d H H3 := (e2.trans (ExA.of e3)).trans e4
    have hpt : H pt = none := exA_fresh eA ⟨_, hd3⟩ npt
    have ndt : d ≠ pt := fun z => hdn (z ▸ hpt)
    have nlt : pl ≠ pt := ne_of_none hpl npt
    have nld : pl ≠ d := fun z => by
      obtain ⟨x, b, hx⟩ := hd3
      rw [← z, hpl] at hx
      injection hx with hx
      injection hx with hx
      have := L.len
      match ln, hx with
      | [a, b, c], hx => cases hx
    have N0 : NS H d pl pt ln n.toNat 0 (k + 100) 1 0 (upd H3 pt (.lst [])) := by
      refine ⟨[], _, ⟨[], upd_same, rfl, (fun z => nomatch z), (fun i b t x => nomatch x)⟩, e5 _ _ hpl, eA.trans (ExA.of e5), hd3.on e5, ?_, Good.nil _ _, fun _ t z => nomatch z⟩
      rw [xsl]
      omega
    have lnl := L.len
    have k0 := hk.1
    dsimp only [gName]
    show tSeq (tFor _ _ _) _ _ [some (.ref d), some (.int n), some (.int (r2.fmod 7)), some (.ref pl), some (.ref pt), none, none, none, none] (upd H3 pt (.lst []))
    rw [hkd]
    generalize upd H3 pt (.lst []) = H5 at N0
    clear hpl hd3 e2 e3 e4 e5 eA npt pm
    refine q_forR2 (lo := 1) (n := n) (ea_cons ev_c (ea_cons (ev_var rfl) ea_nil)) (by omega) (fun i σ' H' => ∃ y5 y6 y7, σ' = [some (.ref d), some (.int n), some (.int kd), some (.ref pl), some (.ref pt), y5, y6, y7, none] ∧
        NS H d pl pt ln n.toNat 0 (k + 100 + 50 * i) (i + 1) 0 H') (fun H1 e1 => ⟨none, none, none, rfl, by simpa using N0.on e1⟩) ?_ ?_
    · rintro i σ' H' hi ⟨y5, y6, y7, rfl, ts, k', h1, h2, h3, h4, h5, h6, h7⟩
      refine ⟨_, rfl, d, k', rfl, h4, ⟨h5.1, by omega⟩, fun r H1 r0 er hdr => .inl ⟨r, rfl, ?_⟩⟩
      have N1 := NS.draw (kd := 0) h1 h2 h3 h4 h5 h6 h7 er hdr nld
      clear h1 h2 h3 h4 h5 h6 h7 er hdr H'
      show tCut _ _ _ [some (V.ref d), some (V.int n), some (V.int kd), some (V.ref pl), some (V.ref pt), some (V.int (1 + (i : Int))), some (V.int r), y7, none] H1
      generalize hS : ([some (V.ref d), some (V.int n), some (V.int kd), some (V.ref pl), some (V.ref pt), some (V.int (1 + (i : Int))), some (V.int r), y7, none] : L2.St) = S
      have hi2 : i + 1 < n.toNat := by omega
      have at1 : ∀ H', H' pl = some (.lst (ln.map V.int)) → Ev (tOp (rIxL K) (tVar 3) (tVar 5)) S H' (.int (at0 ln (i + 1))) := fun H' h => by
        subst hS
        refine ev_op (ev_var rfl) (ev_var rfl) (rv_ixL (.inl (.inl h)) ?_)
        have z := atI_int (l := ln) (i := 1 + (i : Int)) (by omega) (by omega)
        rwa [show (1 + (i : Int)).toNat = i + 1 by omega] at z
      have NSpl : ∀ {kmax a o H'}, NS H d pl pt ln n.toNat 0 kmax a o H' → H' pl = some (.lst (ln.map V.int)) := fun ⟨_, _, _, h, _⟩ => h
      -- the tie to an earlier seat
      refine q_cut (M := fun σ' H' => σ' = S ∧ NS H d pl pt ln n.toNat 0 (k + 100 + 50 * ↑i + 1) (i + 1) (if 4 < kd then 0 else i + 1) H') ?_ ?_
      · have tst : EvT (tOr (tTest (tOp (rI0 fun i j => V.bl (decide (i < j))) (tVar 2) (tC (V.int 2)))) (tAnd (tTest (tOp rEq (tVar 2) (tC (V.int 2)))) (tTest (tOp (rI0 fun i j => V.bl (decide (j < i)))
              (tOp (rI (fun x j => j ≠ 0) fun i j => V.int (i.fmod j)) (tVar 6) (tC (V.int 4))) (tC (V.int 0)))))) S H1 (decide (kd < 2) || (decide (V.int kd = V.int 2) && decide (0 < r.fmod 4))) := by
          subst hS
          exact et_or (et_test (ev_op (ev_var rfl) ev_c rv_I0)) fun _ => et_and (et_test (ev_op (ev_var rfl) ev_c (rv_eq rfl))) fun _ => et_test (ev_op (ev_op (ev_var rfl) ev_c (rv_I (by decide))) ev_c rv_I0)
        refine s_if (D := { nx := fun σ' H' => σ' = S ∧ NS H d pl pt ln n.toNat 0 (k + 100 + 50 * ↑i + 1) (i + 1) (if 4 < kd then 0 else i + 1) H', rt := _, ct := _, bk := _ }) tst (fun c H' e => ?_) fun c H' e => ?_
        · rw [dec_vi] at c
          have c : kd ≤ 2 := by
            rcases Bool.or_eq_true_iff.mp c with c | c
            · have := of_decide_eq_true c
              omega
            · have := of_decide_eq_true (Bool.and_eq_true_iff.mp c).1
              omega
          rw [if_neg (by omega)]
          have N2 := N1.on e
          -- the earlier seat's place
          obtain ⟨j, hj, hv⟩ : ∃ j : Nat, j < i + 1 ∧ ∀ H'', Ex H' H'' → Ev (tOp (rIxL K) (tLst (tCons (tOp (rI0 fun i j => .int (i - j)) (tVar 5) (tC (.int 1))) (tCons (tOp (rI (fun x j => j ≠ 0) fun i j => V.int (i.fmod j)) (tOp (rI CDivN fun i j => V.int (i.fdiv j)) (tVar 6) (tC (V.int 8))) (tVar 5)) tNil)))
              (tCB (fun xs H Q => ∃ i j, xs = [V.int i, V.int j] ∧ Q (V.int (if j < i then j else i)) H) (tCons (tVar 2) (tCons (tC (.int 1)) tNil)))) S H'' (.int (j : Int)) := by
            have fr := fmod_at (i := r.fdiv 8) (j := 1 + (i : Int)) (by omega)
            have lst : EvL (tLst (tCons (tOp (rI0 fun i j => .int (i - j)) (tVar 5) (tC (.int 1))) (tCons (tOp (rI (fun x j => j ≠ 0) fun i j => V.int (i.fmod j)) (tOp (rI CDivN fun i j => V.int (i.fdiv j)) (tVar 6) (tC (V.int 8))) (tVar 5)) tNil))) S H' [.int (1 + (i : Int) - 1), .int ((r.fdiv 8).fmod (1 + (i : Int)))] := by
              subst hS
              exact el_lst (ea_cons (ev_op (ev_var rfl) ev_c rv_I0) (ea_cons (ev_op (ev_op (ev_var rfl) ev_c (rv_I ⟨by decide, by decide⟩)) (ev_var rfl) (rv_I (by show 1 + (i : Int) ≠ 0; omega))) ea_nil)) (by show 2 ≤ 100000; decide)
            have mn : ∀ H'', Ev (tCB (fun xs H Q => ∃ i j, xs = [V.int i, V.int j] ∧ Q (V.int (if j < i then j else i)) H) (tCons (tVar 2) (tCons (tC (.int 1)) tNil))) S H'' (.int (if (1 : Int) < kd then 1 else kd)) := fun H'' => by
              subst hS
              exact fun H3 e3 Q q => ⟨_, rfl, kd, 1, rfl, q H3 (Ex.refl H3)⟩
            by_cases c0 : kd = 0
            · refine ⟨i, by omega, fun H'' e'' => ?_⟩
              refine ev_opL1 (lst.mono e'') (fun H3 e3 => mn H3) fun p H3 hp e3 => rv_ixL (.inl (.inl hp)) ?_
              rw [if_neg (by omega), c0]
              refine (atI_nat (j := 0) rfl).trans ?_
              show some (V.int (1 + (i : Int) - 1)) = _
              rw [show 1 + (i : Int) - 1 = (i : Int) by omega]
            · refine ⟨((r.fdiv 8).fmod (1 + (i : Int))).toNat, by omega, fun H'' e'' => ?_⟩
              refine ev_opL1 (lst.mono e'') (fun H3 e3 => mn H3) fun p H3 hp e3 => rv_ixL (.inl (.inl hp)) ?_
              have e1 : (if (1 : Int) < kd then 1 else kd) = ((1 : Nat) : Int) := by split <;> omega
              rw [e1]
              refine (atI_nat (j := 1) rfl).trans ?_
              show some (V.int ((r.fdiv 8).fmod (1 + (i : Int)))) = _
              rw [show (((r.fdiv 8).fmod (1 + (i : Int))).toNat : Int) = (r.fdiv 8).fmod (1 + (i : Int)) by omega]
          obtain ⟨as, a1, a2, a3⟩ := N2.push (i := j) L hi2 hj (Nat.zero_le _) (.inr rfl) (fun z => by omega) hpt nlt ndt (by omega)
          have at2 : Ev (tOp (rIxL K) (tVar 3) (tOp (rIxL K) (tLst (tCons (tOp (rI0 fun i j => .int (i - j)) (tVar 5) (tC (.int 1))) (tCons (tOp (rI (fun x j => j ≠ 0) fun i j => V.int (i.fmod j)) (tOp (rI CDivN fun i j => V.int (i.fdiv j)) (tVar 6) (tC (V.int 8))) (tVar 5)) tNil)))
              (tCB (fun xs H Q => ∃ i j, xs = [V.int i, V.int j] ∧ Q (V.int (if j < i then j else i)) H) (tCons (tVar 2) (tCons (tC (.int 1)) tNil))))) S H' (.int (at0 ln j)) := by
            have v3 : Ev (tVar 3) S H' (.ref pl) := by subst hS; exact ev_var rfl
            refine ev_op v3 (hv H' (Ex.refl H')) (rv_ixL (.inl (.inl (NSpl N2))) ?_)
            have z := atI_int (l := ln) (i := (j : Int)) (by omega) (by omega)
            rwa [Int.toNat_natCast] at z
          have v4 : Ev (tVar 4) S H' (.ref pt) := by subst hS; exact ev_var rfl
          exact s_appL a1 v4 (el_lst (ea_cons (at1 _ (NSpl N2)) (ea_cons at2 ea_nil)) (by show 2 ≤ 100000; decide)) (by rw [List.length_map]; omega) fun p H2 np e2 hp => ⟨rfl, (a3 p H2 np e2 hp).mono (by omega) (Int.le_refl _)⟩
        · exact ⟨rfl, (N1.on e).mono (by split <;> omega) (Int.le_refl _)⟩
      rintro _ H' ⟨hS', N3⟩
      rw [hS']
      clear hS'
      -- for spot in range(at * int(kind > 4))
      subst hS
      have tot : EvA (tCons (tOp (rI CMul fun i j => V.int (i * j)) (tVar 5) (tCB (fun xs H Q => (∃ i, xs = [V.int i] ∧ Q (V.int i) H) ∨ ∃ k, xs = [V.bl k] ∧ Q (V.int (if k then 1 else 0)) H) (tCons (tOp (rI0 fun i j => V.bl (decide (j < i))) (tVar 2) (tC (.int 4))) tNil))) tNil)
          [some (V.ref d), some (V.int n), some (V.int kd), some (V.ref pl), some (V.ref pt), some (V.int (1 + (i : Int))), some (V.int r), y7, none] H' [.int (if 4 < kd then 1 + (i : Int) else 0)] := by
        refine ea_cons (fun H3 e3 Q q => ?_) ea_nil
        refine ⟨_, rfl, _, rfl, _, _, rfl, rfl, .inr ⟨_, rfl, _, _, rfl, rfl, .inl ⟨by omega, by omega⟩, ?_⟩⟩
        have e : (1 + (i : Int)) * (if decide ((4 : Int) < kd) = true then 1 else 0) = if 4 < kd then 1 + (i : Int) else 0 := by
          by_cases c : 4 < kd
          · rw [decide_eq_true c, if_pos rfl, if_pos c, Int.mul_one]
          · rw [decide_eq_false c, if_neg Bool.false_ne_true, if_neg c, Int.mul_zero]
        show Q (V.int ((1 + (i : Int)) * (if decide ((4 : Int) < kd) = true then 1 else 0))) H3
        rw [e]
        exact q H3 (Ex.refl H3)
      refine s_forR1 (n := if 4 < kd then 1 + (i : Int) else 0) tot (by split <;> omega) (fun j σ' H' => ∃ y7, σ' = [some (V.ref d), some (V.int n), some (V.int kd), some (V.ref pl), some (V.ref pt), some (V.int (1 + (i : Int))), some (V.int r), y7, none] ∧
          NS H d pl pt ln n.toNat 0 (k + 100 + 50 * ↑i + 1) (i + 1) (if 4 < kd then j else i + 1) H') (fun H1 e1 => ⟨_, rfl, (N3.on e1)⟩) ?_ ?_
      · rintro j σ' H1 hj ⟨y, rfl, N4⟩
        have c : 4 < kd := by
          refine Decidable.byContradiction fun c => ?_
          rw [if_neg c] at hj
          omega
        rw [if_pos c] at hj N4
        -- if (pick // 7 + spot * spot) % 5 < 2 * kind - 8
        refine ⟨_, rfl, _, _, rfl, rfl, ⟨by decide, by decide⟩, _, rfl, _, rfl, _, _, rfl, rfl, .inl ⟨by omega, by omega⟩, _, _, rfl, rfl, _, _, rfl, rfl, (by show (5 : Int) ≠ 0; decide), ?_⟩
        refine ⟨_, rfl, _, _, rfl, rfl, .inl ⟨by decide, by decide⟩, _, _, rfl, rfl, _, _, rfl, rfl, _, rfl, ?_⟩
        by_cases c5 : (r.fdiv 7 + (j : Int) * (j : Int)).fmod 5 < 2 * kd - 8
        · rw [decide_eq_true c5]
          refine iteT ?_
          obtain ⟨as, a1, a2, a3⟩ := N4.push (i := j) L hi2 (by omega) (Nat.le_refl _) (.inr rfl) (fun z => by omega) hpt nlt ndt (by omega)
          refine s_appL a1 (ev_var rfl) (el_lst (ea_cons (ev_op (ev_var rfl) (ev_var rfl) (rv_ixL (.inl (.inl (NSpl N4))) (v := .int (at0 ln (i + 1))) ?_)) (ea_cons (ev_op (ev_var rfl) (ev_var rfl) (rv_ixL (.inl (.inl (NSpl N4))) (v := .int (at0 ln j)) ?_)) ea_nil)) (by show 2 ≤ 100000; decide)) (by rw [List.length_map]; omega) fun p2 H3 np e2 hp3 => ⟨_, rfl, ?_⟩
          · have z := atI_int (l := ln) (i := 1 + (i : Int)) (by omega) (by omega)
            rwa [show (1 + (i : Int)).toNat = i + 1 by omega] at z
          · have z := atI_int (l := ln) (i := (j : Int)) (by omega) (by omega)
            rwa [Int.toNat_natCast] at z
          · rw [if_pos c]
            exact a3 p2 H3 np e2 hp3
        · rw [decide_eq_false c5]
          refine iteF ⟨_, rfl, ?_⟩
          rw [if_pos c]
          exact N4.mono (by omega) (Int.le_refl _)
      · rintro σ' H1 ⟨y, rfl, N4⟩
        refine ⟨_, _, _, rfl, ?_⟩
        have N5 : NS H d pl pt ln n.toNat 0 (k + 100 + 50 * ↑i + 1) (i + 1) (i + 1) H1 := by
          by_cases c : 4 < kd
          · rw [if_pos c, if_pos c] at N4
            rwa [show (1 + (i : Int)).toNat = i + 1 by omega] at N4
          · rw [if_neg c] at N4
            exact N4
        exact (N5.next (by omega)).mono (Nat.le_refl _) (by omega)
    · rintro σ' H' ⟨y5, y6, y7, rfl, N6⟩
      rw [show (n - 1).toNat + 1 = n.toNat by omega] at N6
      obtain ⟨ts, k', hTM, h2, h3, hd', hk', h6, h7⟩ := N6
      have N := Good.net (o := 0) L h6 (by omega) (by omega)
      rw [show ((n.toNat : Nat) : Int) = n by omega] at N
      obtain ⟨as, hP, nas⟩ := hTM.ps
      have few := N.few
      have asl : as.length = ts.length := hP.2.len
      have nd0 : ∀ {b : Addr} {t : Int × Int}, At2 H' b t → b ≠ d := fun {b t} h z => by
        obtain ⟨xx, bb, hh⟩ := hd'
        unfold At2 at h
        rw [z, hh] at h
        cases h
      have has : ∀ b ∈ as, ∃ t, At2 H' b t := fun b hb => by
        obtain ⟨i, hi, e⟩ := List.getElem_of_mem hb
        exact ⟨_, hP.2.at_ (by rw [List.getElem?_eq_getElem hi, e]) (List.getElem?_eq_getElem (by omega : i < ts.length))⟩
      refine ⟨_, rfl, _, rfl, d, pt, k', as.map V.ref, rfl, hd', ⟨hk'.1, by rw [List.length_map]; omega⟩, .inl (.inl hP.1), by rw [List.length_map]; omega, fun H'' e x hx => ?_, fun ys p2 H5 pm np2 e5 hd5 hp2 => ?_⟩
      · obtain ⟨b, hb, rfl⟩ := List.mem_map.mp hx
        obtain ⟨t, ht⟩ := has b hb
        exact Sh.pair (.inl (.inl (e _ _ (nd0 ht) ht)))
      obtain ⟨as', rfl, pa⟩ := perm_refs pm
      obtain ⟨ts', pt', hF⟩ := F2.perm pa.symm hP.2
      have tsl : ts'.length = ts.length := pt'.length_eq.symm
      have asl' : as'.length = ts'.length := hF.len
      have hF5 : F2 (At2 H5) as' ts' := hF.mono fun b t h => e5 _ _ (nd0 h) h
      have np2d : p2 ≠ d := fun z => by
        obtain ⟨xx, bb, hh⟩ := hd'
        rw [← z, np2] at hh
        cases hh
      rw [List.length_map] at hd5
      generalize hk5 : k' + (as.length : Int) = k5 at hd5
      refine ⟨p2, rfl, ⟨_, .inl (.inl hp2)⟩, fun Dl hDl => ?_⟩
      have n1 : p2 ≠ Dl := ne_of_none hp2 hDl
      have n2 : d ≠ Dl := by
        obtain ⟨xx, bb, hh⟩ := hd5
        exact ne_of_none hh hDl
      refine lc_list (xs := as'.map V.ref) (TW H5 Dl p2 d as' ts' k5) ?_ (fun i H' _ z => .inl (.inl z.2.1)) (fun c x H6 hc z => ⟨rfl, ?_⟩) fun H6 z => ?_
      · refine ⟨hDl, by rw [upd_ne n1]; exact hp2, [], k5, ⟨[], upd_same, rfl, (by simp), fun i b t x => nomatch x⟩, rfl, ExA.of (Ex.new hDl), hd5.on (Ex.new hDl), by omega⟩
      · obtain ⟨b, hb, rfl⟩ := map_at hc
        have hcl : c < ts'.length := by rw [← asl']; exact (List.getElem?_eq_some_iff.mp hb).1
        obtain ⟨t, ht⟩ : ∃ t, ts'[c]? = some t := ⟨_, List.getElem?_eq_getElem hcl⟩
        obtain ⟨z1, z2, us, k2, z3, z4, z5, z6, z7⟩ := z
        have hb5 := hF5.at_ hb ht
        have nbd : b ≠ d := fun z => by
          obtain ⟨xx, bb, hh⟩ := hd5
          unfold At2 at hb5
          rw [z, hh] at hb5
          cases hb5
        have nbD : b ≠ Dl := ne_of_none hb5 hDl
        refine yes_if ?_
        refine ⟨_, rfl, d, k2, rfl, z6, ⟨z7.1, by omega⟩, fun r H7 r0 e7 hd7 => .inl ⟨r, rfl, _, _, rfl, rfl, (by show (2 : Int) ≠ 0; decide), rfl, _, rfl, ?_⟩⟩
        have hb7 : H7 b = some (.lst [.int t.1, .int t.2]) := e7 _ _ nbd (z5 _ _ nbd hb5)
        have hT7 := z3.exA z6 e7
        have hp7 := e7 _ _ np2d z2
        have eA7 := z5.trans e7
        rw [dec_vi]
        by_cases c0 : r.fmod 2 = 0
        · rw [decide_eq_true c0]
          refine iteT ⟨_, rfl, b, _, rfl, .inl (.inl hb7), fun q nq => ?_⟩
          exact TW.push (x := t.2) (y := t.1) ht (by omega) hDl hp7 hT7 z4 eA7 hd7 (by omega) nq (nrm_swap _ _) n1 n2
        · rw [decide_eq_false c0]
          refine iteF ⟨_, rfl, ?_⟩
          exact TW.push' ht (by omega) hDl hp7 hT7 z4 eA7 hd7 (by omega) hb7 nbD n1 n2
      · obtain ⟨z1, z2, us, k2, z3, z4, z5, z6, z7⟩ := z
        rw [List.length_map, asl', List.take_length] at z4
        have NU : NetOk n us := net_turned N (by rw [z4]; exact (pt'.map nrm).symm)
        have eH5 := h3.trans e5
        refine q us Dl k2 H6 NU (exA_fresh eH5 ⟨_, hd5⟩ hDl) (eH5.trans z5) z6 ?_ z3
        rw [List.length_map] at z7
        omega
end
end K20

namespace K20
open PySem PySem.Spec PyProof.Rows L2 Vf Evl
/-! ### the law's own rounds -/
abbrev kk (a b : Int) : List Key := [.inl a, .inl b]
def NearAt (H : Hp) (p : Addr) (ts : List (Int × Int)) : Prop := ∃ kvs : List (List Key × V), H p = some (.dT kvs) ∧ kvs.length ≤ 2 * ts.length ∧ ∀ a b : Int, (valV kvs (kk a b)).isSome = MR.tdF ts a b
theorem NearAt.on {H H' : Hp} {p : Addr} {ts : List (Int × Int)} (h : NearAt H p ts) (e : Ex H H') : NearAt H' p ts := by
  obtain ⟨kvs, a, b, c⟩ := h
  exact ⟨kvs, e _ _ a, b, c⟩
theorem NearAt.exA {d : Addr} {k : Int} {H H' : Hp} {p : Addr} {ts : List (Int × Int)} (h : NearAt H p ts) (hd : Dr H d k) (e : ExA d H H') : NearAt H' p ts := by
  obtain ⟨kvs, a, b, c⟩ := h
  obtain ⟨x, bb, hx⟩ := hd
  refine ⟨kvs, e _ _ (fun z => ?_) a, b, c⟩
  rw [z, hx] at a
  cases a
theorem kk_eq {a b x y : Int} : (kk a b = kk x y) ↔ a = x ∧ b = y := by simp [kk]
theorem near_put {kvs : List (List Key × V)} {td : Int → Int → Bool} (h : ∀ a b : Int, (valV kvs (kk a b)).isSome = td a b) (x y : Int) : ∀ a b : Int, (valV (putK kvs (kk x y) (.bl true)) (kk a b)).isSome = td1 td x y a b := by
  intro a b
  rw [valV_put]
  unfold td1
  by_cases c : a = x ∧ b = y
  · rw [if_pos (kk_eq.mpr c), decide_eq_true c.1, decide_eq_true c.2]
    simp
  · rw [if_neg (fun z => c (kk_eq.mp z)), h]
    by_cases c1 : a = x
    · rw [decide_eq_false (fun z => c ⟨c1, z⟩)]
      simp
    · rw [decide_eq_false c1]
      simp
/-- where each person sits tells the standing -/
theorem stOf_is {n : Nat} {pl st : List Int} (P : MR.Plc n pl) (hl : st.length = n) (h : ∀ p : Int, 1 ≤ p → p ≤ n → st[(MR.g0 pl p - 1).toNat]? = some p) : MR.stOf pl = st := by
  have hl2 := P.stn.len
  refine List.ext_getElem? fun j => ?_
  by_cases hj : j < n
  · obtain ⟨i, hi, e⟩ := List.mem_iff_getElem.mp (P.row.all (i := ((j + 1 : Nat) : Int)) (by omega) (by omega))
    have hx : pl[i]? = some ((j + 1 : Nat) : Int) := by rw [List.getElem?_eq_getElem hi, e]
    have i0 : i ≠ 0 := fun z => by
      rw [z, P.zero] at hx
      have := Option.some.inj hx
      omega
    have il : i ≤ n := by have := P.row.len; omega
    have hg : MR.g0 pl (i : Int) = ((j + 1 : Nat) : Int) := by
      unfold MR.g0
      rw [List.getD_eq_getElem?_getD, Int.toNat_natCast, hx]
      rfl
    have t := MR.turn_at P.row hx
    rw [P.turn, Int.toNat_natCast, List.getElem?_cons_succ] at t
    have z := h (i : Int) (by omega) (by omega)
    rw [hg, show (((j + 1 : Nat) : Int) - 1).toNat = j by omega] at z
    rw [t, z]
  · rw [List.getElem?_eq_none (by omega), List.getElem?_eq_none (by omega)]
theorem stOf_at {n : Nat} {pl : List Int} (P : MR.Plc n pl) {p : Int} (h0 : 1 ≤ p) (h1 : p ≤ n) : (MR.stOf pl)[(MR.g0 pl p - 1).toNat]? = some p := by
  obtain ⟨a, b, c⟩ := P.of h0 h1
  have t := MR.turn_at P.row c
  rw [P.turn] at t
  rw [show (MR.g0 pl p).toNat = (MR.g0 pl p - 1).toNat + 1 by omega, List.getElem?_cons_succ] at t
  rw [t]
  exact congrArg some (by omega)
theorem stOf_step {n : Nat} {td : Int → Int → Bool} {pl : List Int} (P : MR.Plc n pl) {c : Int × Int} (hc : MR.CallOk n c) (ht : ¬ td (MR.g0 pl c.1) (MR.g0 pl c.2) = true) :
    MR.stOf (MR.stepP td pl c) = ((MR.stOf pl).set (MR.g0 pl c.2 - 1).toNat c.1).set (MR.g0 pl c.1 - 1).toNat c.2 ∧ (∀ p : Int, 1 ≤ p → p ≤ n → MR.g0 (MR.stepP td pl c) p = if p = c.2 then MR.g0 pl c.1 else if p = c.1 then MR.g0 pl c.2 else MR.g0 pl p) := by
  have hstep : MR.stepP td pl c = (pl.set c.1.toNat (MR.g0 pl c.2)).set c.2.toNat (MR.g0 pl c.1) := by unfold MR.stepP; rw [if_neg ht]
  have P2 := MR.step_plc (td := td) P hc
  have g2 : ∀ p : Int, 1 ≤ p → p ≤ n → MR.g0 (MR.stepP td pl c) p = if p = c.2 then MR.g0 pl c.1 else if p = c.1 then MR.g0 pl c.2 else MR.g0 pl p := by
    intro p h0 h1
    have z := MR.swap_at P.row.len hc p.toNat
    rw [← hstep] at z
    obtain ⟨k1, k2, k3⟩ := hc
    show (MR.stepP td pl c).getD p.toNat 0 = _
    rw [z]
    by_cases e1 : p = c.2
    · rw [if_pos (by rw [e1]), if_pos e1]
    · rw [if_neg (by omega), if_neg e1]
      by_cases e2 : p = c.1
      · rw [if_pos (by rw [e2]), if_pos e2]
      · rw [if_neg (by omega), if_neg e2]
  refine ⟨stOf_is P2 ?_ fun p h0 h1 => ?_, g2⟩
  · rw [List.length_set, List.length_set, P.stn.len]
  · obtain ⟨k1, k2, k3⟩ := hc
    have A1 := P.of k1.1 k1.2
    have A2 := P.of k2.1 k2.2
    have B := P.of h0 h1
    have sl := P.stn.len
    rw [g2 p h0 h1]
    by_cases e1 : p = c.2
    · rw [if_pos e1, List.getElem?_set_self (by rw [List.length_set]; omega), e1]
    · rw [if_neg e1]
      by_cases e2 : p = c.1
      · have ne : MR.g0 pl c.1 ≠ MR.g0 pl c.2 := fun z => k3 (P.inj k1.1 k1.2 k2.1 k2.2 z)
        rw [if_pos e2, List.getElem?_set_ne (by omega), List.getElem?_set_self (by omega), e2]
      · have n1 : MR.g0 pl p ≠ MR.g0 pl c.1 := fun z => e2 (P.inj h0 h1 k1.1 k1.2 z)
        have n2 : MR.g0 pl p ≠ MR.g0 pl c.2 := fun z => e1 (P.inj h0 h1 k2.1 k2.2 z)
        rw [if_neg e2, List.getElem?_set_ne (by omega), List.getElem?_set_ne (by omega)]
        exact stOf_at P h0 h1
/-- the seats by the people, as the law keeps them -/
def SpotsAt (H : Hp) (s : Addr) (n : Nat) (pl : List Int) : Prop := ∃ kvs : List (Key × V), H s = some (.dK kvs) ∧ kvs.length ≤ 10000 ∧ ∀ p : Int, 1 ≤ p → p ≤ n → valV kvs (.inl p) = some (.int (MR.g0 pl p - 1))
theorem put_len {κ : Type} [DecidableEq κ] {kvs : List (κ × V)} {k : κ} {v w : V} (h : valV kvs k = some v) : (putK kvs k w).length = kvs.length := by
  unfold putK
  rw [valV_any, h]
  simp
section
variable {P : Program} {w : World} {K : PySem.W.Frag} {mg : Str → Option Value} {base : Heap} {A : Ad}
def sp_l_near (K : PySem.W.Frag) : Sp := fun vs H Q _ => ∃ (a : Addr) (ts : List (Int × Int)), vs = [.ref a] ∧ TiesAt K H a ts ∧ ts.length ≤ 1000 ∧ ∀ p H2, H p = none → Ex H H2 → NearAt H2 p ts → Q (.ref p) H2
theorem ok_l_near (T : Txt K mg A) : FnOk P w K mg base CX0 1 A.f_l_near A.d_l_near ["_law_pairs"] (sp_l_near K) := by
  refine T.F_l_near.ok sc_l_near (fun vs H Q E h => ?_) (fun cdv A' outer s H vs Q E hr h => ?_)
  · obtain ⟨a, ts, rfl, _⟩ := h
    rfl
  · obtain ⟨a, ts, rfl, hT, few, q⟩ := h
    obtain ⟨as, hS, hlen, hat⟩ := hT
    refine ⟨_, (pss_cons (ps_set (i := 1) sc_l_near.nd rfl (by first | exact .inl rfl | exact .inr rfl) pe_dnewT)
      (pss_cons (ps_for PassesOwn.never rfl (pi_listK (K := K) rfl (pv 0)) (pg_unlK (K := K) rfl rfl (pgs_cons (pg_name (i := 2) sc_l_near.nd rfl (by first | exact .inl rfl | exact .inr rfl)) (pgs_cons (pg_name (i := 3) sc_l_near.nd rfl (by first | exact .inl rfl | exact .inr rfl)) pgs_nil))) (pss_cons (ps_asg pe_bl (pg_sub (pv 1) (pe_tup (pa_cons (pv 2) (pa_cons (pv 3) pa_nil))) (set_dict (hu_of hr))))
      (pss_one (ps_asg pe_bl (pg_sub (pv 1) (pe_tup (pa_cons (pv 3) (pa_cons (pv 2) pa_nil))) (set_dict (hu_of hr)))))))
      (pss_one (ps_ret (pv 1))))), ?_⟩
    refine fun D nD => ?_
    have e0 : Ex H (upd H D (.dT [])) := Ex.new nD
    refine ⟨.ref a, rfl, a, rfl, ⟨_, ex_l e0 hS⟩, ?_⟩
    refine for_list (xs := as.map V.ref) (fun i σ' H' => (∃ y2 y3, σ' = [some (.ref a), some (.ref D), y2, y3]) ∧ Ex H H' ∧ NearAt H' D (ts.take i))
      ⟨⟨none, none, rfl⟩, e0, [], upd_same, Nat.zero_le _, fun a b => by rw [List.take_zero, tdF_nil]; rfl⟩ (fun i σ' H' _ z => ex_l z.2.1 hS) ?_ ?_
    · rintro i x σ' H' hx ⟨⟨y2, y3, rfl⟩, e2, kvs, h1, h2, h3⟩
      obtain ⟨b, hb, rfl⟩ := map_at hx
      have hi : i < ts.length := by rw [← hlen]; exact (List.getElem?_eq_some_iff.mp hb).1
      obtain ⟨t, ht⟩ : ∃ t, ts[i]? = some t := ⟨_, List.getElem?_eq_getElem hi⟩
      rw [List.length_take] at h2
      refine ⟨b, _, rfl, ex_l e2 (hat i b t hb ht), rfl, _, _, rfl, _, _, rfl, rfl, ?_⟩
      -- told[one, two] = True
      refine ⟨_, rfl, _, rfl, _, rfl, (by show 2 ≤ sizeLine; decide), fun t1 nt1 => ?_⟩
      have g1 : Ex H' (upd H' t1 (.tup [.int t.1, .int t.2])) := Ex.new nt1
      refine ⟨D, _, rfl, DPut.t (k := kk t.1 t.2) (g1 _ _ h1) upd_same (sz_lt (by omega)), ?_⟩
      have e3 := Ex.mut (o := .dT (putK kvs (kk t.1 t.2) (.bl true))) (e2.trans g1) nD
      have l1 := length_putK kvs (kk t.1 t.2) (.bl true)
      have h4 := near_put h3 t.1 t.2
      -- told[two, one] = True
      refine ⟨_, rfl, _, rfl, _, rfl, (by show 2 ≤ sizeLine; decide), fun t2 nt2 => ?_⟩
      have g2 : Ex _ (upd (upd (upd H' t1 (.tup [.int t.1, .int t.2])) D (.dT (putK kvs (kk t.1 t.2) (.bl true)))) t2 (.tup [.int t.2, .int t.1])) := Ex.new nt2
      refine ⟨D, _, rfl, DPut.t (k := kk t.2 t.1) (g2 _ _ upd_same) upd_same (sz_lt (by omega)), ?_⟩
      have l2 := length_putK (putK kvs (kk t.1 t.2) (.bl true)) (kk t.2 t.1) (.bl true)
      refine ⟨⟨_, _, rfl⟩, Ex.mut (e3.trans g2) nD, _, upd_same, ?_, ?_⟩
      · rw [List.length_take]
        omega
      · rw [take_snoc ht, tdF_snoc]
        exact near_put h4 t.2 t.1
    · rintro σ' H' ⟨⟨y2, y3, rfl⟩, e2, hN⟩
      rw [List.length_map, hlen, List.take_length] at hN
      exact ⟨_, rfl, q D H' nD e2 hN⟩
def sp_l_moved (K : PySem.W.Frag) : Sp := fun vs H Q _ => ∃ (a b c : Addr) (ts : List (Int × Int)) (st cs : List Int) (n : Nat), vs = [.ref a, .ref b, .ref c] ∧ NearAt H a ts ∧ SqL K H b (st.map V.int) ∧ MR.Stn n st ∧ SqL K H c (cs.map V.int) ∧
  (∀ x ∈ cs, 1 ≤ x ∧ x ≤ (n : Int)) ∧ 2 ≤ n ∧ n ≤ 900 ∧ RetL ((MR.stOf (MR.runP (MR.tdF ts) (MR.plOf st) (MR.pairsF n cs))).map V.int) H Q
theorem ok_l_moved (T : Txt K mg A) : FnOk P w K mg base CX0 1 A.f_l_moved A.d_l_moved ["_law_near_here", "_law_row", "_law_rows"] (sp_l_moved K) := by
  refine T.F_l_moved.ok sc_l_moved (fun vs H Q E h => ?_) (fun cdv A' outer s H vs Q E hr h => ?_)
  · obtain ⟨a, b, c, ts, st, cs, n, rfl, _⟩ := h
    rfl
  · obtain ⟨a, b, c, ts, st, cs, n, rfl, hN, hS, S, hC, hc, n2, n9, q⟩ := h
    refine ⟨_, (pss_cons (ps_set (i := 3) sc_l_moved.nd rfl (by first | exact .inl rfl | exact .inr rfl) (pe_callTy (call_listK (K := K) rfl) (by rfl) T.z_list (by decide +kernel) (pa_cons (pv 1) pa_nil)))
      (pss_cons (ps_set (i := 4) sc_l_moved.nd rfl (by first | exact .inl rfl | exact .inr rfl) pe_dnewK)
      (pss_cons (ps_for PassesOwn.never rfl (pi_enum (by rfl) T.z_enumerate (pa_cons (pv 3) pa_nil)) (pg_tupK (K := K) rfl rfl (pgs_cons (pg_name (i := 5) sc_l_moved.nd rfl (by first | exact .inl rfl | exact .inr rfl)) (pgs_cons (pg_name (i := 6) sc_l_moved.nd rfl (by first | exact .inl rfl | exact .inr rfl)) pgs_nil))) (pss_one (ps_asg (pv 5) (pg_sub (pv 4) (pv 6) (set_dict (hu_of hr))))))
      (pss_cons (ps_for PassesOwn.never rfl (pi_listK (K := K) rfl (pv 2)) (pg_name (i := 7) sc_l_moved.nd rfl (by first | exact .inl rfl | exact .inr rfl)) (pss_cons (ps_set (i := 8) sc_l_moved.nd rfl (by first | exact .inl rfl | exact .inr rfl) (pe_op op_add (pe_op op_modN (pv 7) (pe_callB (call_lenK (K := K) rfl) (by rfl) T.z_len PySem.boot_len (pa_cons (pv 3) pa_nil))) pe_int))
      (pss_one (ps_if (pt_cmp (pc_dnotin (hu_of hr) (pe_tup (pa_cons (pe_op op_add (pe_dget (hu_of hr) (pv 4) (pv 7) (fun _ _ => rfl)) pe_int) (pa_cons (pe_op op_add (pe_dget (hu_of hr) (pv 4) (pv 8) (fun _ _ => rfl)) pe_int) pa_nil))) (pv 0))) (pss_cons (ps_asg (pe_tup (pa_cons (pe_dget (hu_of hr) (pv 4) (pv 8) (fun _ _ => rfl)) (pa_cons (pe_dget (hu_of hr) (pv 4) (pv 7) (fun _ _ => rfl)) pa_nil))) (pg_tupK (K := K) rfl rfl (pgs_cons (pg_sub (pv 4) (pv 7) (set_dict (hu_of hr))) (pgs_cons (pg_sub (pv 4) (pv 8) (set_dict (hu_of hr))) pgs_nil))))
      (pss_cons (ps_asg (pv 7) (pg_sub (pv 3) (pe_dget (hu_of hr) (pv 4) (pv 7) (fun _ _ => rfl)) set_list))
      (pss_one (ps_asg (pv 8) (pg_sub (pv 3) (pe_dget (hu_of hr) (pv 4) (pv 8) (fun _ _ => rfl)) set_list))))) pss_nil))))
      (pss_one (ps_ret (pv 3))))))), ?_⟩
    have sl := S.len
    have P0 := S.plc
    -- told = list(row), spots = {}
    refine ⟨_, rfl, b, _, rfl, .inl hS, fun t nt => ?_⟩
    have e1 : Ex H (upd H t (.lst (st.map V.int))) := Ex.new nt
    refine fun s ns => ?_
    have e2 := e1.trans (Ex.new (o := .dK []) ns)
    have nts : t ≠ s := ne_of_none upd_same ns
    have ns0 : H s = none := fresh_back e1 ns
    refine ⟨.ref t, rfl, t, st.map V.int, rfl, .inl (.inl (by rw [upd_ne nts]; exact upd_same)), ?_⟩
    refine for_enumL (xs := st.map V.int) (fun i σ' H' => (∃ y5 y6, σ' = [some (.ref a), some (.ref b), some (.ref c), some (.ref t), some (.ref s), y5, y6, none, none]) ∧ Ex H H' ∧ H' t = some (.lst (st.map V.int)) ∧
        ∃ kvs : List (Key × V), H' s = some (.dK kvs) ∧ kvs.length ≤ i ∧ ∀ (j : Nat) (x : Int), j < i → st[j]? = some x → valV kvs (.inl x) = some (.int (j : Int)))
      ⟨⟨none, none, rfl⟩, e2, by rw [upd_ne nts]; exact upd_same, [], upd_same, Nat.le_refl _, fun j x hj => absurd hj (Nat.not_lt_zero _)⟩ (fun i σ' H' z => .inl (.inl z.2.2.1)) ?_ ?_
    · rintro i x Tt σ' H' hx ⟨⟨y5, y6, rfl⟩, e3, ht, kvs, h1, h2, h3⟩ nT
      obtain ⟨p, hp, rfl⟩ := map_at hx
      have hi := (List.getElem?_eq_some_iff.mp hp).1
      have e4 : Ex H' (upd H' Tt (.tup [.int (i : Nat), .int p])) := Ex.new nT
      refine ⟨Tt, _, rfl, .inl (.inl upd_same), rfl, _, _, rfl, _, _, rfl, rfl, ?_⟩
      refine ⟨_, rfl, _, rfl, _, rfl, s, _, rfl, DPut.k (k := .inl p) (e4 _ _ h1) (sz_lt (by omega)), ?_⟩
      have l1 := length_putK kvs (.inl p) (V.int (i : Int))
      refine ⟨⟨_, _, rfl⟩, Ex.mut (e3.trans e4) ns0, by rw [upd_ne nts]; exact e4 _ _ ht, _, upd_same, by omega, fun j x hj hxj => ?_⟩
      rw [valV_put]
      by_cases e : x = p
      · rw [if_pos (by rw [e])]
        have : j = i := by
          subst e
          have nd := List.pairwise_iff_getElem.mp (List.nodup_iff_pairwise_ne.mp S.nd)
          obtain ⟨q1, q2⟩ := List.getElem?_eq_some_iff.mp hxj
          obtain ⟨q3, q4⟩ := List.getElem?_eq_some_iff.mp hp
          refine Decidable.byContradiction fun z => ?_
          exact nd j i q1 q3 (by omega) (q2.trans q4.symm)
        rw [this]
      · rw [if_neg (fun z => e (Sum.inl.inj z))]
        refine h3 j x ?_ hxj
        refine Decidable.byContradiction fun z => ?_
        have : j = i := by omega
        subst this
        exact e (Option.some.inj (hxj.symm.trans hp))
    · rintro σ' H' ⟨⟨y5, y6, rfl⟩, e3, ht, kvs, h1, h2, h3⟩
      have hsp : SpotsAt H' s n (MR.plOf st) := by
        refine ⟨kvs, h1, by rw [List.length_map] at h2; omega, fun p p0 p1 => ?_⟩
        have z := stOf_at P0 p0 p1
        rw [S.back] at z
        have y := h3 _ p (by rw [List.length_map]; exact (List.getElem?_eq_some_iff.mp z).1) z
        rw [y]
        have := P0.of p0 p1
        exact congrArg (fun i => some (V.int i)) (by omega)
      have ht0 : H' t = some (.lst ((MR.stOf (MR.plOf st)).map V.int)) := by rw [S.back]; exact ht
      clear h1 h2 h3 ht kvs
      refine ⟨.ref c, rfl, c, rfl, ⟨_, ex_l e3 hC⟩, ?_⟩
      refine for_list (xs := cs.map V.int) (fun i σ' H' => (∃ y7 y8, σ' = [some (.ref a), some (.ref b), some (.ref c), some (.ref t), some (.ref s), y5, y6, y7, y8]) ∧ Ex H H' ∧ H' t = some (.lst ((MR.stOf (MR.runP (MR.tdF ts) (MR.plOf st) ((MR.pairsF n cs).take i))).map V.int)) ∧
          SpotsAt H' s n (MR.runP (MR.tdF ts) (MR.plOf st) ((MR.pairsF n cs).take i)))
        ⟨⟨none, none, rfl⟩, e3, ht0, hsp⟩ (fun i σ' H' _ z => ex_l z.2.1 hC) ?_ ?_
      · rintro i x σ' H' hx ⟨⟨y7, y8, rfl⟩, e4, ht, hsp⟩
        obtain ⟨one, h1, rfl⟩ := map_at hx
        have ok := MR.pairs_ok n2 hc
        have hp : (MR.pairsF n cs)[i]? = some (one, MR.nxt n one) := by unfold MR.pairsF; rw [List.getElem?_map, h1]; rfl
        have okc := ok _ (List.mem_of_getElem? hp)
        have Pi : MR.Plc n (MR.runP (MR.tdF ts) (MR.plOf st) ((MR.pairsF n cs).take i)) := MR.run_plc P0 fun d hd => ok d (List.mem_of_mem_take hd)
        have hrm := run_more (td := MR.tdF ts) (pl := MR.plOf st) hp
        generalize MR.runP (MR.tdF ts) (MR.plOf st) ((MR.pairsF n cs).take i) = m at ht hsp Pi hrm
        have tl := Pi.stn.len
        -- two = one % len(told) + 1
        refine ⟨_, rfl, _, rfl, t, _, rfl, .inl (.inl (.inl ht)), _, _, rfl, rfl, (by rw [List.length_map, tl]; show (n : Int) ≠ 0; omega), _, _, rfl, rfl, ?_⟩
        have e2' : one.fmod (((MR.stOf m).map V.int).length : Int) + 1 = MR.nxt n one := by
          rw [List.length_map, tl, fm one (show (0 : Int) < n by omega)]
          rfl
        dsimp only [gName]
        show tIfS (tB _) _ _ _ [some (.ref a), some (.ref b), some (.ref c), some (.ref t), some (.ref s), y5, y6, some (.int one), some (.int (one.fmod (((MR.stOf m).map V.int).length : Int) + 1))] H'
        rw [e2']
        obtain ⟨k1, k2, k3⟩ := okc
        have A1 := Pi.of k1.1 k1.2
        have A2 := Pi.of k2.1 k2.2
        obtain ⟨kvs, hs, hl, hv⟩ := hsp
        have v1 : ∀ {H'' : Hp}, H'' s = some (.dK kvs) → DGet H'' s (.int one) (some (.int (MR.g0 m one - 1))) := fun {H''} z => by
          have y := DGet.k (k := .inl one) z
          rw [hv one k1.1 k1.2] at y
          exact y
        have v2 : ∀ {H'' : Hp}, H'' s = some (.dK kvs) → DGet H'' s (.int (MR.nxt n one)) (some (.int (MR.g0 m (MR.nxt n one) - 1))) := fun {H''} z => by
          have y := DGet.k (k := .inl (MR.nxt n one)) z
          rw [hv _ k2.1 k2.2] at y
          exact y
        -- if (spots[one] + 1, spots[two] + 1) not in near
        refine ⟨_, rfl, _, rfl, s, _, rfl, v1 hs, _, _, rfl, rfl, _, rfl, _, rfl, s, _, rfl, v2 hs, _, _, rfl, rfl, (by show 2 ≤ sizeLine; decide), fun tp ntp => ?_⟩
        have e5 : Ex H' (upd H' tp (.tup [.int (MR.g0 m one - 1 + 1), .int (MR.g0 m (MR.nxt n one) - 1 + 1)])) := Ex.new ntp
        obtain ⟨nk, hn1, hn2, hn3⟩ := (hN.on e4).on e5
        have hg := DGet.t (k := kk (MR.g0 m one - 1 + 1) (MR.g0 m (MR.nxt n one) - 1 + 1)) hn1 upd_same
        refine ⟨_, rfl, a, _, rfl, hg, _, rfl, ?_⟩
        rw [hn3, show MR.g0 m one - 1 + 1 = MR.g0 m one by omega, show MR.g0 m (MR.nxt n one) - 1 + 1 = MR.g0 m (MR.nxt n one) by omega]
        have e45 := e4.trans e5
        have hs5 := e5 _ _ hs
        have ht5 := e5 _ _ ht
        revert e45 hs5 ht5
        generalize upd H' tp (.tup [.int (MR.g0 m one - 1 + 1), .int (MR.g0 m (MR.nxt n one) - 1 + 1)]) = H5
        intro e45 hs5 ht5
        by_cases tt : MR.tdF ts (MR.g0 m one) (MR.g0 m (MR.nxt n one)) = true
        · rw [tt]
          have es : MR.stepP (MR.tdF ts) m (one, MR.nxt n one) = m := by unfold MR.stepP; rw [if_pos tt]
          refine iteF ⟨⟨_, _, rfl⟩, e45, ?_, kvs, hs5, hl, ?_⟩
          · rw [hrm, es]
            exact ht5
          · rw [hrm, es]
            exact hv
        · rw [Bool.eq_false_iff.mpr tt]
          obtain ⟨f1, f2⟩ := stOf_step (td := MR.tdF ts) Pi ⟨k1, k2, k3⟩ tt
          refine iteT ?_
          -- spots[one], spots[two] = (spots[two], spots[one])
          refine ⟨_, rfl, _, rfl, s, _, rfl, v2 hs5, _, rfl, _, rfl, s, _, rfl, v1 hs5, (by show 2 ≤ sizeLine; decide), fun tq ntq => ?_⟩
          have e6 : Ex H5 (upd H5 tq (.tup [.int (MR.g0 m (MR.nxt n one) - 1), .int (MR.g0 m one - 1)])) := Ex.new ntq
          refine ⟨tq, _, rfl, .inl (.inl upd_same), rfl, _, _, rfl, ?_⟩
          have l1 := put_len (w := .int (MR.g0 m (MR.nxt n one) - 1)) (hv one k1.1 k1.2)
          have l2 := put_len (kvs := putK kvs (.inl one) (.int (MR.g0 m (MR.nxt n one) - 1))) (k := .inl (MR.nxt n one)) (w := .int (MR.g0 m one - 1)) (by
            rw [valV_put, if_neg (fun z => k3 (Sum.inl.inj z).symm)]
            exact hv _ k2.1 k2.2)
          refine ⟨_, rfl, _, rfl, s, _, rfl, DPut.k (k := .inl one) (e6 _ _ hs5) (sz_lt (by omega)), ?_⟩
          refine ⟨_, _, rfl, ?_⟩
          refine ⟨_, rfl, _, rfl, s, _, rfl, DPut.k (k := .inl (MR.nxt n one)) upd_same (sz_lt (by omega)), rfl, ?_⟩
          generalize hk2 : putK (putK kvs (.inl one) (.int (MR.g0 m (MR.nxt n one) - 1))) (.inl (MR.nxt n one)) (V.int (MR.g0 m one - 1)) = kvs2 at l2
          have hval : ∀ p : Int, 1 ≤ p → p ≤ n → valV kvs2 (.inl p) = some (.int (MR.g0 (MR.stepP (MR.tdF ts) m (one, MR.nxt n one)) p - 1)) := by
            intro p p0 p1
            rw [← hk2, valV_put, valV_put, f2 p p0 p1]
            by_cases q1 : p = MR.nxt n one
            · rw [if_pos (by rw [q1]), if_pos q1]
            · rw [if_neg (fun z => q1 (Sum.inl.inj z)), if_neg q1]
              by_cases q2 : p = one
              · rw [if_pos (by rw [q2]), if_pos q2]
              · rw [if_neg (fun z => q2 (Sum.inl.inj z)), if_neg q2]
                exact hv p p0 p1
          have w1 : valV kvs2 (.inl one) = some (.int (MR.g0 m (MR.nxt n one) - 1)) := by
            rw [hval one k1.1 k1.2, f2 one k1.1 k1.2, if_neg k3, if_pos rfl]
          have w2 : valV kvs2 (.inl (MR.nxt n one)) = some (.int (MR.g0 m one - 1)) := by
            rw [hval _ k2.1 k2.2, f2 _ k2.1 k2.2, if_pos rfl]
          have d1 : ∀ {H'' : Hp}, H'' s = some (.dK kvs2) → DGet H'' s (.int one) (some (.int (MR.g0 m (MR.nxt n one) - 1))) := fun {H''} z => by
            have y := DGet.k (k := .inl one) z
            rw [w1] at y
            exact y
          have d2 : ∀ {H'' : Hp}, H'' s = some (.dK kvs2) → DGet H'' s (.int (MR.nxt n one)) (some (.int (MR.g0 m one - 1))) := fun {H''} z => by
            have y := DGet.k (k := .inl (MR.nxt n one)) z
            rw [w2] at y
            exact y
          have ix : ∀ {l : List V} {x : Int}, l.length = n → 1 ≤ x → x ≤ n → ixN l.length (x - 1) = some (x - 1).toNat := fun {l x} hl h1 h2 => by
            have z := ixN_nat (n := n) (j := (x - 1).toNat) (by omega)
            rw [hl]
            rwa [show (((x - 1).toNat : Nat) : Int) = x - 1 by omega] at z
          have e7 := Ex.mut (o := .dK kvs2) (Ex.mut (o := .dK (putK kvs (.inl one) (V.int (MR.g0 m (MR.nxt n one) - 1)))) (e45.trans e6) ns0) ns0
          have ht7 : (upd (upd (upd H5 tq (.tup [.int (MR.g0 m (MR.nxt n one) - 1), .int (MR.g0 m one - 1)])) s (.dK (putK kvs (.inl one) (V.int (MR.g0 m (MR.nxt n one) - 1))))) s (.dK kvs2)) t = some (.lst ((MR.stOf m).map V.int)) := by
            rw [upd_ne nts, upd_ne nts]
            exact e6 _ _ ht5
          have hs7 : (upd (upd (upd H5 tq (.tup [.int (MR.g0 m (MR.nxt n one) - 1), .int (MR.g0 m one - 1)])) s (.dK (putK kvs (.inl one) (V.int (MR.g0 m (MR.nxt n one) - 1))))) s (.dK kvs2)) s = some (.dK kvs2) := upd_same
          generalize (upd (upd (upd H5 tq (.tup [.int (MR.g0 m (MR.nxt n one) - 1), .int (MR.g0 m one - 1)])) s (.dK (putK kvs (.inl one) (V.int (MR.g0 m (MR.nxt n one) - 1))))) s (.dK kvs2)) = H7 at e7 ht7 hs7
          have ml : ((MR.stOf m).map V.int).length = n := by rw [List.length_map, tl]
          -- told[spots[one]] = one
          refine ⟨_, rfl, _, rfl, _, rfl, _, rfl, s, _, rfl, d1 hs7, t, _, _, _, rfl, rfl, ht7, ix ml A2.1 A2.2.1, ?_⟩
          -- told[spots[two]] = two
          have hs8 : (upd H7 t (.lst (((MR.stOf m).map V.int).set (MR.g0 m (MR.nxt n one) - 1).toNat (.int one)))) s = some (.dK kvs2) := by rw [upd_ne (fun z => nts z.symm)]; exact hs7
          refine ⟨_, rfl, _, rfl, _, rfl, _, rfl, s, _, rfl, d2 hs8, t, _, _, _, rfl, rfl, upd_same, ix (by rw [List.length_set, ml]) A1.1 A1.2.1, ?_⟩
          refine ⟨⟨_, _, rfl⟩, Ex.mut (Ex.mut e7 nt) nt, ?_, kvs2, ?_, by omega, ?_⟩
          · rw [upd_same, hrm, f1, List.map_set, List.map_set]
          · rw [upd_ne (fun z => nts z.symm)]
            exact hs8
          · rw [hrm]
            exact hval
      · rintro σ' H' ⟨⟨y7, y8, rfl⟩, e4, ht, hsp⟩
        have el : (MR.pairsF n cs).length = cs.length := by unfold MR.pairsF; rw [List.length_map]
        rw [List.length_map, ← el, List.take_length] at ht
        exact ⟨_, rfl, q t H' nt e4 ht⟩
end
end K20

namespace K20
open PySem PySem.Spec PyProof.Rows L2 Vf Evl
theorem _root_.Vf.Dn.dpt {d : PyData} {len dep : Nat} (D : Dn d len dep) (h : dep ≤ 60) : d.depth ≤ 60 := Nat.le_trans D.dep_ h
theorem _root_.Vf.Dn.siz {d : PyData} {len dep : Nat} (D : Dn d len dep) (h : len ≤ 100000) : d.shown.length ≤ sizeLine := sz_of (Nat.le_trans D.len_ h)
def dTs (ts : List (Int × Int)) : PyData := dRows (ts.map fun t => [t.1, t.2])
theorem ties_dp {K : PySem.W.Frag} {H : Hp} {a : Addr} {ts : List (Int × Int)} (h : TiesAt K H a ts) : Dp K H (.ref a) (dTs ts) := by
  obtain ⟨as, h1, h2, h3⟩ := h
  refine dp_rows h1 (by rw [h2, List.length_map]) fun i p l x y => ?_
  rw [List.getElem?_map, Option.map_eq_some_iff] at y
  obtain ⟨t, ht, rfl⟩ := y
  exact h3 i p t x ht
theorem ties_dn {n : Int} {ts : List (Int × Int)} (N : NetOk n ts) : Dn (dTs ts) 30000 2 := by
  have hi := N.hi
  have few := N.few
  refine (dn_rows (m := 2) fun l hl => ?_).mono (by rw [List.length_map]; omega) (Nat.le_refl _)
  obtain ⟨t, ht, rfl⟩ := List.mem_map.mp hl
  have ok := N.ok t ht
  refine ⟨Nat.le_refl _, fun x hx => ?_⟩
  simp only [List.mem_cons, List.not_mem_nil, or_false] at hx
  rcases hx with rfl | rfl <;> omega
/-- whole numbers from 1 to 40, at most 100 of them -/
theorem few_dn {l : List Int} (h : ∀ x ∈ l, 1 ≤ x ∧ x ≤ 40) (hl : l.length ≤ 100) : Dn (dInts l) 1300 2 :=
  (dn_ints fun x hx => by have := h x hx; omega).mono (by omega) (by decide)
theorem stn_dn {n : Nat} {s : List Int} (S : MR.Stn n s) (h : n ≤ 40) : Dn (dInts s) 1300 2 := few_dn (fun x hx => by have := S.lo x hx; omega) (by rw [S.len]; omega)
theorem dn2 {a b : PyData} {len : Nat} (x : Dn a len 2) (y : Dn b len 2) : Dn (.list [a, b]) ((len + 2) * 2 + 2) 3 := by
  refine Dn.list (len := len) (dep := 2) fun d hd => ?_
  simp only [List.mem_cons, List.not_mem_nil, or_false] at hd
  rcases hd with rfl | rfl
  · exact x
  · exact y
theorem dn3 {a b c : PyData} {len : Nat} (x : Dn a len 2) (y : Dn b len 2) (z : Dn c len 2) : Dn (.list [a, b, c]) ((len + 2) * 3 + 2) 3 := by
  refine Dn.list (len := len) (dep := 2) fun d hd => ?_
  simp only [List.mem_cons, List.not_mem_nil, or_false] at hd
  rcases hd with rfl | rfl | rfl
  · exact x
  · exact y
  · exact z
theorem ne_draws {H : Hp} {s d : Addr} {st : List Int} {k : Int} (h : H s = some (.lst (st.map V.int))) (hd : Dr H d k) : s ≠ d := by
  rintro rfl
  obtain ⟨x, b, hx⟩ := hd
  rw [h] at hx
  injection hx with hx
  injection hx with hx
  match st, hx with
  | [a, b, c], hx => cases hx
/-! ### drawn calls -/
def RD (H : Hp) (d Dl : Addr) (n k0 : Int) (i : Nat) (H' : Hp) : Prop := H Dl = none ∧ ∃ rows : List Int, H' Dl = some (.lst (rows.map V.int)) ∧ rows.length = i ∧ (∀ x ∈ rows, 1 ≤ x ∧ x ≤ n) ∧ ExA d H H' ∧ Dr H' d (k0 + i)
theorem q_rows {σ : L2.St} {H : Hp} {D : Ends} {tz : TS} {j i0 : Nat} {vs : List Nat} {d : Addr} {n k : Int} (hd : Dr H d k) (hk : 0 ≤ k ∧ k < 2 ^ 39) (hn : 1 ≤ n) (h0 : σ[0]? = some (some (.ref d))) (h1 : ∀ x, ((wipe σ vs).set j (some x))[0]? = some (some (.ref d))) (h2 : ∀ x, ((wipe σ vs).set j (some x))[1]? = some (some (.int n)))
    (hw : ∀ x, wipe ((wipe σ vs).set j (some x)) vs = wipe σ vs)
    (go : ∀ (rows : List Int) (p : Addr) (k' : Int) (H2 : Hp), H p = none → ExA d H H2 → Dr H2 d k' → (0 ≤ k' ∧ k' ≤ k + 200) → H2 p = some (.lst (rows.map V.int)) → (∀ x ∈ rows, 1 ≤ x ∧ x ≤ n) → rows.length < 90 → tz D (σ.set i0 (some (.ref p))) H2) :
    tSeq (tAsg (tLc (iRng1 (tCons (tOp (rI (fun _ j => j ≠ 0) fun i j => V.int (i.fmod j)) (tCB (fun xs H Q => (∃ i, xs = [V.int i] ∧ Q (V.int i) H) ∨ ∃ k, xs = [V.bl k] ∧ Q (V.int (if k then 1 else 0)) H) (tCons (tCall sp_l_next [] E0 (tCons (tVar 0) tNil)) tNil)) (tC (.int 90))) tNil)) (gName j) tYes
      (tOp (rI0 fun i j => V.int (i + j)) (tC (.int 1)) (tOp (rI (fun _ j => j ≠ 0) fun i j => V.int (i.fmod j)) (tCB (fun xs H Q => (∃ i, xs = [V.int i] ∧ Q (V.int i) H) ∨ ∃ k, xs = [V.bl k] ∧ Q (V.int (if k then 1 else 0)) H) (tCons (tCall sp_l_next [] E0 (tCons (tVar 0) tNil)) tNil)) (tVar 1))) vs) (gName i0)) tz D σ H := by
  refine ⟨_, h0, d, k, rfl, hd, ⟨hk.1, by omega⟩, fun r H1 r0 e1 hd1 => .inl ⟨r, rfl, _, _, rfl, rfl, (by show (90 : Int) ≠ 0; decide), ?_⟩⟩
  have f := fmod_at (i := r) (j := 90) (by decide)
  refine ⟨r.fmod 90, rfl, by omega, by omega, fun Dl hD => ?_⟩
  obtain ⟨m, hm⟩ : ∃ m : Nat, r.fmod 90 = (m : Int) := ⟨(r.fmod 90).toNat, by omega⟩
  rw [hm] at f ⊢
  have nD : d ≠ Dl := by
    obtain ⟨x, b, hx⟩ := hd1
    exact ne_of_none hx hD
  have hD0 := exA_fresh e1 ⟨_, hd1⟩ hD
  refine lc_range (lo := 0) (n := ((m : Int)).toNat) (RD H1 d Dl n (k + 1)) ?_ (fun i H' hi p => ?_) fun H' p => ?_
  · refine ⟨hD, [], upd_same, rfl, (fun x hx => by cases hx), ExA.of (Ex.new hD), ?_⟩
    have z := hd1.on (Ex.new (o := .lst []) hD)
    rw [show k + 1 + ((0 : Nat) : Int) = k + 1 by omega]
    exact z
  · refine ⟨hw _, ?_⟩
    obtain ⟨p1, rows, p2, p3, p4, p5, p6⟩ := p
    refine yes_if ?_
    refine ⟨_, h1 _, d, _, rfl, p6, ⟨by omega, by omega⟩, fun r2 H3 r20 e3 hd3 => .inl ⟨r2, rfl, _, h2 _, _, _, rfl, rfl, (by show n ≠ 0; omega), _, _, rfl, rfl, ?_⟩⟩
    have f2 := fmod_at (i := r2) (j := n) (by omega)
    have q2 := e3 _ _ (fun z => nD z.symm) p2
    refine ⟨_, q2, sz_lt (by rw [List.length_map]; omega), p1, rows ++ [1 + r2.fmod n], by rw [upd_same, List.map_append]; rfl, by rw [List.length_append, p3]; rfl, fun x hx => ?_, (p5.trans e3).mut p1, ?_⟩
    · rcases List.mem_append.mp hx with hx | hx
      · exact p4 x hx
      · rw [List.mem_singleton.mp hx]
        omega
    · obtain ⟨x, b, hx⟩ := hd3
      refine ⟨x, b, ?_⟩
      rw [upd_ne nD, hx]
      exact congrArg (fun z => some (HO.lst [V.int x, V.int z, V.bl b])) (by omega)
  · obtain ⟨p1, rows, p2, p3, p4, p5, p6⟩ := p
    exact go rows Dl _ H' hD0 (e1.trans p5) p6 (by omega) p2 p4 (by omega)
section
variable {P : Program} {w : World} {K : PySem.W.Frag} {mg : Str → Option Value} {base : Heap} {A : Ad}
/-- what a look at a drawn net asks -/
def sp_l_called_right : Sp := fun vs H Q _ => ∃ (d a s : Addr) (ts : List (Int × Int)) (st : List Int) (n : Nat) (k : Int), vs = [.ref d, .int (n : Int), .ref a, .ref s] ∧ Dr H d k ∧ (0 ≤ k ∧ k < 2 ^ 39) ∧ TM H a ts ∧ NetOk (n : Int) ts ∧ H s = some (.lst (st.map V.int)) ∧ MR.Stn n st ∧
  ∀ (k' : Int) (H2 : Hp), ExA d H H2 → Dr H2 d k' → (0 ≤ k' ∧ k' ≤ k + 1000) → Q (.bl true) H2
theorem ok_l_called_right (T : Txt K mg A) : FnG P w K mg base CX0 7 A.f_l_called_right A.d_l_called_right ["_law_draws_here", "_law_figure", "_law_pairs", "_law_now"] sp_l_called_right := by
  have G_l_next : FnOk P w K mg base CX0 1 A.f_l_next A.d_l_next ["_law_draws_here"] sp_l_next := ok_l_next T
  have G_l_near : FnOk P w K mg base CX0 1 A.f_l_near A.d_l_near ["_law_pairs"] (sp_l_near K) := ok_l_near T
  have G_l_moved : FnOk P w K mg base CX0 1 A.f_l_moved A.d_l_moved ["_law_near_here", "_law_row", "_law_rows"] (sp_l_moved K) := ok_l_moved T
  have G_called : FnOk P w K mg base CX0 6 A.f_called A.d_called ["seats", "ties", "standing", "calls"] (sp_called K) := ok_called T
  refine okG T.F_l_called_right sc_l_called_right (fun vs H Q E h => ?_) (fun cdv A' outer s0 H vs Q E hgd hr h => ?_)
  · obtain ⟨d, a, s, ts, st, n, k, rfl, _⟩ := h
    rfl
  · obtain ⟨d, a, s, ts, st, n, k, rfl, hd, hk, hT, N, hS, S, q⟩ := h
    refine ⟨_, (pss_cons (ps_set (i := 4) sc_l_called_right.nd rfl (by first | exact .inl rfl | exact .inr rfl) (pe_callB (call_repr_D hgd hr) (by rfl) T.z_repr (by decide +kernel) (pa_cons (pe_lst (pa_cons (pv 2) (pa_cons (pv 3) pa_nil))) pa_nil)))
      (pss_cons (ps_setLc (i := 5) (own := [("_law_turn", 10)]) rfl sc_l_called_right.nd rfl rfl (sw_true rfl rfl rfl (by decide +kernel)) (pi_range1 (by rfl) T.z_range (pa_cons (pe_op op_modN (pe_callTy call_int1 (by rfl) T.z_int (by decide +kernel) (pa_cons (pe_call G_l_next (hr.mono (by decide)) (by rfl) T.g_l_next T.F_l_next.kp T.b_l_next .nil pass0 (pa_cons (pv 0) pa_nil)) pa_nil)) pe_int) pa_nil)) (blkOk_by (by kernel_rfl)) (fun _ _ _ _ _ => (pg_name (i := 10) sc_l_called_right.nd rfl (by first | exact .inl rfl | exact .inr rfl))) (fun _ _ _ _ _ => pts_nil) (fun _ _ _ _ _ => (pe_op op_add pe_int (pe_op op_modN (pe_callTy call_int1 (by rfl) T.z_int (by decide +kernel) (pa_cons (pe_call G_l_next (hr.mono (by decide)) (by rfl) T.g_l_next T.F_l_next.kp T.b_l_next .nil pass0 (pa_cons (pv 0) pa_nil)) pa_nil)) (pv 1)))))
      (pss_cons (ps_set (i := 6) sc_l_called_right.nd rfl (by first | exact .inl rfl | exact .inr rfl) (pe_callB (call_repr_D hgd hr) (by rfl) T.z_repr (by decide +kernel) (pa_cons (pv 5) pa_nil)))
      (pss_cons (ps_set (i := 7) sc_l_called_right.nd rfl (by first | exact .inl rfl | exact .inr rfl) (pe_call G_l_moved (hr.mono (by decide)) (by rfl) T.g_l_moved T.F_l_moved.kp T.b_l_moved .nil pass0 (pa_cons (pe_call G_l_near (hr.mono (by decide)) (by rfl) T.g_l_near T.F_l_near.kp T.b_l_near .nil pass0 (pa_cons (pv 2) pa_nil)) (pa_cons (pv 3) (pa_cons (pv 5) pa_nil)))))
      (pss_cons (ps_set (i := 8) sc_l_called_right.nd rfl (by first | exact .inl rfl | exact .inr rfl) (pe_lst (pa_cons (pe_call G_called (hr.mono (by decide)) (by rfl) T.g_called T.F_called.kp T.b_called .nil pass0 (pa_cons (pv 1) (pa_cons (pv 2) (pa_cons (pv 3) (pa_cons (pv 5) pa_nil))))) (pa_cons (pe_callK0 G_called (hr.mono (by decide)) (by rfl) T.g_called T.F_called.kp T.kb_called pass0 (pk_cons (pv 5) (pk_cons (pv 3) (pk_cons (pv 2) (pk_cons (pv 1) pk_nil))))) pa_nil))))
      (pss_cons (ps_if (PW.pt (pw_or (pt_cmpR op_ne (pe_callB (call_repr_D hgd hr) (by rfl) T.z_repr (by decide +kernel) (pa_cons (pv 8) pa_nil)) (pe_callB (call_repr_D hgd hr) (by rfl) T.z_repr (by decide +kernel) (pa_cons (pe_lst (pa_cons (pv 7) (pa_cons (pv 7) pa_nil))) pa_nil)) (nomark _)) (pw_or (pt_cmpR op_ne (pe_callB (call_repr_D hgd hr) (by rfl) T.z_repr (by decide +kernel) (pa_cons (pe_lst (pa_cons (pv 2) (pa_cons (pv 3) pa_nil))) pa_nil)) (pv 4) (nomark _)) (pw_or1 (pt_cmpR op_ne (pe_callB (call_repr_D hgd hr) (by rfl) T.z_repr (by decide +kernel) (pa_cons (pv 5) pa_nil)) (pv 6) (nomark _)))))) (pss_one (ps_ret pe_bl)) pss_nil)
      (pss_cons (ps_set (i := 9) sc_l_called_right.nd rfl (by first | exact .inl rfl | exact .inr rfl) (pe_op op_add pe_int (pe_op op_modN (pe_callTy call_int1 (by rfl) T.z_int (by decide +kernel) (pa_cons (pe_call G_l_next (hr.mono (by decide)) (by rfl) T.g_l_next T.F_l_next.kp T.b_l_next .nil pass0 (pa_cons (pv 0) pa_nil)) pa_nil)) (pv 1))))
      (pss_cons (ps_if (PW.pt (pw_or (pt_cmpR (op_neD hr.units) (pe_call G_called (hr.mono (by decide)) (by rfl) T.g_called T.F_called.kp T.b_called .nil pass0 (pa_cons (pv 1) (pa_cons (pv 2) (pa_cons (pv 3) (pa_cons (pe_lst (pa_cons (pv 9) (pa_cons (pv 9) pa_nil))) pa_nil))))) (pv 3) (nomark _)) (pw_or1 (pt_cmpR (op_neD hr.units) (pe_call G_called (hr.mono (by decide)) (by rfl) T.g_called T.F_called.kp T.b_called .nil pass0 (pa_cons (pv 1) (pa_cons (pv 2) (pa_cons (pv 3) (pa_cons (pe_lst pa_nil) pa_nil))))) (pv 3) (nomark _))))) (pss_one (ps_ret pe_bl)) pss_nil)
      (pss_cons (ps_if (pt_cmpR (op_neD hr.units) (pe_call G_called (hr.mono (by decide)) (by rfl) T.g_called T.F_called.kp T.b_called .nil pass0 (pa_cons (pv 1) (pa_cons (pv 2) (pa_cons (pv 7) (pa_cons (pe_revK (K := K) rfl (pv 5)) pa_nil))))) (pv 3) (nomark _)) (pss_one (ps_ret pe_bl)) pss_nil)
      (pss_cons (ps_expr (pe_bmK (K := K) rfl PySem.F.plainAttrs_list PySem.F.slot_list_append PySem.F.type_list_append mt_append (pe_ix (ix_listK (K := K) rfl) (pv 8) pe_int (fun _ _ => rfl)) (pa_cons pe_non pa_nil)))
      (pss_one (ps_ret (pe_cmpR op_eq (pe_callB (call_repr_D hgd hr) (by rfl) T.z_repr (by decide +kernel) (pa_cons (pe_call G_called (hr.mono (by decide)) (by rfl) T.g_called T.F_called.kp T.b_called .nil pass0 (pa_cons (pv 1) (pa_cons (pv 2) (pa_cons (pv 3) (pa_cons (pv 5) pa_nil))))) pa_nil)) (pe_callB (call_repr_D hgd hr) (by rfl) T.z_repr (by decide +kernel) (pa_cons (pv 7) pa_nil)) (nomark _)))))))))))))), ?_⟩
    have n1 := N.lo
    have n2 := N.hi
    have few := N.few
    have P0 := S.plc
    have dnT := ties_dn N
    have dnS := stn_dn S (by omega)
    have dnTS := dn2 dnT (dnS.mono (by decide : 1300 ≤ 30000) (Nat.le_refl _))
    have nsd := ne_draws hS hd
    have sym := MR.tdF_sym ts
    -- kept = repr([pairs, now])
    refine ⟨_, rfl, _, rfl, (by show 2 ≤ sizeLine; decide), fun p1 np1 => ?_⟩
    have g1 : Ex H (upd H p1 (.lst [.ref a, .ref s])) := Ex.new np1
    refine ⟨p1, _, rfl, .lst (.inl (.inl upd_same)) (.cons (ties_dp (K := K) (hT.on g1).at_) (.cons (dp_ints (.inl (.inl (g1 _ _ hS)))) .nil)), dnTS.show_, dnTS.dict_, dnTS.dpt (by decide), dnTS.siz (by decide), ?_⟩
    generalize hsh : (PyData.list [dTs ts, dInts st]).shown = bsh
    have hd1 := hd.on g1
    have hT1 := hT.on g1
    have hS1 := g1 _ _ hS
    have eA1 := ExA.of (a := d) g1
    generalize upd H p1 (.lst [.ref a, .ref s]) = H1 at g1 hd1 hT1 hS1 eA1
    -- rows = [..]
    dsimp only [gName]
    refine q_rows (σ := [some (.ref d), some (.int (n : Int)), some (.ref a), some (.ref s), some (.str bsh), none, none, none, none, none, none]) (n := (n : Int)) hd1 hk (by omega) rfl (fun x => rfl) (fun x => rfl) (fun x => rfl) fun rows r k2 H2 nr e2 hd2 hk2 hr2 hrb hrl => ?_
    have hT2 := hT1.exA hd1 e2
    have hS2 := e2 _ _ nsd hS1
    have eA2 := eA1.trans e2
    have dnR : Dn (dInts rows) 1300 2 := few_dn (fun x hx => by have := hrb x hx; omega) (by omega)
    have nrd : r ≠ d := ne_draws hr2 hd2
    -- before = repr(rows)
    refine ⟨_, rfl, r, _, rfl, dp_ints (.inl (.inl hr2)), dnR.show_, dnR.dict_, dnR.dpt (by decide), dnR.siz (by decide), ?_⟩
    generalize hsr : (dInts rows).shown = rsh
    -- due = moved(near(pairs), now, rows)
    refine ⟨_, rfl, a, ts, rfl, hT2.at_, few, fun nn H3 nnn e3 hN => ?_⟩
    refine ⟨_, rfl, _, rfl, nn, s, r, ts, st, rows, n, rfl, hN, .inl (.inl (e3 _ _ hS2)), S, .inl (.inl (e3 _ _ hr2)), hrb, by omega, by omega, fun u H4 nu e4 hu => ?_⟩
    have ok := MR.pairs_ok (n := n) (by omega) hrb
    have PX := MR.run_plc (td := MR.tdF ts) P0 ok
    have back := MR.run_back (td := MR.tdF ts) sym P0 ok
    obtain ⟨X, hX⟩ : ∃ X, MR.runP (MR.tdF ts) (MR.plOf st) (MR.pairsF n rows) = X := ⟨_, rfl⟩
    rw [hX] at hu PX back
    have dnD := stn_dn PX.stn (by omega)
    have dnDD := dn2 dnD dnD
    have g4 := e3.trans e4
    have hT4 := hT2.on g4
    have hS4 := g4 _ _ hS2
    have hr4 := g4 _ _ hr2
    have hd4 := hd2.on g4
    have eA4 := eA2.trans (ExA.of g4)
    have cl : ∀ (cs : List Int) (st' : List Int) (ca sa : Addr) (H' : Hp) (Qx : VK), TM H' a ts → H' sa = some (.lst (st'.map V.int)) → MR.Stn n st' → H' ca = some (.lst (cs.map V.int)) → (∀ x ∈ cs, 1 ≤ x ∧ x ≤ (n : Int)) → cs.length ≤ 10000 →
        (∀ p H2, H' p = none → Ex H' H2 → H2 p = some (.lst ((MR.stOf (MR.runP (MR.tdF ts) (MR.plOf st') (MR.pairsF n cs))).map V.int)) → Qx (.ref p) H2) → sp_called K [.int (n : Int), .ref a, .ref sa, .ref ca] H' Qx E0 :=
      fun cs st' ca sa H' Qx x1 x2 x3 x4 x5 x6 x7 => ⟨a, sa, ca, ts, st', cs, n, rfl, x1.at_, N, .inl (.inl x2), x3, .inl (.inl x4), x5, x6, x7⟩
    clear e2 hd1 hT1 hS1 eA1 hd2 hT2 hS2 eA2 hr2 e3 e4 hN
    -- told = [called(..), called(..)]
    refine ⟨_, rfl, _, rfl, _, rfl, _, rfl, cl rows st r s _ _ hT4 hS4 S hr4 hrb (by omega) fun t1 H5 nt1 e5 ht1 => ?_⟩
    refine ⟨_, rfl, _, rfl, _, rfl, _, rfl, cl rows st r s _ _ (hT4.on e5) (e5 _ _ hS4) S (e5 _ _ hr4) hrb (by omega) fun t2 H6 nt2 e6 ht2 => ?_⟩
    rw [hX] at ht1 ht2
    refine ⟨(by show 2 ≤ sizeLine; decide), fun tp ntp => ?_⟩
    have e7 : Ex H6 (upd H6 tp (.lst [.ref t1, .ref t2])) := Ex.new ntp
    have htp : (upd H6 tp (.lst [.ref t1, .ref t2])) tp = some (.lst [.ref t1, .ref t2]) := upd_same
    have g7 := (e5.trans e6).trans e7
    have ht17 := e7 _ _ (e6 _ _ ht1)
    have ht27 := e7 _ _ ht2
    have ntp1 : tp ≠ t1 := fun z => by
      have := e6 _ _ ht1
      rw [← z, ntp] at this
      cases this
    generalize upd H6 tp (.lst [.ref t1, .ref t2]) = H7 at e7 htp g7 ht17 ht27
    have hu7 := g7 _ _ hu
    have hT7 := hT4.on g7
    have hS7 := g7 _ _ hS4
    have hr7 := g7 _ _ hr4
    have hd7 := hd4.on g7
    -- if repr(told) != repr([due, due]) or repr([pairs, now]) != kept or repr(rows) != before
    refine ⟨_, rfl, tp, _, rfl, .lst (.inl (.inl htp)) (.cons (dp_ints (.inl (.inl ht17))) (.cons (dp_ints (.inl (.inl ht27))) .nil)), dnDD.show_, dnDD.dict_, dnDD.dpt (by decide), dnDD.siz (by decide), _, rfl, _, rfl, (by show 2 ≤ sizeLine; decide), fun p8 np8 => ?_⟩
    have e8 : Ex H7 (upd H7 p8 (.lst [.ref u, .ref u])) := Ex.new np8
    refine ⟨p8, _, rfl, .lst (.inl (.inl upd_same)) (.cons (dp_ints (.inl (.inl (e8 _ _ hu7)))) (.cons (dp_ints (.inl (.inl (e8 _ _ hu7)))) .nil)), dnDD.show_, dnDD.dict_, dnDD.dpt (by decide), dnDD.siz (by decide), rfl, _, rfl, ?_⟩
    rw [decide_eq_true rfl]
    refine iteF ⟨_, rfl, _, rfl, (by show 2 ≤ sizeLine; decide), fun p9 np9 => ?_⟩
    have e9 := e8.trans (Ex.new (o := .lst [.ref a, .ref s]) np9)
    refine ⟨p9, _, rfl, .lst (.inl (.inl upd_same)) (.cons (ties_dp (K := K) (hT7.on e9).at_) (.cons (dp_ints (.inl (.inl (e9 _ _ hS7)))) .nil)), dnTS.show_, dnTS.dict_, dnTS.dpt (by decide), dnTS.siz (by decide), _, rfl, rfl, _, rfl, ?_⟩
    rw [hsh, decide_eq_true rfl]
    refine iteF ⟨_, rfl, r, _, rfl, dp_ints (.inl (.inl (e9 _ _ hr7))), dnR.show_, dnR.dict_, dnR.dpt (by decide), dnR.siz (by decide), _, rfl, rfl, _, rfl, ?_⟩
    rw [hsr, decide_eq_true rfl]
    refine iteF ?_
    have hu9 := e9 _ _ hu7
    have hT9 := hT7.on e9
    have hS9 := e9 _ _ hS7
    have hr9 := e9 _ _ hr7
    have hd9 := hd7.on e9
    have htp9 := e9 _ _ htp
    have ht19 := e9 _ _ ht17
    have g9 := g7.trans e9
    revert hu9 hT9 hS9 hr9 hd9 htp9 ht19 g9
    generalize upd (upd H7 p8 (.lst [.ref u, .ref u])) p9 (.lst [.ref a, .ref s]) = H9
    intro hu9 hT9 hS9 hr9 hd9 htp9 ht19 g9
    clear e7 htp g7 ht17 ht27 hu7 hT7 hS7 hr7 hd7 e8 e9
    -- one = 1 + int(next) % figure
    refine ⟨_, rfl, d, _, rfl, hd9, ⟨by omega, by omega⟩, fun r2 H10 r20 e10 hd10 => .inl ⟨r2, rfl, _, rfl, _, _, rfl, rfl, (by show (n : Int) ≠ 0; omega), _, _, rfl, rfl, ?_⟩⟩
    have f2 := fmod_at (i := r2) (j := (n : Int)) (by omega)
    obtain ⟨one, hone⟩ : ∃ one, 1 + r2.fmod (n : Int) = one := ⟨_, rfl⟩
    have hT10 := hT9.exA hd9 e10
    have hS10 := e10 _ _ (ne_draws hS9 hd9) hS9
    have hr10 := e10 _ _ (ne_draws hr9 hd9) hr9
    have hu10 := e10 _ _ (ne_draws hu9 hd9) hu9
    have ht110 := e10 _ _ (ne_draws ht19 hd9) ht19
    have htp10 : H10 tp = some (.lst [.ref t1, .ref t2]) := by
      refine e10 _ _ (fun z => ?_) htp9
      obtain ⟨x, b, hx⟩ := hd9
      rw [← z, htp9] at hx
      cases hx
    have eA10 := (eA4.trans (ExA.of g9)).trans e10
    show tSeq _ _ _ [some (.ref d), some (.int (n : Int)), some (.ref a), some (.ref s), some (.str bsh), some (.ref r), some (.str rsh), some (.ref u), some (.ref tp), some (.int (1 + r2.fmod (n : Int))), none] H10
    rw [hone]
    -- if called(.., [one, one]) != now or called(.., []) != now
    refine ⟨_, rfl, _, rfl, _, rfl, _, rfl, _, rfl, (by show 2 ≤ sizeLine; decide), fun c1 nc1 => ?_⟩
    have f11 : Ex H10 (upd H10 c1 (.lst [.int one, .int one])) := Ex.new nc1
    refine cl [one, one] st c1 s _ _ (hT10.on f11) (f11 _ _ hS10) S upd_same (fun x hx => ?_) (by show 2 ≤ 10000; decide) fun z1 H11 nz1 e11 hz1 => ?_
    · simp only [List.mem_cons, List.not_mem_nil, or_false, or_self] at hx
      rw [hx]
      omega
    have t2 : MR.runP (MR.tdF ts) (MR.plOf st) (MR.pairsF n [one, one]) = MR.plOf st := by
      have okc := MR.pairs_ok (n := n) (cs := [one]) (by omega) (fun x hx => by rw [List.mem_singleton.mp hx]; omega)
      exact MR.step_step sym P0.row.len (okc (one, MR.nxt n one) List.mem_cons_self)
    rw [t2, S.back] at hz1
    have g11 := f11.trans e11
    refine ⟨_, rfl, ne_ints (.inl (.inl hz1)) (.inl (.inl (g11 _ _ hS10))) ⟨_, rfl, ?_⟩⟩
    rw [decide_eq_true rfl]
    refine iteF ⟨_, rfl, _, rfl, _, rfl, Nat.zero_le _, fun c2 nc2 => ?_⟩
    have f12 : Ex H11 (upd H11 c2 (.lst [])) := Ex.new nc2
    have g12 := g11.trans f12
    refine cl [] st c2 s _ _ (hT10.on g12) (g12 _ _ hS10) S upd_same (fun x hx => by cases hx) (Nat.zero_le _) fun z2 H12 nz2 e12 hz2 => ?_
    have t3 : MR.runP (MR.tdF ts) (MR.plOf st) (MR.pairsF n []) = MR.plOf st := rfl
    rw [t3, S.back] at hz2
    have g13 := g12.trans e12
    refine ⟨_, rfl, ne_ints (.inl (.inl hz2)) (.inl (.inl (g13 _ _ hS10))) ⟨_, rfl, ?_⟩⟩
    rw [decide_eq_true rfl]
    refine iteF ?_
    -- if called(.., due, rows[::-1]) != now
    refine ⟨_, rfl, _, rfl, _, rfl, _, rfl, r, _, rfl, .inl (.inl (g13 _ _ hr10)), fun c3 nc3 => ?_⟩
    have f14 : Ex H12 (upd H12 c3 (.lst (rows.map V.int).reverse)) := Ex.new nc3
    have g14 := g13.trans f14
    refine cl rows.reverse (MR.stOf X) c3 u _ _ (hT10.on g14) (g14 _ _ hu10) PX.stn (by rw [upd_same, List.map_reverse]) (fun x hx => hrb x (List.mem_reverse.mp hx)) (by rw [List.length_reverse]; omega) fun z3 H14 nz3 e14 hz3 => ?_
    rw [PX.back, MR.pairs_rev, back, S.back] at hz3
    have g15 := g14.trans e14
    refine ⟨_, rfl, ne_ints (.inl (.inl hz3)) (.inl (.inl (g15 _ _ hS10))) ⟨_, rfl, ?_⟩⟩
    rw [decide_eq_true rfl]
    refine iteF ?_
    -- told[0].append(None)
    refine q_app (l := t1) (g15 _ _ ht110) (ev_op (ev_var rfl) ev_c (rv_ixL (.inl (.inl (g15 _ _ htp10))) rfl)) ev_c (by rw [List.length_map, PX.stn.len]; omega) fun H15 e15 => ?_
    have g16 := g15.trans e15
    have eB : ExA d H4 (upd H15 t1 (.lst ((MR.stOf X).map V.int ++ [.non]))) := by
      intro b o hb ho
      have : b ≠ t1 := fun z => by
        rw [z, nt1] at ho
        cases ho
      rw [upd_ne this]
      exact (((ExA.of g9).trans e10).trans (ExA.of g16)) b o hb ho
    have nd1 : d ≠ t1 := fun z => by
      obtain ⟨x, b, hx⟩ := hd4
      rw [z, nt1] at hx
      cases hx
    have hd16 : Dr (upd H15 t1 (.lst ((MR.stOf X).map V.int ++ [.non]))) d (k2 + 1) := by
      obtain ⟨x, b, hx⟩ := hd10.on g16
      exact ⟨x, b, by rw [upd_ne nd1]; exact hx⟩
    generalize upd H15 t1 (.lst ((MR.stOf X).map V.int ++ [.non])) = H16 at eB hd16
    have hT16 := hT4.exA hd4 eB
    have hS16 := eB _ _ (ne_draws hS4 hd4) hS4
    have hr16 := eB _ _ (ne_draws hr4 hd4) hr4
    have hu16 := eB _ _ (ne_draws hu hd4) hu
    -- return repr(called(..)) == repr(due)
    refine ⟨_, rfl, _, rfl, _, rfl, _, rfl, cl rows st r s _ _ hT16 hS16 S hr16 hrb (by omega) fun z4 H17 nz4 e17 hz4 => ?_⟩
    rw [hX] at hz4
    refine ⟨z4, _, rfl, dp_ints (.inl (.inl hz4)), dnD.show_, dnD.dict_, dnD.dpt (by decide), dnD.siz (by decide), _, rfl, u, _, rfl, dp_ints (.inl (.inl (e17 _ _ hu16))), dnD.show_, dnD.dict_, dnD.dpt (by decide), dnD.siz (by decide), rfl, ?_⟩
    rw [decide_eq_true rfl]
    exact q _ H17 ((eA4.trans eB).trans (ExA.of e17)) (hd16.on e17) (by omega)
end
end K20

namespace K20
open PySem PySem.Spec PyProof.Rows L2 Vf Evl
theorem pairs_rep (n : Int) (k : Nat) (cs : List Int) : MR.pairsF n (List.replicate k cs).flatten = (List.replicate k (MR.pairsF n cs)).flatten := by
  unfold MR.pairsF
  rw [List.map_flatten, List.map_replicate]
/-- the calls of so many rounds, as the law writes them -/
def callsZ (ord : List Int) (m : Int) : List Int := if 0 < m then (List.replicate m.toNat ord).flatten else (List.replicate (0 - m).toNat ord.reverse).flatten
theorem callsZ_run (td : Int → Int → Bool) (n : Int) (ord : List Int) (m : Int) (pl : List Int) : MR.runP td pl (MR.pairsF n (callsZ ord m)) = roundsZ td n ord m pl := by
  unfold callsZ roundsZ
  by_cases c : 0 < m
  · rw [if_pos c, if_pos (by omega), pairs_rep, MR.run_rep]
  · rw [if_neg c, pairs_rep, MR.run_rep]
    by_cases d : 0 ≤ m
    · have : m = 0 := by omega
      subst this
      rfl
    · rw [if_neg d, show 0 - m = -m by omega]
theorem callsZ_len {ord : List Int} {m : Int} {n : Nat} (hl : ord.length = n) (hn : n ≤ 40) (hm : -30 ≤ m ∧ m ≤ 30) : (callsZ ord m).length ≤ 1200 := by
  have key : ∀ (k : Nat) (l : List Int), k ≤ 30 → l.length ≤ 40 → (List.replicate k l).flatten.length ≤ 1200 := by
    intro k l hk hl
    rw [List.length_flatten, List.map_replicate, List.sum_replicate_nat]
    exact Nat.le_trans (Nat.mul_le_mul hk hl) (by decide)
  unfold callsZ
  split
  · exact key _ _ (by omega) (by omega)
  · exact key _ _ (by omega) (by rw [List.length_reverse]; omega)
theorem callsZ_ok {ord : List Int} {m n : Int} (h : ∀ x ∈ ord, 1 ≤ x ∧ x ≤ n) : ∀ x ∈ callsZ ord m, 1 ≤ x ∧ x ≤ n := by
  intro x hx
  unfold callsZ at hx
  split at hx
  · obtain ⟨l, h1, h2⟩ := List.mem_flatten.mp hx
    rw [(List.mem_replicate.mp h1).2] at h2
    exact h x h2
  · obtain ⟨l, h1, h2⟩ := List.mem_flatten.mp hx
    rw [(List.mem_replicate.mp h1).2] at h2
    exact h x (List.mem_reverse.mp h2)
theorem roundsZ_plc {ts : List (Int × Int)} {n : Nat} {ord pl : List Int} (hn : 2 ≤ n) (h : ∀ x ∈ ord, 1 ≤ x ∧ x ≤ (n : Int)) (P : MR.Plc n pl) (m : Int) : MR.Plc n (roundsZ (MR.tdF ts) n ord m pl) := by
  unfold roundsZ
  split
  · exact MR.it_plc (MR.pairs_ok hn h) _ P
  · exact MR.it_plc (MR.pairs_ok hn fun x hx => h x (List.mem_reverse.mp hx)) _ P
theorem roundsZ_undo {ts : List (Int × Int)} {n : Nat} {ord pl : List Int} (hn : 2 ≤ n) (h : ∀ x ∈ ord, 1 ≤ x ∧ x ≤ (n : Int)) (P : MR.Plc n pl) (m : Int) : roundsZ (MR.tdF ts) n ord (0 - m) (roundsZ (MR.tdF ts) n ord m pl) = pl := by
  have sym := MR.tdF_sym ts
  have h' : ∀ x ∈ ord.reverse, 1 ≤ x ∧ x ≤ (n : Int) := fun x hx => h x (List.mem_reverse.mp hx)
  by_cases c : 0 < m
  · have e1 : roundsZ (MR.tdF ts) n ord m pl = MR.it (MR.roundP (MR.tdF ts) (MR.pairsF n ord)) m.toNat pl := by unfold roundsZ; rw [if_pos (by omega)]
    rw [e1]
    unfold roundsZ
    rw [if_neg (by omega), show (-(0 - m)).toNat = m.toNat by omega, MR.pairs_rev]
    exact MR.it_undo sym (MR.pairs_ok hn h) _ P
  · by_cases d : m = 0
    · subst d
      rfl
    · have e1 : roundsZ (MR.tdF ts) n ord m pl = MR.it (MR.roundP (MR.tdF ts) (MR.pairsF n ord.reverse)) (-m).toNat pl := by unfold roundsZ; rw [if_neg (by omega)]
      rw [e1]
      unfold roundsZ
      rw [if_pos (by omega), show (0 - m).toNat = (-m).toNat by omega]
      have z := MR.it_undo sym (cs := MR.pairsF n ord.reverse) (MR.pairs_ok hn h') (-m).toNat P
      rwa [← MR.pairs_rev, List.reverse_reverse] at z
section
variable {P : Program} {w : World} {K : PySem.W.Frag} {mg : Str → Option Value} {base : Heap} {A : Ad}
def sp_l_rounds_right : Sp := fun vs H Q _ => ∃ (d a s o : Addr) (ts : List (Int × Int)) (st ord : List Int) (n : Nat) (k : Int), vs = [.ref d, .int (n : Int), .ref a, .ref s, .ref o] ∧ Dr H d k ∧ (0 ≤ k ∧ k < 2 ^ 39) ∧ TM H a ts ∧ NetOk (n : Int) ts ∧ H s = some (.lst (st.map V.int)) ∧ MR.Stn n st ∧
  H o = some (.lst (ord.map V.int)) ∧ MR.Stn n ord ∧ ∀ (k' : Int) (H2 : Hp), ExA d H H2 → Dr H2 d k' → (0 ≤ k' ∧ k' ≤ k + 1000) → Q (.bl true) H2
theorem ok_l_rounds_right (T : Txt K mg A) : FnG P w K mg base CX0 7 A.f_l_rounds_right A.d_l_rounds_right ["_law_draws_here", "_law_figure", "_law_pairs", "_law_now", "_law_row"] sp_l_rounds_right := by
  have G_l_next : FnOk P w K mg base CX0 1 A.f_l_next A.d_l_next ["_law_draws_here"] sp_l_next := ok_l_next T
  have G_l_near : FnOk P w K mg base CX0 1 A.f_l_near A.d_l_near ["_law_pairs"] (sp_l_near K) := ok_l_near T
  have G_l_moved : FnOk P w K mg base CX0 1 A.f_l_moved A.d_l_moved ["_law_near_here", "_law_row", "_law_rows"] (sp_l_moved K) := ok_l_moved T
  have G_after_rounds : FnOk P w K mg base CX0 6 A.f_after_rounds A.d_after_rounds ["seats", "ties", "standing", "order", "many"] (sp_after_rounds K) := ok_after_rounds T
  obtain ⟨ds_ar, rd_after_rounds, hb_after_rounds⟩ := T.bd_after_rounds
  refine okG T.F_l_rounds_right sc_l_rounds_right (fun vs H Q E h => ?_) (fun cdv A' outer s0 H vs Q E hgd hr h => ?_)
  · obtain ⟨d, a, s, o, ts, st, ord, n, k, rfl, _⟩ := h
    rfl
  · obtain ⟨d, a, s, o, ts, st, ord, n, k, rfl, hd, hk, hT, N, hS, S, hO, O, q⟩ := h
    refine ⟨_, (pss_cons (ps_set (i := 5) sc_l_rounds_right.nd rfl (by first | exact .inl rfl | exact .inr rfl) (pe_callB (call_repr_D hgd hr) (by rfl) T.z_repr (by decide +kernel) (pa_cons (pe_lst (pa_cons (pv 2) (pa_cons (pv 3) (pa_cons (pv 4) pa_nil)))) pa_nil)))
      (pss_cons (ps_set (i := 6) sc_l_rounds_right.nd rfl (by first | exact .inl rfl | exact .inr rfl) (pe_call G_l_near (hr.mono (by decide)) (by rfl) T.g_l_near T.F_l_near.kp T.b_l_near .nil pass0 (pa_cons (pv 2) pa_nil)))
      (pss_cons (ps_for PassesOwn.never rfl (pi_listK (K := K) rfl (pe_lst (pa_cons pe_int (pa_cons pe_int (pa_cons (pe_un un_neg pe_int) (pa_cons pe_int (pa_cons (pe_op op_modN (pe_callTy call_int1 (by rfl) T.z_int (by decide +kernel) (pa_cons (pe_call G_l_next (hr.mono (by decide)) (by rfl) T.g_l_next T.F_l_next.kp T.b_l_next .nil pass0 (pa_cons (pv 0) pa_nil)) pa_nil)) pe_int) (pa_cons (pe_op op_sub pe_int (pe_op op_modN (pe_callTy call_int1 (by rfl) T.z_int (by decide +kernel) (pa_cons (pe_call G_l_next (hr.mono (by decide)) (by rfl) T.g_l_next T.F_l_next.kp T.b_l_next .nil pass0 (pa_cons (pv 0) pa_nil)) pa_nil)) pe_int)) pa_nil)))))))) (pg_name (i := 7) sc_l_rounds_right.nd rfl (by first | exact .inl rfl | exact .inr rfl)) (pss_cons (ps_set (i := 8) sc_l_rounds_right.nd rfl (by first | exact .inl rfl | exact .inr rfl) (pe_call G_l_moved (hr.mono (by decide)) (by rfl) T.g_l_moved T.F_l_moved.kp T.b_l_moved .nil pass0 (pa_cons (pv 6) (pa_cons (pv 3) (pa_cons (pe_ifExp (pt_cmpR op_gt (pv 7) pe_int (nomark _)) (pe_op op_rep (pv 4) (pv 7)) (pe_op op_rep (pe_revK (K := K) rfl (pv 4)) (pe_op op_sub pe_int (pv 7)))) pa_nil)))))
      (pss_cons (ps_set (i := 9) sc_l_rounds_right.nd rfl (by first | exact .inl rfl | exact .inr rfl) (pe_lst (pa_cons (pe_call G_after_rounds (hr.mono (by decide)) (by rfl) T.g_after_rounds T.F_after_rounds.kp T.b_after_rounds .nil pass0 (pa_cons (pv 1) (pa_cons (pv 2) (pa_cons (pv 3) (pa_cons (pv 4) (pa_cons (pv 7) pa_nil)))))) pa_nil)))
      (pss_cons (ps_expr (pe_bmK (K := K) rfl PySem.F.plainAttrs_list PySem.F.slot_list_append PySem.F.type_list_append mt_append (pv 9) (pa_cons (pe_callK0 G_after_rounds (hr.mono (by decide)) (by rfl) T.g_after_rounds T.F_after_rounds.kp T.kb_after_rounds pass0 (pk_cons (pv 7) (pk_cons (pv 4) (pk_cons (pv 3) (pk_cons (pv 2) (pk_cons (pv 1) pk_nil)))))) pa_nil)))
      (pss_cons (ps_if (pt_cmpR op_ne (pe_callB (call_repr_D hgd hr) (by rfl) T.z_repr (by decide +kernel) (pa_cons (pv 9) pa_nil)) (pe_callB (call_repr_D hgd hr) (by rfl) T.z_repr (by decide +kernel) (pa_cons (pe_lst (pa_cons (pv 8) (pa_cons (pv 8) pa_nil))) pa_nil)) (nomark _)) (pss_one (ps_ret pe_bl)) pss_nil)
      (pss_cons (ps_if (PW.pt (pw_and (pt_cmpR op_eq (pv 7) pe_int (nomark _)) (pw_and1 (pt_cmpR op_ne (pe_callB (call_repr_D hgd hr) (by rfl) T.z_repr (by decide +kernel) (pa_cons (pe_call G_after_rounds (hr.mono (by decide)) (by rfl) T.g_after_rounds T.F_after_rounds.kp hb_after_rounds rd_after_rounds pass0 (pa_cons (pv 1) (pa_cons (pv 2) (pa_cons (pv 3) (pa_cons (pv 4) pa_nil))))) pa_nil)) (pe_callB (call_repr_D hgd hr) (by rfl) T.z_repr (by decide +kernel) (pa_cons (pv 8) pa_nil)) (nomark _))))) (pss_one (ps_ret pe_bl)) pss_nil)
      (pss_cons (ps_if (pt_cmpR (op_neD hr.units) (pe_call G_after_rounds (hr.mono (by decide)) (by rfl) T.g_after_rounds T.F_after_rounds.kp T.b_after_rounds .nil pass0 (pa_cons (pv 1) (pa_cons (pv 2) (pa_cons (pv 8) (pa_cons (pv 4) (pa_cons (pe_op op_sub pe_int (pv 7)) pa_nil)))))) (pv 3) (nomark _)) (pss_one (ps_ret pe_bl)) pss_nil)
      (pss_cons (ps_expr (pe_bmK (K := K) rfl PySem.F.plainAttrs_list PySem.F.slot_list_append PySem.F.type_list_append mt_append (pe_ix (ix_listK (K := K) rfl) (pv 9) pe_int (fun _ _ => rfl)) (pa_cons pe_non pa_nil)))
      (pss_one (ps_if (pt_cmpR op_ne (pe_callB (call_repr_D hgd hr) (by rfl) T.z_repr (by decide +kernel) (pa_cons (pe_call G_after_rounds (hr.mono (by decide)) (by rfl) T.g_after_rounds T.F_after_rounds.kp T.b_after_rounds .nil pass0 (pa_cons (pv 1) (pa_cons (pv 2) (pa_cons (pv 3) (pa_cons (pv 4) (pa_cons (pv 7) pa_nil)))))) pa_nil)) (pe_callB (call_repr_D hgd hr) (by rfl) T.z_repr (by decide +kernel) (pa_cons (pv 8) pa_nil)) (nomark _)) (pss_one (ps_ret pe_bl)) pss_nil))))))))))
      (pss_one (ps_ret (pe_cmpR op_eq (pe_callB (call_repr_D hgd hr) (by rfl) T.z_repr (by decide +kernel) (pa_cons (pe_lst (pa_cons (pv 2) (pa_cons (pv 3) (pa_cons (pv 4) pa_nil)))) pa_nil)) (pv 5) (nomark _))))))), ?_⟩
    have n1 := N.lo
    have n2 := N.hi
    have few := N.few
    have P0 := S.plc
    have dnT := ties_dn N
    have dnS := stn_dn S (by omega)
    have dnO := stn_dn O (by omega)
    have dnK := dn3 dnT (dnS.mono (by decide : 1300 ≤ 30000) (Nat.le_refl _)) (dnO.mono (by decide : 1300 ≤ 30000) (Nat.le_refl _))
    have sym := MR.tdF_sym ts
    have ol := O.len
    -- kept = repr([pairs, now, row])
    refine ⟨_, rfl, _, rfl, _, rfl, (by show 3 ≤ sizeLine; decide), fun p1 np1 => ?_⟩
    have g1 : Ex H (upd H p1 (.lst [.ref a, .ref s, .ref o])) := Ex.new np1
    refine ⟨p1, _, rfl, .lst (.inl (.inl upd_same)) (.cons (ties_dp (K := K) (hT.on g1).at_) (.cons (dp_ints (.inl (.inl (g1 _ _ hS)))) (.cons (dp_ints (.inl (.inl (g1 _ _ hO)))) .nil))), dnK.show_, dnK.dict_, dnK.dpt (by decide), dnK.siz (by decide), ?_⟩
    generalize hsh : (PyData.list [dTs ts, dInts st, dInts ord]).shown = bsh
    -- near = near(pairs)
    refine ⟨_, rfl, a, ts, rfl, (hT.on g1).at_, few, fun nn H2 nnn e2 hN => ?_⟩
    have g2 := g1.trans e2
    have hd2 := hd.on g2
    -- [0, 1, -1, 2, int(next) % 30, 0 - int(next) % 30]
    refine ⟨1, rfl, ?_⟩
    refine ⟨_, rfl, d, k, rfl, hd2, ⟨hk.1, by omega⟩, fun r1 H3 r10 e3 hd3 => .inl ⟨r1, rfl, _, _, rfl, rfl, (by show (30 : Int) ≠ 0; decide), ?_⟩⟩
    refine ⟨_, rfl, d, _, rfl, hd3, ⟨by omega, by omega⟩, fun r2 H4 r20 e4 hd4 => .inl ⟨r2, rfl, _, _, rfl, rfl, (by show (30 : Int) ≠ 0; decide), _, _, rfl, rfl, ?_⟩⟩
    have f1 := fmod_at (i := r1) (j := 30) (by decide)
    have f2 := fmod_at (i := r2) (j := 30) (by decide)
    have eA4 : ExA d H H4 := ((ExA.of g2).trans e3).trans e4
    refine ⟨(by show 6 ≤ sizeLine; decide), fun p5 np5 => ?_⟩
    have e5 : Ex H4 (upd H4 p5 (.lst [V.int 0, V.int 1, V.int (-1), V.int 2, V.int (r1.fmod 30), V.int (0 - r2.fmod 30)])) := Ex.new np5
    have hN4 := (hN.exA hd2 e3).exA hd3 e4
    have hT5 := (hT.exA hd eA4).on e5
    have hS5 := e5 _ _ (eA4 _ _ (ne_draws hS hd) hS)
    have hO5 := e5 _ _ (eA4 _ _ (ne_draws hO hd) hO)
    have hN5 := hN4.on e5
    have hd5 := hd4.on e5
    have eA5 := eA4.trans (ExA.of e5)
    have hp5 : (upd H4 p5 (.lst [V.int 0, V.int 1, V.int (-1), V.int 2, V.int (r1.fmod 30), V.int (0 - r2.fmod 30)])) p5 = some (.lst [V.int 0, V.int 1, V.int (-1), V.int 2, V.int (r1.fmod 30), V.int (0 - r2.fmod 30)]) := upd_same
    refine ⟨p5, rfl, ⟨_, .inl (.inl upd_same)⟩, ?_⟩
    refine for_list (xs := [V.int 0, V.int 1, V.int (-1), V.int 2, V.int (r1.fmod 30), V.int (0 - r2.fmod 30)]) (fun i σ' H' => (∃ y7 y8 y9, σ' = [some (.ref d), some (.int (n : Int)), some (.ref a), some (.ref s), some (.ref o), some (.str bsh), some (.ref nn), y7, y8, y9]) ∧ Ex (upd H4 p5 (.lst [V.int 0, V.int 1, V.int (-1), V.int 2, V.int (r1.fmod 30), V.int (0 - r2.fmod 30)])) H')
      ⟨⟨none, none, none, rfl⟩, Ex.refl _⟩ (fun i σ' H' _ z => .inl (.inl (z.2 _ _ hp5))) ?_ ?_
    · rintro i x σ' H' hx ⟨⟨y7, y8, y9, rfl⟩, e6⟩
      obtain ⟨m, rfl, hm⟩ : ∃ m : Int, x = .int m ∧ -30 ≤ m ∧ m ≤ 30 := by
        match i, hx with
        | 0, hx => exact ⟨_, (Option.some.inj hx).symm, by decide, by decide⟩
        | 1, hx => exact ⟨_, (Option.some.inj hx).symm, by decide, by decide⟩
        | 2, hx => exact ⟨_, (Option.some.inj hx).symm, by decide, by decide⟩
        | 3, hx => exact ⟨_, (Option.some.inj hx).symm, by decide, by decide⟩
        | 4, hx => exact ⟨_, (Option.some.inj hx).symm, by omega, by omega⟩
        | 5, hx => exact ⟨_, (Option.some.inj hx).symm, by omega, by omega⟩
        | _ + 6, hx => cases hx
      have hT6 := hT5.on e6
      have hS6 := e6 _ _ hS5
      have hO6 := e6 _ _ hO5
      have hN6 := hN5.on e6
      clear hx
      -- due = moved(..)
      have mapf : ∀ (k : Nat) (l : List Int), (List.replicate k (l.map V.int)).flatten = ((List.replicate k l).flatten).map V.int := fun k l => by rw [List.map_flatten, List.map_replicate]
      have pick : ∀ Qx : VK, (∀ c H5, Ex H' H5 → H5 c = some (.lst ((callsZ ord m).map V.int)) → Qx (.ref c) H5) →
          tIf (tTest (tOp (rI0 fun i j => V.bl (decide (j < i))) (tVar 7) (tC (.int 0)))) (tOp rRep (tVar 4) (tVar 7)) (tOp rRep (tRevL K (tVar 4)) (tOp (rI0 fun i j => .int (i - j)) (tC (.int 0)) (tVar 7)))
            [some (.ref d), some (.int (n : Int)), some (.ref a), some (.ref s), some (.ref o), some (.str bsh), some (.ref nn), some (.int m), y8, y9] H' Qx := by
        intro Qx k
        have cl := callsZ_len (m := m) ol (by omega) hm
        refine ⟨_, rfl, _, _, rfl, rfl, _, rfl, ?_⟩
        by_cases c : 0 < m
        · rw [decide_eq_true c]
          have ec : callsZ ord m = (List.replicate m.toNat ord).flatten := by unfold callsZ; rw [if_pos c]
          refine iteT ⟨_, rfl, _, rfl, o, m, _, rfl, rfl, hO6, by omega, by omega, sz_of ?_, fun p np => k p _ (Ex.new np) ?_⟩
          · rw [List.length_map, ol]
            exact Nat.le_trans (Nat.mul_le_mul (show n ≤ 40 by omega) (show m.toNat ≤ 30 by omega)) (by decide)
          · rw [upd_same, mapf, ec]
        · rw [decide_eq_false c]
          have ec : callsZ ord m = (List.replicate (0 - m).toNat ord.reverse).flatten := by unfold callsZ; rw [if_neg c]
          refine iteF ⟨_, rfl, o, _, rfl, .inl (.inl hO6), fun rv nrv => ⟨_, rfl, _, _, rfl, rfl, rv, 0 - m, _, rfl, rfl, upd_same, by omega, by omega, sz_of ?_, fun p np => k p _ ((Ex.new nrv).trans (Ex.new np)) ?_⟩⟩
          · rw [List.length_reverse, List.length_map, ol]
            exact Nat.le_trans (Nat.mul_le_mul (show n ≤ 40 by omega) (show (0 - m).toNat ≤ 30 by omega)) (by decide)
          · rw [upd_same, ← List.map_reverse, mapf, ec]
      refine ⟨_, rfl, _, rfl, pick _ fun c H7 e7 hc => ?_⟩
      have ok := callsZ_ok (m := m) O.lo
      refine ⟨nn, s, c, ts, st, callsZ ord m, n, rfl, hN6.on e7, .inl (.inl (e7 _ _ hS6)), S, .inl (.inl hc), ok, by omega, by omega, fun u H8 nu e8 hu => ?_⟩
      rw [callsZ_run] at hu
      have PX := roundsZ_plc (ts := ts) (n := n) (by omega) O.lo P0 m
      have undo := roundsZ_undo (ts := ts) (n := n) (by omega) O.lo P0 m
      have hX : roundsZ (MR.tdF ts) n ord m (MR.plOf st) = roundsZ (MR.tdF ts) n ord m (MR.plOf st) := rfl
      generalize hXX : roundsZ (MR.tdF ts) n ord m (MR.plOf st) = X at hu PX undo
      have dnD := stn_dn PX.stn (by omega)
      have dnDD := dn2 dnD dnD
      have g8 := e7.trans e8
      have hT8 := hT6.on g8
      have hS8 := g8 _ _ hS6
      have hO8 := g8 _ _ hO6
      have cl : ∀ (m' : Int) (st' : List Int) (sa : Addr) (H' : Hp) (Qx : VK), Ex H8 H' → H' sa = some (.lst (st'.map V.int)) → MR.Stn n st' →
          (∀ p H2, H' p = none → Ex H' H2 → H2 p = some (.lst ((MR.stOf (roundsZ (MR.tdF ts) n ord m' (MR.plOf st'))).map V.int)) → Qx (.ref p) H2) → sp_after_rounds K [.int (n : Int), .ref a, .ref sa, .ref o, .int m'] H' Qx E0 :=
        fun m' st' sa H' Qx x1 x2 x3 x7 => ⟨a, sa, o, ts, st', ord, n, m', rfl, (hT8.on x1).at_, N, .inl (.inl x2), x3, .inl (.inl (x1 _ _ hO8)), O, x7⟩
      -- told = [after_rounds(..)], told.append(after_rounds(many=.., ..))
      refine ⟨_, rfl, _, rfl, _, rfl, _, rfl, _, rfl, cl m st s _ _ (Ex.refl _) hS8 S fun t1 H9 nt1 e9 ht1 => ⟨(by show 1 ≤ sizeLine; decide), fun tp ntp => ?_⟩⟩
      rw [hXX] at ht1
      have e10 : Ex H9 (upd H9 tp (.lst [.ref t1])) := Ex.new ntp
      have htp : (upd H9 tp (.lst [.ref t1])) tp = some (.lst [.ref t1]) := upd_same
      have g10 := e9.trans e10
      have ht110 := e10 _ _ ht1
      have ntp8 : H8 tp = none := fresh_back e9 ntp
      have nt1tp : t1 ≠ tp := ne_of_none ht1 ntp
      generalize upd H9 tp (.lst [.ref t1]) = H10 at e10 htp g10 ht110
      refine ⟨_, rfl, .inl ⟨rfl, _, .inl (.inl htp)⟩, _, rfl, _, rfl, _, rfl, _, rfl, _, rfl, cl m st s _ _ g10 (g10 _ _ hS8) S fun t2 H11 nt2 e11 ht2 => ?_⟩
      rw [hXX] at ht2
      refine ⟨tp, _, _, rfl, rfl, e11 _ _ htp, sz_lt (by show 1 < 100000; decide), ?_⟩
      have g12 := Ex.mut (o := .lst ([.ref t1] ++ [.ref t2])) (g10.trans e11) ntp8
      have htp12 : (upd H11 tp (.lst ([.ref t1] ++ [.ref t2]))) tp = some (.lst [.ref t1, .ref t2]) := upd_same
      have ntp11 : t2 ≠ tp := fun z => by
        have w := htp
        rw [← z, nt2] at w
        cases w
      have ht112 : (upd H11 tp (.lst ([.ref t1] ++ [.ref t2]))) t1 = some (.lst ((MR.stOf X).map V.int)) := by rw [upd_ne nt1tp]; exact e11 _ _ ht110
      have ht212 : (upd H11 tp (.lst ([.ref t1] ++ [.ref t2]))) t2 = some (.lst ((MR.stOf X).map V.int)) := by rw [upd_ne ntp11]; exact ht2
      generalize upd H11 tp (.lst ([.ref t1] ++ [.ref t2])) = H12 at g12 htp12 ht112 ht212
      have hu12 := g12 _ _ hu
      -- if repr(told) != repr([due, due])
      refine ⟨_, rfl, tp, _, rfl, .lst (.inl (.inl htp12)) (.cons (dp_ints (.inl (.inl ht112))) (.cons (dp_ints (.inl (.inl ht212))) .nil)), dnDD.show_, dnDD.dict_, dnDD.dpt (by decide), dnDD.siz (by decide), _, rfl, _, rfl, (by show 2 ≤ sizeLine; decide), fun p8 np8 => ?_⟩
      have e13 : Ex H12 (upd H12 p8 (.lst [.ref u, .ref u])) := Ex.new np8
      refine ⟨p8, _, rfl, .lst (.inl (.inl upd_same)) (.cons (dp_ints (.inl (.inl (e13 _ _ hu12)))) (.cons (dp_ints (.inl (.inl (e13 _ _ hu12)))) .nil)), dnDD.show_, dnDD.dict_, dnDD.dpt (by decide), dnDD.siz (by decide), rfl, _, rfl, ?_⟩
      rw [decide_eq_true rfl]
      refine iteF ?_
      have g13 := g12.trans e13
      have htp13 := e13 _ _ htp12
      have ht113 := e13 _ _ ht112
      have hu13 := e13 _ _ hu12
      generalize upd H12 p8 (.lst [.ref u, .ref u]) = H13 at e13 g13 htp13 ht113 hu13
      -- if many == 1 and repr(after_rounds(..)) != repr(due)
      dsimp only [tNext]
      show tSeq (tIfS (tAnd _ _) _ _) _ _ [some (.ref d), some (.int (n : Int)), some (.ref a), some (.ref s), some (.ref o), some (.str bsh), some (.ref nn), some (.int m), some (.ref u), some (.ref tp)] H13
      refine q_when (b := false) ?_ (fun z => nomatch z) fun _ H14 e14 => ?_
      · intro H14 e14 Q2 q2
        refine ⟨_, rfl, rfl, _, rfl, ?_⟩
        rw [dec_vi]
        by_cases c : m = 1
        · rw [decide_eq_true c]
          have g14 := g13.trans e14
          refine iteT ⟨_, rfl, _, rfl, _, rfl, _, rfl, cl 1 st s _ _ g14 (g14 _ _ hS8) S fun t3 H15 nt3 e15 ht3 => ?_⟩
          rw [← c, hXX] at ht3
          refine ⟨t3, _, rfl, dp_ints (.inl (.inl ht3)), dnD.show_, dnD.dict_, dnD.dpt (by decide), dnD.siz (by decide), _, rfl, u, _, rfl, dp_ints (.inl (.inl (e15 _ _ (e14 _ _ hu13)))), dnD.show_, dnD.dict_, dnD.dpt (by decide), dnD.siz (by decide), rfl, _, rfl, ?_⟩
          rw [decide_eq_true rfl]
          exact q2 H15 e15
        · rw [decide_eq_false c]
          exact iteF (q2 H14 (Ex.refl H14))
      -- if after_rounds(.., due, .., 0 - many) != now
      have g14 := g13.trans e14
      refine ⟨_, rfl, _, rfl, _, rfl, _, rfl, _, rfl, _, _, rfl, rfl, cl (0 - m) (MR.stOf X) u _ _ g14 (e14 _ _ hu13) PX.stn fun t4 H15 nt4 e15 ht4 => ?_⟩
      rw [PX.back, undo, S.back] at ht4
      have g15 := g14.trans e15
      refine ⟨_, rfl, ne_ints (.inl (.inl ht4)) (.inl (.inl (g15 _ _ hS8))) ⟨_, rfl, ?_⟩⟩
      rw [decide_eq_true rfl]
      refine iteF ?_
      -- told[0].append(None)
      have g135 := e14.trans e15
      dsimp only [tNext]
      show tSeq (tDrop _) _ _ [some (.ref d), some (.int (n : Int)), some (.ref a), some (.ref s), some (.ref o), some (.str bsh), some (.ref nn), some (.int m), some (.ref u), some (.ref tp)] H15
      refine q_app (l := t1) (g135 _ _ ht113) (ev_op (ev_var rfl) ev_c (rv_ixL (.inl (.inl (g135 _ _ htp13))) rfl)) ev_c (by rw [List.length_map, PX.stn.len]; omega) fun H16 e16 => ?_
      have g17 := Ex.mut (o := .lst ((MR.stOf X).map V.int ++ [.non])) (g15.trans e16) nt1
      generalize upd H16 t1 (.lst ((MR.stOf X).map V.int ++ [.non])) = H17 at g17
      -- if repr(after_rounds(..)) != repr(due)
      refine ⟨_, rfl, _, rfl, _, rfl, _, rfl, _, rfl, cl m st s _ _ g17 (g17 _ _ hS8) S fun t5 H18 nt5 e18 ht5 => ?_⟩
      rw [hXX] at ht5
      refine ⟨t5, _, rfl, dp_ints (.inl (.inl ht5)), dnD.show_, dnD.dict_, dnD.dpt (by decide), dnD.siz (by decide), _, rfl, u, _, rfl, dp_ints (.inl (.inl (e18 _ _ (g17 _ _ hu)))), dnD.show_, dnD.dict_, dnD.dpt (by decide), dnD.siz (by decide), rfl, _, rfl, ?_⟩
      rw [decide_eq_true rfl]
      exact iteF ⟨⟨_, _, _, rfl⟩, ((e6.trans g8).trans g17).trans e18⟩
    · rintro σ' H' ⟨⟨y7, y8, y9, rfl⟩, e6⟩
      have hT6 := hT5.on e6
      have hS6 := e6 _ _ hS5
      have hO6 := e6 _ _ hO5
      refine ⟨_, rfl, _, rfl, _, rfl, (by show 3 ≤ sizeLine; decide), fun p9 np9 => ?_⟩
      have g9 : Ex H' (upd H' p9 (.lst [.ref a, .ref s, .ref o])) := Ex.new np9
      refine ⟨p9, _, rfl, .lst (.inl (.inl upd_same)) (.cons (ties_dp (K := K) (hT6.on g9).at_) (.cons (dp_ints (.inl (.inl (g9 _ _ hS6)))) (.cons (dp_ints (.inl (.inl (g9 _ _ hO6)))) .nil))), dnK.show_, dnK.dict_, dnK.dpt (by decide), dnK.siz (by decide), _, rfl, rfl, ?_⟩
      rw [hsh, decide_eq_true rfl]
      exact q _ _ ((eA5.trans (ExA.of e6)).trans (ExA.of g9)) ((hd5.on e6).on g9) (by omega)
end
end K20

namespace K20
open PySem PySem.Spec PyProof.Rows L2 Vf Evl
theorem nextV_lt (x k : Int) (b : Bool) : nextV x k b < 2 ^ 40 := by
  unfold nextV
  split
  · have := fmod_at (i := x) (j := 1000000) (by decide)
    omega
  · rename_i hb
    simp only []
    generalize hy : ((x.fmod 1000003 + k * k * 7919 + k) * 48271).fmod 2147483629 = y
    generalize hz : (y * y).fmod 2147483587 = z
    have := fmod_at (i := z * (z + 2)) (j := 2147483579) (by decide)
    have h2 : ((z * (z + 2)).fmod 2147483579).fdiv 7 ≤ (z * (z + 2)).fmod 2147483579 := by
      rw [Int.fdiv_eq_ediv_of_nonneg _ (by decide)]
      exact Int.ediv_le_self _ this.1
    omega
theorem roundsZ_mod {ts : List (Int × Int)} {n : Nat} {ord pl : List Int} {L : Nat} (hn : 2 ≤ n) (h : ∀ x ∈ ord, 1 ≤ x ∧ x ≤ (n : Int)) (P : MR.Plc n pl) (p : MR.Per (MR.tdF ts) (MR.pairsF n ord) pl L) (m : Int) :
    roundsZ (MR.tdF ts) n ord m pl = MR.it (MR.roundP (MR.tdF ts) (MR.pairsF n ord)) (m.fmod (L : Int)).toNat pl := by
  have Lp := p.pos
  rw [fm m (show (0 : Int) < L by omega)]
  have a := Int.emod_nonneg m (show (L : Int) ≠ 0 by omega)
  unfold roundsZ
  by_cases c : 0 ≤ m
  · rw [if_pos c, ← MR.it_mod _ p.back m.toNat]
    refine congrArg (fun k => MR.it _ k pl) ?_
    have : ((m.toNat % L : Nat) : Int) = m % (L : Int) := by
      rw [Int.natCast_emod, show ((m.toNat : Nat) : Int) = m by omega]
    omega
  · rw [if_neg c, MR.pairs_rev]
    refine MR.rev_mod (MR.tdF_sym ts) (MR.pairs_ok hn h) P Lp p.back _ ?_
    have h2 : ((((m % (L : Int)).toNat + (-m).toNat) % L : Nat) : Int) = 0 := by
      rw [Int.natCast_emod, Int.natCast_add, show (((m % (L : Int)).toNat : Nat) : Int) = m % (L : Int) by omega, show (((-m).toNat : Nat) : Int) = -m by omega, Int.emod_add_emod, show m + -m = 0 by omega]
      exact Int.zero_emod _
    omega
def StA (H : Hp) (p : Addr) (f : List Int → List Int) (pl : List Int) (i : Nat) : Prop := ∃ ps : List Addr, H p = some (.lst (ps.map V.ref)) ∧ ps.length = i ∧ ∀ (j : Nat) (q : Addr), ps[j]? = some q → H q = some (.lst ((MR.stOf (MR.it f j pl)).map V.int))
theorem StA.on {H H' : Hp} {p : Addr} {f : List Int → List Int} {pl : List Int} {i : Nat} (h : StA H p f pl i) (e : Ex H H') : StA H' p f pl i := by
  obtain ⟨ps, a, b, c⟩ := h
  exact ⟨ps, e _ _ a, b, fun j q x => e _ _ (c j q x)⟩
theorem ne_lists {H : Hp} {p q : Addr} {ps : List Addr} {l : List Int} (h : H p = some (.lst (ps.map V.ref))) (hq : H q = some (.lst (l.map V.int))) (hl : 0 < l.length) : q ≠ p := by
  rintro rfl
  rw [h] at hq
  injection hq with hq
  injection hq with hq
  cases l with
  | nil => cases hl
  | cons x l =>
    cases ps with
    | nil => cases hq
    | cons y ps => cases hq
theorem StA.exA {d : Addr} {k : Int} {H H' : Hp} {p : Addr} {f : List Int → List Int} {pl : List Int} {i : Nat} (h : StA H p f pl i) (hd : Dr H d k) (e : ExA d H H') : StA H' p f pl i := by
  obtain ⟨ps, a, b, c⟩ := h
  refine ⟨ps, e _ _ (fun z => ?_) a, b, fun j q x => e _ _ (ne_draws (c j q x) hd) (c j q x)⟩
  obtain ⟨x, bb, hx⟩ := hd
  rw [z, hx] at a
  injection a with a
  injection a with a
  cases ps with
  | nil => cases a
  | cons y ps => cases a
theorem StA.push {H : Hp} {p q : Addr} {f : List Int → List Int} {pl : List Int} {i : Nat} (h : StA H p f pl i) (hq : H q = some (.lst ((MR.stOf (MR.it f i pl)).map V.int))) (ne : ∀ (j : Nat) (r : Addr), H r = some (.lst ((MR.stOf (MR.it f j pl)).map V.int)) → r ≠ p) :
    ∃ ps : List Addr, H p = some (.lst (ps.map V.ref)) ∧ ps.length = i ∧ StA (upd H p (.lst (ps.map V.ref ++ [.ref q]))) p f pl (i + 1) := by
  obtain ⟨ps, a, b, c⟩ := h
  refine ⟨ps, a, b, ps ++ [q], by rw [upd_same, List.map_append]; rfl, by rw [List.length_append, b]; rfl, fun j r x => ?_⟩
  by_cases hj : j < ps.length
  · rw [List.getElem?_append_left hj] at x
    rw [upd_ne (ne j r (c j r x))]
    exact c j r x
  · have ej : j = ps.length := by
      have z := (List.getElem?_eq_some_iff.mp x).1
      rw [List.length_append, List.length_singleton] at z
      omega
    rw [ej, List.getElem?_append_right (Nat.le_refl _), Nat.sub_self] at x
    cases x
    rw [upd_ne (ne i q hq), ej, b]
    exact hq
theorem DrX.lt {H : Hp} {a : Addr} {x k : Int} {b : Bool} (h : DrX H a x k b) : Dr H a k := ⟨x, b, h⟩
section
variable {P : Program} {w : World} {K : PySem.W.Frag} {mg : Str → Option Value} {base : Heap} {A : Ad}
def sp_l_great_right : Sp := fun vs H Q _ => ∃ (d a s o : Addr) (ts : List (Int × Int)) (st ord : List Int) (n L : Nat) (x k : Int) (b : Bool), vs = [.ref d, .int (n : Int), .ref a, .ref s, .ref o] ∧ DrX H d x k b ∧ (0 ≤ k ∧ k < 2 ^ 39) ∧ TM H a ts ∧ NetOk (n : Int) ts ∧
  H s = some (.lst (st.map V.int)) ∧ MR.Stn n st ∧ H o = some (.lst (ord.map V.int)) ∧ MR.Stn n ord ∧ MR.Per (MR.tdF ts) (MR.pairsF n ord) (MR.plOf st) L ∧ L ≤ 1000000 ∧
  ∀ (H2 : Hp), ExA d H H2 → DrX H2 d (nextX (nextX x b) b) (k + 2) b → Q (.bl true) H2
theorem ok_l_great_right (T : Txt K mg A) : FnG P w K mg base CX0 7 A.f_l_great_right A.d_l_great_right ["_law_draws_here", "_law_figure", "_law_pairs", "_law_now", "_law_row"] sp_l_great_right := by
  have G_l_next : FnOk P w K mg base CX0 1 A.f_l_next A.d_l_next ["_law_draws_here"] sp_l_nextX := ok_l_nextX T
  have G_l_near : FnOk P w K mg base CX0 1 A.f_l_near A.d_l_near ["_law_pairs"] (sp_l_near K) := ok_l_near T
  have G_l_moved : FnOk P w K mg base CX0 1 A.f_l_moved A.d_l_moved ["_law_near_here", "_law_row", "_law_rows"] (sp_l_moved K) := ok_l_moved T
  have G_after_rounds : FnOk P w K mg base CX0 6 A.f_after_rounds A.d_after_rounds ["seats", "ties", "standing", "order", "many"] (sp_after_rounds K) := ok_after_rounds T
  refine okG T.F_l_great_right sc_l_great_right (fun vs H Q E h => ?_) (fun cdv A' outer s0 H vs Q E hgd hr h => ?_)
  · obtain ⟨d, a, s, o, ts, st, ord, n, L, x, k, b, rfl, _⟩ := h
    rfl
  · obtain ⟨d, a, s, o, ts, st, ord, n, L, x, k, b, rfl, hd, hk, hT, N, hS, S, hO, O, per, hL, q⟩ := h
    refine ⟨_, (pss_cons (ps_set (i := 5) sc_l_great_right.nd rfl (by first | exact .inl rfl | exact .inr rfl) (pe_call G_l_near (hr.mono (by decide)) (by rfl) T.g_l_near T.F_l_near.kp T.b_l_near .nil pass0 (pa_cons (pv 2) pa_nil)))
      (pss_cons (ps_set (i := 6) sc_l_great_right.nd rfl (by first | exact .inl rfl | exact .inr rfl) (pe_lst (pa_cons (pv 3) pa_nil)))
      (pss_cons (ps_set (i := 7) sc_l_great_right.nd rfl (by first | exact .inl rfl | exact .inr rfl) (pe_call G_l_moved (hr.mono (by decide)) (by rfl) T.g_l_moved T.F_l_moved.kp T.b_l_moved .nil pass0 (pa_cons (pv 5) (pa_cons (pv 3) (pa_cons (pv 4) pa_nil)))))
      (pss_cons (ps_while PassesOwn.never (pt_cmpR (op_neD hr.units) (pv 7) (pv 3) (nomark _)) (pss_cons (ps_expr (pe_bmK (K := K) rfl PySem.F.plainAttrs_list PySem.F.slot_list_append PySem.F.type_list_append mt_append (pv 6) (pa_cons (pv 7) pa_nil)))
      (pss_one (ps_set (i := 7) sc_l_great_right.nd rfl (by first | exact .inl rfl | exact .inr rfl) (pe_call G_l_moved (hr.mono (by decide)) (by rfl) T.g_l_moved T.F_l_moved.kp T.b_l_moved .nil pass0 (pa_cons (pv 5) (pa_cons (pv 7) (pa_cons (pv 4) pa_nil))))))))
      (pss_cons (ps_set (i := 8) sc_l_great_right.nd rfl (by first | exact .inl rfl | exact .inr rfl) (pe_op op_add (pe_op op_mul (pe_callTy call_int1 (by rfl) T.z_int (by decide +kernel) (pa_cons (pe_call G_l_next (hr.mono (by decide)) (by rfl) T.g_l_next T.F_l_next.kp T.b_l_next .nil pass0 (pa_cons (pv 0) pa_nil)) pa_nil)) (pe_op op_powW pe_int pe_int)) (pe_callTy call_int1 (by rfl) T.z_int (by decide +kernel) (pa_cons (pe_call G_l_next (hr.mono (by decide)) (by rfl) T.g_l_next T.F_l_next.kp T.b_l_next .nil pass0 (pa_cons (pv 0) pa_nil)) pa_nil))))
      (pss_cons (ps_for PassesOwn.never rfl (pi_listK (K := K) rfl (pe_lst (pa_cons (pv 8) (pa_cons (pe_op op_sub pe_int (pv 8)) (pa_cons (pe_op op_powW pe_int pe_int) (pa_cons (pe_op op_sub pe_int (pe_op op_powW pe_int pe_int)) (pa_cons pe_int (pa_cons (pe_un un_neg pe_int) (pa_cons (pe_callB (call_lenK (K := K) rfl) (by rfl) T.z_len PySem.boot_len (pa_cons (pv 6) pa_nil)) (pa_cons pe_int pa_nil)))))))))) (pg_name (i := 9) sc_l_great_right.nd rfl (by first | exact .inl rfl | exact .inr rfl)) (pss_one (ps_if (pt_cmpR (op_neD hr.units) (pe_call G_after_rounds (hr.mono (by decide)) (by rfl) T.g_after_rounds T.F_after_rounds.kp T.b_after_rounds .nil pass0 (pa_cons (pv 1) (pa_cons (pv 2) (pa_cons (pv 3) (pa_cons (pv 4) (pa_cons (pv 9) pa_nil)))))) (pe_ix (ix_listK (K := K) rfl) (pv 6) (pe_op op_modN (pe_callTy call_int1 (by rfl) T.z_int (by decide +kernel) (pa_cons (pv 9) pa_nil)) (pe_callB (call_lenK (K := K) rfl) (by rfl) T.z_len PySem.boot_len (pa_cons (pv 6) pa_nil))) (fun _ _ => rfl)) (nomark _)) (pss_one (ps_ret pe_bl)) pss_nil)))
      (pss_one (ps_ret (pe_cmpR (op_eqD hr.units) (pe_call G_after_rounds (hr.mono (by decide)) (by rfl) T.g_after_rounds T.F_after_rounds.kp T.b_after_rounds .nil pass0 (pa_cons (pv 1) (pa_cons (pv 2) (pa_cons (pe_ix (ix_listK (K := K) rfl) (pv 6) (pe_un un_neg pe_int) (fun _ _ => rfl)) (pa_cons (pv 4) (pa_cons (pe_op op_add pe_int (pe_op op_mul (pe_callB (call_lenK (K := K) rfl) (by rfl) T.z_len PySem.boot_len (pa_cons (pv 6) pa_nil)) (pe_op op_powW pe_int pe_int))) pa_nil)))))) (pv 3) (nomark _)))))))))), ?_⟩
    have n1 := N.lo
    have n2 := N.hi
    have few := N.few
    have P0 := S.plc
    have okc := MR.pairs_ok (n := n) (by omega) O.lo
    have Lp := per.pos
    obtain ⟨f, hf⟩ : ∃ f, MR.roundP (MR.tdF ts) (MR.pairsF n ord) = f := ⟨_, rfl⟩
    have PI : ∀ i, MR.Plc n (MR.it f i (MR.plOf st)) := fun i => by rw [← hf]; exact MR.it_plc okc i P0
    have sl : ∀ i, 0 < (MR.stOf (MR.it f i (MR.plOf st))).length := fun i => by rw [(PI i).stn.len]; omega
    -- near = near(pairs); states = [now]
    refine ⟨_, rfl, a, ts, rfl, hT.at_, few, fun nn H1 nnn e1 hN => ?_⟩
    refine ⟨_, rfl, (by show 1 ≤ sizeLine; decide), fun p np => ?_⟩
    have e2 : Ex H1 (upd H1 p (.lst [.ref s])) := Ex.new np
    have hp : (upd H1 p (.lst [.ref s])) p = some (.lst ([s].map V.ref)) := upd_same
    have np0 : H p = none := fresh_back e1 np
    have hSt : StA (upd H1 p (.lst [.ref s])) p f (MR.plOf st) 1 := by
      refine ⟨[s], hp, rfl, fun j r hj => ?_⟩
      cases j with
      | zero =>
        cases hj
        show _ = some (HO.lst ((MR.stOf (MR.plOf st)).map V.int))
        rw [S.back]
        exact e2 _ _ (e1 _ _ hS)
      | succ j => cases hj
    have g2 := e1.trans e2
    have hN2 := hN.on e2
    generalize upd H1 p (.lst [.ref s]) = H2 at e2 hp hSt g2 hN2
    -- moved
    have mv : ∀ (i : Nat) (q : Addr) (H' : Hp) (Qx : VK), Ex H H' → NearAt H' nn ts → H' q = some (.lst ((MR.stOf (MR.it f i (MR.plOf st))).map V.int)) →
        (∀ r H3, H' r = none → Ex H' H3 → H3 r = some (.lst ((MR.stOf (MR.it f (i + 1) (MR.plOf st))).map V.int)) → Qx (.ref r) H3) → sp_l_moved K [.ref nn, .ref q, .ref o] H' Qx E0 := by
      intro i q H' Qx x1 x2 x3 x4
      refine ⟨nn, q, o, ts, MR.stOf (MR.it f i (MR.plOf st)), ord, n, rfl, x2, .inl (.inl x3), (PI i).stn, .inl (.inl (x1 _ _ hO)), O.lo, by omega, by omega, fun r H3 nr e3 hr3 => x4 r H3 nr e3 ?_⟩
      rw [(PI i).back] at hr3
      rw [MR.it_succ, ← hf]
      rw [← hf] at hr3
      exact hr3
    have hs0 : H2 s = some (.lst ((MR.stOf (MR.it f 0 (MR.plOf st))).map V.int)) := by
      show _ = some (HO.lst ((MR.stOf (MR.plOf st)).map V.int))
      rw [S.back]
      exact g2 _ _ hS
    refine ⟨_, rfl, _, rfl, _, rfl, mv 0 s H2 _ g2 hN2 hs0 fun r H3 nr e3 hr3 => ?_⟩
    have pne : ∀ {H' : Hp} {i j : Nat} {r : Addr}, StA H' p f (MR.plOf st) i → H' r = some (.lst ((MR.stOf (MR.it f j (MR.plOf st))).map V.int)) → r ≠ p := fun {H' i j r} h hr => by
      obtain ⟨ps, a1, _, _⟩ := h
      exact ne_lists a1 hr (sl j)
    -- while here != now
    refine ⟨fun m σ' H' => ∃ (i : Nat) (r : Addr), σ' = [some (.ref d), some (.int (n : Int)), some (.ref a), some (.ref s), some (.ref o), some (.ref nn), some (.ref p), some (.ref r), none, none] ∧ Ex H H' ∧ NearAt H' nn ts ∧ StA H' p f (MR.plOf st) i ∧
        H' r = some (.lst ((MR.stOf (MR.it f i (MR.plOf st))).map V.int)) ∧ 1 ≤ i ∧ i ≤ L ∧ m = L - i, ⟨L - 1, 1, r, rfl, g2.trans e3, hN2.on e3, hSt.on e3, hr3, Nat.le_refl _, Lp, rfl⟩, ?_⟩
    rintro m σ' H' ⟨i, r', rfl, e4, hN4, hSt4, hr4, i1, iL, rfl⟩
    have hS4 := e4 _ _ hS
    refine ⟨_, rfl, _, rfl, ne_ints (.inl (.inl hr4)) (.inl (.inl hS4)) ⟨_, rfl, ?_⟩⟩
    by_cases ce : MR.stOf (MR.it f i (MR.plOf st)) = st
    · rw [decide_eq_true ce]
      have eL : i = L := by
        refine Decidable.byContradiction fun z => ?_
        refine per.least i (by omega) (by omega) ?_
        rw [hf, ← (PI i).back, ce]
      subst eL
      refine iteF ?_
      -- drawn = int(next) * 10 ** 20 + int(next)
      refine ⟨_, rfl, d, x, k, b, rfl, hd.on e4, ⟨hk.1, by omega⟩, fun H5 e5 hd5 => ?_⟩
      have v1 := nextV_nn x (k + 1) b
      have v2 := nextV_lt x (k + 1) b
      refine .inl ⟨_, rfl, _, _, rfl, rfl, ⟨by decide, by decide +kernel⟩, _, _, rfl, rfl, .inl ⟨by omega, by omega⟩, ?_⟩
      refine ⟨_, rfl, d, _, _, b, rfl, hd5, ⟨by omega, by omega⟩, fun H6 e6 hd6 => ?_⟩
      refine .inl ⟨_, rfl, _, _, rfl, rfl, ?_⟩
      obtain ⟨D0, hD0⟩ : ∃ D0, nextV x (k + 1) b * 10 ^ (20 : Int).toNat + nextV (nextX x b) (k + 1 + 1) b = D0 := ⟨_, rfl⟩
      dsimp only [gName]
      show tSeq (tFor _ _ _) _ _ [some (.ref d), some (.int (n : Int)), some (.ref a), some (.ref s), some (.ref o), some (.ref nn), some (.ref p), some (.ref r'), some (.int (nextV x (k + 1) b * 10 ^ (20 : Int).toNat + nextV (nextX x b) (k + 1 + 1) b)), none] H6
      rw [hD0]
      have hd4 := hd.on e4
      have eA46 := e5.trans e6
      have eA6 := (ExA.of (a := d) e4).trans eA46
      have hT6 := hT.exA hd.lt eA6
      have hS6 := eA6 _ _ (ne_draws hS hd.lt) hS
      have hO6 := eA6 _ _ (ne_draws hO hd.lt) hO
      have hSt6 := hSt4.exA hd4.lt eA46
      obtain ⟨ps, h1, h2, h3⟩ := hSt6
      have pl2 : ((ps.map V.ref).length : Int) = (i : Int) := by rw [List.length_map, h2]
      -- for many in [..]
      refine ⟨_, rfl, _, rfl, _, _, rfl, rfl, _, _, rfl, rfl, ⟨by decide, by decide +kernel⟩, _, _, rfl, rfl, ⟨by decide, by decide +kernel⟩, _, _, rfl, rfl, 1001, rfl, _, rfl, p, _, rfl, .inl (.inl (.inl h1)), (by show 8 ≤ sizeLine; decide), fun lp nlp => ?_⟩
      have e7 : Ex H6 (upd H6 lp (.lst [V.int D0, V.int (0 - D0), V.int ((10 : Int) ^ (59 : Int).toNat), V.int (1 - (10 : Int) ^ (59 : Int).toNat), V.int 1001, V.int (-1001), V.int ((ps.map V.ref).length : Int), V.int 999999])) := Ex.new nlp
      have hlp : (upd H6 lp (.lst [V.int D0, V.int (0 - D0), V.int ((10 : Int) ^ (59 : Int).toNat), V.int (1 - (10 : Int) ^ (59 : Int).toNat), V.int 1001, V.int (-1001), V.int ((ps.map V.ref).length : Int), V.int 999999])) lp = some (.lst [V.int D0, V.int (0 - D0), V.int ((10 : Int) ^ (59 : Int).toNat), V.int (1 - (10 : Int) ^ (59 : Int).toNat), V.int 1001, V.int (-1001), V.int ((ps.map V.ref).length : Int), V.int 999999]) := upd_same
      refine ⟨lp, rfl, ⟨_, .inl (.inl upd_same)⟩, ?_⟩
      refine for_list (xs := [V.int D0, V.int (0 - D0), V.int ((10 : Int) ^ (59 : Int).toNat), V.int (1 - (10 : Int) ^ (59 : Int).toNat), V.int 1001, V.int (-1001), V.int ((ps.map V.ref).length : Int), V.int 999999]) (fun j σ' H' => (∃ y9, σ' = [some (.ref d), some (.int (n : Int)), some (.ref a), some (.ref s), some (.ref o), some (.ref nn), some (.ref p), some (.ref r'), some (.int D0), y9]) ∧ Ex (upd H6 lp (.lst [V.int D0, V.int (0 - D0), V.int ((10 : Int) ^ (59 : Int).toNat), V.int (1 - (10 : Int) ^ (59 : Int).toNat), V.int 1001, V.int (-1001), V.int ((ps.map V.ref).length : Int), V.int 999999])) H')
        ⟨⟨none, rfl⟩, Ex.refl _⟩ (fun i σ' H' _ z => .inl (.inl (z.2 _ _ hlp))) ?_ ?_
      · rintro j y σ' H7 hy ⟨⟨y9, rfl⟩, e8⟩
        obtain ⟨m, rfl⟩ : ∃ m : Int, y = .int m := by
          match j, hy with
          | 0, hy => exact ⟨_, (Option.some.inj hy).symm⟩
          | 1, hy => exact ⟨_, (Option.some.inj hy).symm⟩
          | 2, hy => exact ⟨_, (Option.some.inj hy).symm⟩
          | 3, hy => exact ⟨_, (Option.some.inj hy).symm⟩
          | 4, hy => exact ⟨_, (Option.some.inj hy).symm⟩
          | 5, hy => exact ⟨_, (Option.some.inj hy).symm⟩
          | 6, hy => exact ⟨_, (Option.some.inj hy).symm⟩
          | 7, hy => exact ⟨_, (Option.some.inj hy).symm⟩
          | _ + 8, hy => cases hy
        have g8 := e7.trans e8
        refine ⟨_, rfl, _, rfl, _, rfl, _, rfl, _, rfl, a, s, o, ts, st, ord, n, m, rfl, (hT6.on g8).at_, N, .inl (.inl (g8 _ _ hS6)), S, .inl (.inl (g8 _ _ hO6)), O, fun t H8 nt e9 ht => ?_⟩
        rw [roundsZ_mod (by omega) O.lo P0 per m, hf] at ht
        have g9 := g8.trans e9
        have fmm := fmod_at (i := m) (j := (i : Int)) (by omega)
        have hj : (m.fmod (i : Int)).toNat < ps.length := by omega
        have hq := h3 _ _ (List.getElem?_eq_getElem hj)
        have ha := atI_refs (List.getElem?_eq_getElem hj)
        rw [show (((m.fmod (i : Int)).toNat : Nat) : Int) = m.fmod (i : Int) by omega] at ha
        refine ⟨_, rfl, _, rfl, .inl ⟨m, rfl, _, rfl, p, _, rfl, .inl (.inl (.inl (g9 _ _ h1))), _, _, rfl, rfl, (by rw [pl2]; omega), p, _, _, _, rfl, rfl, .inl (.inl (g9 _ _ h1)), (by rw [pl2]; exact ha), ?_⟩⟩
        refine ne_ints (.inl (.inl ht)) (.inl (.inl (g9 _ _ hq))) ⟨_, rfl, ?_⟩
        rw [decide_eq_true rfl]
        exact iteF ⟨⟨_, rfl⟩, e8.trans e9⟩
      · rintro σ' H7 ⟨⟨y9, rfl⟩, e8⟩
        have g8 := e7.trans e8
        obtain ⟨C, hC⟩ : ∃ C : Nat, (10 : Int) ^ (40 : Int).toNat = (C : Int) := ⟨((10 : Int) ^ (40 : Int).toNat).toNat, (Int.toNat_of_nonneg (by decide +kernel)).symm⟩
        have hlast : atI (ps.map V.ref) (-1) = some (.ref (ps[i - 1]'(by omega))) := by
          have hg : ps[i - 1]? = some (ps[i - 1]'(by omega)) := List.getElem?_eq_getElem (by omega)
          have hz := take_snoc hg
          rw [show i - 1 + 1 = i by omega, List.take_of_length_le (by omega)] at hz
          have z := atI_last ((ps.take (i - 1)).map V.ref) (.ref (ps[i - 1]'(by omega)))
          have z2 : ps.map V.ref = (ps.take (i - 1)).map V.ref ++ [.ref (ps[i - 1]'(by omega))] := by
            rw [← List.map_singleton, ← List.map_append, ← hz]
          rw [z2]
          exact z
        have hq := h3 (i - 1) _ (List.getElem?_eq_getElem (show i - 1 < ps.length by omega))
        refine ⟨_, rfl, _, rfl, _, rfl, 1, rfl, p, _, _, _, rfl, rfl, .inl (.inl (g8 _ _ h1)), hlast, _, rfl, _, rfl, p, _, rfl, .inl (.inl (.inl (g8 _ _ h1))), _, _, rfl, rfl, ⟨by decide, by decide +kernel⟩, _, _, rfl, rfl, .inl ⟨by omega, by omega⟩, _, _, rfl, rfl, ?_⟩
        refine ⟨a, _, o, ts, MR.stOf (MR.it f (i - 1) (MR.plOf st)), ord, n, _, rfl, (hT6.on g8).at_, N, .inl (.inl (g8 _ _ hq)), (PI (i - 1)).stn, .inl (.inl (g8 _ _ hO6)), O, fun t H8 nt e9 ht => ?_⟩
        have ev : roundsZ (MR.tdF ts) n ord (1 + ((ps.map V.ref).length : Int) * 10 ^ (40 : Int).toNat) (MR.plOf (MR.stOf (MR.it f (i - 1) (MR.plOf st)))) = MR.plOf st := by
          rw [(PI (i - 1)).back, hC, pl2]
          have hm : (0 : Int) ≤ (i : Int) * (C : Int) := Int.mul_nonneg (by omega) (by omega)
          unfold roundsZ
          rw [if_pos (by omega), hf, ← MR.it_add]
          have e10 : i - 1 + (1 + (i : Int) * (C : Int)).toNat = i * (C + 1) := by
            have : (i : Int) * (C : Int) = ((i * C : Nat) : Int) := (Int.natCast_mul i C).symm
            rw [Nat.mul_succ]
            omega
          rw [e10]
          rw [← hf]
          exact MR.it_mul _ per.back _
        rw [ev, S.back] at ht
        have g9 := g8.trans e9
        refine ⟨_, rfl, eq_ints (.inl (.inl ht)) (.inl (.inl (g9 _ _ hS6))) ?_⟩
        rw [decide_eq_true rfl]
        have hd6' := hd6.on g9
        rw [show k + 1 + 1 = k + 2 by omega] at hd6'
        exact q H8 (eA6.trans (ExA.of g9)) hd6'
    · rw [decide_eq_false ce]
      have lt : i < L := by
        refine Nat.lt_of_le_of_ne iL fun z => ce ?_
        rw [z, ← hf, per.back, S.back]
      refine iteT ⟨fun σ2 H2 => ∃ m', m' < L - i ∧ ∃ (i : Nat) (r : Addr), σ2 = [some (.ref d), some (.int (n : Int)), some (.ref a), some (.ref s), some (.ref o), some (.ref nn), some (.ref p), some (.ref r), none, none] ∧ Ex H H2 ∧ NearAt H2 nn ts ∧ StA H2 p f (MR.plOf st) i ∧
        H2 r = some (.lst ((MR.stOf (MR.it f i (MR.plOf st))).map V.int)) ∧ 1 ≤ i ∧ i ≤ L ∧ m' = L - i, fun σ2 H2 z => z, ?_⟩
      obtain ⟨ps, h1, h2, h3⟩ := hSt4.push hr4 fun j r hr => pne hSt4 hr
      refine ⟨_, rfl, .inl ⟨rfl, _, .inl (.inl h1)⟩, _, rfl, p, _, _, rfl, rfl, h1, Nat.lt_of_le_of_lt (show (ps.map V.ref).length ≤ 1000000 by rw [List.length_map]; omega) (by decide), ?_⟩
      have hr5 : (upd H' p (.lst (ps.map V.ref ++ [.ref r']))) r' = some (.lst ((MR.stOf (MR.it f i (MR.plOf st))).map V.int)) := by rw [upd_ne (pne hSt4 hr4)]; exact hr4
      have e5 := Ex.mut (o := .lst (ps.map V.ref ++ [.ref r'])) e4 np0
      have hN5 : NearAt (upd H' p (.lst (ps.map V.ref ++ [.ref r']))) nn ts := by
        obtain ⟨kvs, a1, a2, a3⟩ := hN4
        refine ⟨kvs, ?_, a2, a3⟩
        rw [upd_ne (fun z => by rw [z, h1] at a1; cases a1)]
        exact a1
      refine ⟨_, rfl, _, rfl, _, rfl, mv i r' _ _ e5 hN5 hr5 fun r2 H6 nr2 e6 hr6 => ?_⟩
      exact ⟨L - (i + 1), by omega, i + 1, r2, rfl, e5.trans e6, hN5.on e6, h3.on e6, hr6, by omega, by omega, rfl⟩
end
end K20

namespace K20
open PySem PySem.Spec PyProof.Rows L2 Vf Evl
/-! ### the nets of forty seats -/
def row40 : List Int := (List.range 40).map fun i : Nat => 1 + (i : Int)
def line40 : List (Int × Int) := (List.range 39).map fun i : Nat => (1 + (i : Int), 1 + (i : Int) + 1)
def star40 : List (Int × Int) := ((List.range 40).filter fun i : Nat => !decide (1 + (i : Int) = 17)).map fun i : Nat => (17, 1 + (i : Int))
def ordJ : Nat → List Int
  | 0 => row40
  | 1 => row40.drop 7 ++ row40.take 7
  | 2 => row40.reverse
  | 3 => pickL row40 none none (some 2) ++ pickL row40 (some 1) none (some 2)
  | 4 => row40.drop 20 ++ (row40.take 20).reverse
  | 5 => row40
  | 6 => row40.reverse
  | _ => row40.drop 30 ++ row40.take 30
def tdL (a b : Int) : Bool := (a - b == 1) || (b - a == 1)
def tdS (a b : Int) : Bool := (a == 17) || (b == 17)
theorem line_td {a b : Int} (ha : 1 ≤ a ∧ a ≤ 40) (hb : 1 ≤ b ∧ b ≤ 40) : MR.tdF line40 a b = tdL a b := by
  have key : ∀ x y : Fin 40, MR.tdF line40 (1 + (x.1 : Int)) (1 + (y.1 : Int)) = tdL (1 + (x.1 : Int)) (1 + (y.1 : Int)) := by decide +kernel
  have z := key ⟨(a - 1).toNat, by omega⟩ ⟨(b - 1).toNat, by omega⟩
  simp only [show (((a - 1).toNat : Nat) : Int) = a - 1 by omega, show (((b - 1).toNat : Nat) : Int) = b - 1 by omega, show 1 + (a - 1) = a by omega, show 1 + (b - 1) = b by omega] at z
  exact z
theorem star_td {a b : Int} (ha : 1 ≤ a ∧ a ≤ 40) (hb : 1 ≤ b ∧ b ≤ 40) (ne : a ≠ b) : MR.tdF star40 a b = tdS a b := by
  have key : ∀ x y : Fin 40, x ≠ y → MR.tdF star40 (1 + (x.1 : Int)) (1 + (y.1 : Int)) = tdS (1 + (x.1 : Int)) (1 + (y.1 : Int)) := by decide +kernel
  have z := key ⟨(a - 1).toNat, by omega⟩ ⟨(b - 1).toNat, by omega⟩ (fun h => ne (by have := congrArg Fin.val h; simp only at this; omega))
  simp only [show (((a - 1).toNat : Nat) : Int) = a - 1 by omega, show (((b - 1).toNat : Nat) : Int) = b - 1 by omega, show 1 + (a - 1) = a by omega, show 1 + (b - 1) = b by omega] at z
  exact z
/-- rounds look only at the seats of two people -/
theorem run_td {td td' : Int → Int → Bool} {n : Nat} (h : ∀ a b : Int, 1 ≤ a ∧ a ≤ n → 1 ≤ b ∧ b ≤ n → a ≠ b → td a b = td' a b) : ∀ {cs : List (Int × Int)} {p : List Int}, MR.Plc n p → (∀ c ∈ cs, MR.CallOk n c) → MR.runP td p cs = MR.runP td' p cs
  | [], p, _, _ => rfl
  | c :: cs, p, P, hc => by
    have ok := hc c List.mem_cons_self
    have e : MR.stepP td p c = MR.stepP td' p c := by
      obtain ⟨k1, k2, k3⟩ := id ok
      have A1 := P.of k1.1 k1.2
      have A2 := P.of k2.1 k2.2
      unfold MR.stepP
      rw [h _ _ ⟨A1.1, A1.2.1⟩ ⟨A2.1, A2.2.1⟩ fun z => k3 (P.inj k1.1 k1.2 k2.1 k2.2 z)]
    show MR.runP td (MR.stepP td p c) cs = MR.runP td' (MR.stepP td' p c) cs
    rw [e]
    exact run_td h (MR.step_plc P ok) fun d hd => hc d (List.mem_cons_of_mem _ hd)
theorem it_td {td td' : Int → Int → Bool} {n : Nat} (h : ∀ a b : Int, 1 ≤ a ∧ a ≤ n → 1 ≤ b ∧ b ≤ n → a ≠ b → td a b = td' a b) {cs : List (Int × Int)} (hc : ∀ c ∈ cs, MR.CallOk n c) : ∀ (k : Nat) {p : List Int}, MR.Plc n p → MR.it (MR.roundP td cs) k p = MR.it (MR.roundP td' cs) k p
  | 0, p, _ => rfl
  | k + 1, p, P => by
    show MR.it (MR.roundP td cs) k (MR.runP td p cs) = MR.it (MR.roundP td' cs) k (MR.runP td' p cs)
    rw [run_td h P hc]
    exact it_td h hc k (MR.run_plc P hc)
def backB (td : Int → Int → Bool) (N : Nat) (ord st : List Int) : Bool := MR.it (MR.roundP td (MR.pairsF 40 ord)) N (MR.plOf st) == MR.plOf st
def stnB (s : List Int) : Bool := decide (s.length = 40) && s.all (fun x => decide (1 ≤ x) && decide (x ≤ 40)) && decide s.Nodup
theorem stnB_ok {s : List Int} (h : stnB s = true) : MR.Stn 40 s := by
  unfold stnB at h
  simp only [Bool.and_eq_true, decide_eq_true_eq, List.all_eq_true] at h
  obtain ⟨⟨h1, h2⟩, h3⟩ := h
  exact ⟨h1, fun x hx => by have := h2 x hx; exact ⟨this.1, by omega⟩, h3⟩
theorem row_stn : MR.Stn 40 row40 := stnB_ok (by decide +kernel)
theorem ord_stn (j : Nat) : MR.Stn 40 (ordJ j) := by
  match j with
  | 0 => exact row_stn
  | 1 => exact stnB_ok (by decide +kernel)
  | 2 => exact stnB_ok (by decide +kernel)
  | 3 => exact stnB_ok (by decide +kernel)
  | 4 => exact stnB_ok (by decide +kernel)
  | 5 => exact row_stn
  | 6 => exact stnB_ok (by decide +kernel)
  | _ + 7 => exact stnB_ok (by show stnB (row40.drop 30 ++ row40.take 30) = true; decide +kernel)
theorem sh_stn (j : Nat) (hj : j < 8) : MR.Stn 40 (shufF (42 * (j : Int)) row40) := by
  have key : ∀ j : Fin 8, stnB (shufF (42 * (j.1 : Int)) row40) = true := by decide +kernel
  exact stnB_ok (key ⟨j, hj⟩)
theorem per_line {N : Nat} {ord st : List Int} (hO : MR.Stn 40 ord) (hS : MR.Stn 40 st) (h0 : 0 < N) (h : backB tdL N ord st = true) : ∃ L, L ≤ N ∧ MR.Per (MR.tdF line40) (MR.pairsF ((40 : Nat) : Int) ord) (MR.plOf st) L := by
  refine MR.per_of N h0 ?_
  rw [it_td (td' := tdL) (n := 40) (fun a b ha hb _ => line_td ha hb) (MR.pairs_ok (n := 40) (by decide) hO.lo) N hS.plc]
  exact eq_of_beq h
theorem per_star {N : Nat} {ord st : List Int} (hO : MR.Stn 40 ord) (hS : MR.Stn 40 st) (h0 : 0 < N) (h : backB tdS N ord st = true) : ∃ L, L ≤ N ∧ MR.Per (MR.tdF star40) (MR.pairsF ((40 : Nat) : Int) ord) (MR.plOf st) L := by
  refine MR.per_of N h0 ?_
  rw [it_td (td' := tdS) (n := 40) (fun a b ha hb ne => star_td ha hb ne) (MR.pairs_ok (n := 40) (by decide) hO.lo) N hS.plc]
  exact eq_of_beq h
end K20

namespace K20
/-! ### places as one number, six bits each: so rounds are reckoned fast -/
def enc : List Int → Nat
  | [] => 0
  | x :: l => x.toNat + 64 * enc l
theorem enc_at : ∀ {l : List Int} {i : Nat} {x : Int}, (∀ y ∈ l, 0 ≤ y ∧ y < 64) → l[i]? = some x → enc l / 64 ^ i % 64 = x.toNat
  | [], i, x, _, h => by cases h
  | y :: l, 0, x, hb, h => by
    cases h
    have := hb y List.mem_cons_self
    show (y.toNat + 64 * enc l) / 64 ^ 0 % 64 = y.toNat
    rw [Nat.pow_zero, Nat.div_one, Nat.add_mul_mod_self_left, Nat.mod_eq_of_lt (by omega)]
  | y :: l, i + 1, x, hb, h => by
    have := hb y List.mem_cons_self
    show (y.toNat + 64 * enc l) / 64 ^ (i + 1) % 64 = x.toNat
    have z : (y.toNat + 64 * enc l) / 64 = enc l := by omega
    rw [Nat.pow_succ, Nat.mul_comm (64 ^ i) 64, ← Nat.div_div_eq_div_mul, z]
    exact enc_at (fun z hz => hb z (List.mem_cons_of_mem _ hz)) h
theorem enc_set : ∀ {l : List Int} {i : Nat} {x v : Int}, l[i]? = some x → enc (l.set i v) + x.toNat * 64 ^ i = enc l + v.toNat * 64 ^ i
  | [], i, x, v, h => by cases h
  | y :: l, 0, x, v, h => by
    cases h
    show v.toNat + 64 * enc l + y.toNat * 64 ^ 0 = y.toNat + 64 * enc l + v.toNat * 64 ^ 0
    omega
  | y :: l, i + 1, x, v, h => by
    have ih := enc_set (v := v) (show l[i]? = some x from h)
    show y.toNat + 64 * enc (l.set i v) + x.toNat * 64 ^ (i + 1) = y.toNat + 64 * enc l + v.toNat * 64 ^ (i + 1)
    have a : ∀ z : Nat, z * 64 ^ (i + 1) = 64 * (z * 64 ^ i) := fun z => by rw [Nat.pow_succ, ← Nat.mul_assoc, Nat.mul_comm]
    rw [a, a]
    omega
theorem enc_inj : ∀ {l m : List Int}, l.length = m.length → (∀ y ∈ l, 0 ≤ y ∧ y < 64) → (∀ y ∈ m, 0 ≤ y ∧ y < 64) → enc l = enc m → l = m
  | [], [], _, _, _, _ => rfl
  | [], _ :: _, h, _, _, _ => by cases h
  | _ :: _, [], h, _, _, _ => by cases h
  | x :: l, y :: m, h, h1, h2, e => by
    have a := h1 x List.mem_cons_self
    have b := h2 y List.mem_cons_self
    have e : x.toNat + 64 * enc l = y.toNat + 64 * enc m := e
    have e2 : enc l = enc m := by omega
    rw [enc_inj (Nat.succ.inj h) (fun z hz => h1 z (List.mem_cons_of_mem _ hz)) (fun z hz => h2 z (List.mem_cons_of_mem _ hz)) e2, show x = y by omega]
def stepQ (td : Nat → Nat → Bool) (P : Nat) (c : Nat × Nat) : Nat :=
  let h := P / c.1 % 64
  let t := P / c.2 % 64
  bif td h t then P else P + t * c.1 + h * c.2 - h * c.1 - t * c.2
def pw (c : Int × Int) : Nat × Nat := (64 ^ c.1.toNat, 64 ^ c.2.toNat)
theorem step_enc {td : Int → Int → Bool} {tq : Nat → Nat → Bool} (ht : ∀ a b : Int, 0 ≤ a → 0 ≤ b → tq a.toNat b.toNat = td a b) {n : Nat} (hn : n < 64) {p : List Int} (P : MR.Plc n p) {c : Int × Int} (hc : MR.CallOk n c) : enc (MR.stepP td p c) = stepQ tq (enc p) (pw c) := by
  obtain ⟨k1, k2, k3⟩ := id hc
  have A := P.of k1.1 k1.2
  have B := P.of k2.1 k2.2
  have hb : ∀ y ∈ p, (0 : Int) ≤ y ∧ y < 64 := fun y hy => by have := P.row.lo y hy; omega
  have e1 := enc_at hb A.2.2
  have e2 := enc_at hb B.2.2
  unfold stepQ pw
  simp only [e1, e2]
  rw [ht _ _ (by omega) (by omega)]
  unfold MR.stepP
  by_cases t : td (MR.g0 p c.1) (MR.g0 p c.2) = true
  · rw [t, if_pos rfl]
    rfl
  · rw [Bool.eq_false_iff.mpr t, if_neg (by simp)]
    show _ = enc p + _ + _ - _ - _
    have s1 := enc_set (v := MR.g0 p c.2) A.2.2
    have g : (p.set c.1.toNat (MR.g0 p c.2))[c.2.toNat]? = some (MR.g0 p c.2) := by
      rw [List.getElem?_set_ne (by omega)]
      exact B.2.2
    have s2 := enc_set (v := MR.g0 p c.1) g
    omega
theorem run_enc {td : Int → Int → Bool} {tq : Nat → Nat → Bool} (ht : ∀ a b : Int, 0 ≤ a → 0 ≤ b → tq a.toNat b.toNat = td a b) {n : Nat} (hn : n < 64) : ∀ {cs : List (Int × Int)} {p : List Int}, MR.Plc n p → (∀ c ∈ cs, MR.CallOk n c) → enc (MR.runP td p cs) = (cs.map pw).foldl (stepQ tq) (enc p)
  | [], p, _, _ => rfl
  | c :: cs, p, P, hc => by
    show enc (MR.runP td (MR.stepP td p c) cs) = (cs.map pw).foldl (stepQ tq) (stepQ tq (enc p) (pw c))
    rw [← step_enc ht hn P (hc c List.mem_cons_self)]
    exact run_enc ht hn (MR.step_plc P (hc c List.mem_cons_self)) fun d hd => hc d (List.mem_cons_of_mem _ hd)
def itQ (tq : Nat → Nat → Bool) (cs : List (Nat × Nat)) : Nat → Nat → Nat
  | 0, P => P
  | k + 1, P => itQ tq cs k (cs.foldl (stepQ tq) P)
theorem it_enc {td : Int → Int → Bool} {tq : Nat → Nat → Bool} (ht : ∀ a b : Int, 0 ≤ a → 0 ≤ b → tq a.toNat b.toNat = td a b) {n : Nat} (hn : n < 64) {cs : List (Int × Int)} (hc : ∀ c ∈ cs, MR.CallOk n c) : ∀ (k : Nat) {p : List Int}, MR.Plc n p → enc (MR.it (MR.roundP td cs) k p) = itQ tq (cs.map pw) k (enc p)
  | 0, p, _ => rfl
  | k + 1, p, P => by
    show enc (MR.it (MR.roundP td cs) k (MR.runP td p cs)) = itQ tq (cs.map pw) k ((cs.map pw).foldl (stepQ tq) (enc p))
    rw [← run_enc ht hn P hc]
    exact it_enc ht hn hc k (MR.run_plc P hc)
def tqL (a b : Nat) : Bool := Nat.beq a (b + 1) || Nat.beq b (a + 1)
def tqS (a b : Nat) : Bool := Nat.beq a 17 || Nat.beq b 17
theorem tqL_is (a b : Int) (ha : 0 ≤ a) (hb : 0 ≤ b) : tqL a.toNat b.toNat = tdL a b := by
  have e1 : Nat.beq a.toNat (b.toNat + 1) = (a - b == 1) := by
    rw [Bool.eq_iff_iff, Nat.beq_eq, beq_iff_eq]
    omega
  have e2 : Nat.beq b.toNat (a.toNat + 1) = (b - a == 1) := by
    rw [Bool.eq_iff_iff, Nat.beq_eq, beq_iff_eq]
    omega
  unfold tqL tdL
  rw [e1, e2]
theorem tqS_is (a b : Int) (ha : 0 ≤ a) (hb : 0 ≤ b) : tqS a.toNat b.toNat = tdS a b := by
  have e1 : ∀ c : Int, 0 ≤ c → Nat.beq c.toNat 17 = (c == 17) := fun c hc => by
    rw [Bool.eq_iff_iff, Nat.beq_eq, beq_iff_eq]
    omega
  unfold tqS tdS
  rw [e1 a ha, e1 b hb]
def backQ (tq : Nat → Nat → Bool) (N : Nat) (ord st : List Int) : Bool := Nat.beq (itQ tq ((MR.pairsF 40 ord).map pw) N (enc (MR.plOf st))) (enc (MR.plOf st))
theorem backQ_ok {td : Int → Int → Bool} {tq : Nat → Nat → Bool} (ht : ∀ a b : Int, 0 ≤ a → 0 ≤ b → tq a.toNat b.toNat = td a b) {N : Nat} {ord st : List Int} (hO : MR.Stn 40 ord) (hS : MR.Stn 40 st) (h : backQ tq N ord st = true) : backB td N ord st = true := by
  have ok := MR.pairs_ok (n := 40) (by decide) hO.lo
  have P := hS.plc
  have e := Nat.eq_of_beq_eq_true h
  rw [show (MR.pairsF 40 ord) = MR.pairsF ((40 : Nat) : Int) ord from rfl, ← it_enc ht (by decide) ok N P] at e
  have P2 := MR.it_plc (td := td) ok N P
  refine beq_iff_eq.mpr (enc_inj ?_ (fun y hy => ?_) (fun y hy => ?_) e)
  · exact P2.row.len.trans P.row.len.symm
  · have := P2.row.lo y hy
    omega
  · have := P.row.lo y hy
    omega
theorem back0 : backB tdL 39 (ordJ 0) (shufF (42 * ((0 : Nat) : Int)) row40) = true := backQ_ok tqL_is (ord_stn 0) (sh_stn 0 (by decide)) (by decide +kernel)
theorem back1 : backB tdL 39 (ordJ 1) (shufF (42 * ((1 : Nat) : Int)) row40) = true := backQ_ok tqL_is (ord_stn 1) (sh_stn 1 (by decide)) (by decide +kernel)
theorem back2 : backB tdL 39 (ordJ 2) (shufF (42 * ((2 : Nat) : Int)) row40) = true := backQ_ok tqL_is (ord_stn 2) (sh_stn 2 (by decide)) (by decide +kernel)
theorem back5 : backB tdS 39 (ordJ 5) (shufF (42 * ((5 : Nat) : Int)) row40) = true := backQ_ok tqS_is (ord_stn 5) (sh_stn 5 (by decide)) (by decide +kernel)
theorem back6 : backB tdS 39 (ordJ 6) (shufF (42 * ((6 : Nat) : Int)) row40) = true := backQ_ok tqS_is (ord_stn 6) (sh_stn 6 (by decide)) (by decide +kernel)
theorem back7 : backB tdS 39 (ordJ 7) (shufF (42 * ((7 : Nat) : Int)) row40) = true := backQ_ok tqS_is (ord_stn 7) (sh_stn 7 (by decide)) (by decide +kernel)
end K20

namespace K20
theorem back3 : backB tdL 400 (ordJ 3) (shufF (42 * ((3 : Nat) : Int)) row40) = true := backQ_ok tqL_is (ord_stn 3) (sh_stn 3 (by decide)) (by decide +kernel)
theorem back4 : backB tdL 400 (ordJ 4) (shufF (42 * ((4 : Nat) : Int)) row40) = true := backQ_ok tqL_is (ord_stn 4) (sh_stn 4 (by decide)) (by decide +kernel)
end K20

namespace K20
open PySem PySem.Spec PyProof.Rows L2 Vf Evl
theorem per_l (j : Nat) (hj : j < 5) : ∃ L, L ≤ 1000000 ∧ MR.Per (MR.tdF line40) (MR.pairsF ((40 : Nat) : Int) (ordJ j)) (MR.plOf (shufF (42 * (j : Int)) row40)) L := by
  have go : ∀ (N j : Nat), j < 5 → 0 < N → N ≤ 1000000 → backB tdL N (ordJ j) (shufF (42 * (j : Int)) row40) = true → ∃ L, L ≤ 1000000 ∧ MR.Per (MR.tdF line40) (MR.pairsF ((40 : Nat) : Int) (ordJ j)) (MR.plOf (shufF (42 * (j : Int)) row40)) L := by
    intro N j hj h0 hN h
    obtain ⟨L, hL, P⟩ := per_line (ord_stn j) (sh_stn j (by omega)) h0 h
    exact ⟨L, by omega, P⟩
  match j, hj with
  | 0, h => exact go 39 0 h (by decide) (by decide) back0
  | 1, h => exact go 39 1 h (by decide) (by decide) back1
  | 2, h => exact go 39 2 h (by decide) (by decide) back2
  | 3, h => exact go 400 3 h (by decide) (by decide) back3
  | 4, h => exact go 400 4 h (by decide) (by decide) back4
theorem per_s (j : Nat) (hj : j < 3) : ∃ L, L ≤ 1000000 ∧ MR.Per (MR.tdF star40) (MR.pairsF ((40 : Nat) : Int) (ordJ (5 + j))) (MR.plOf (shufF (42 * ((5 + j : Nat) : Int)) row40)) L := by
  have go : ∀ (N j : Nat), j < 8 → 0 < N → N ≤ 1000000 → backB tdS N (ordJ j) (shufF (42 * (j : Int)) row40) = true → ∃ L, L ≤ 1000000 ∧ MR.Per (MR.tdF star40) (MR.pairsF ((40 : Nat) : Int) (ordJ j)) (MR.plOf (shufF (42 * (j : Int)) row40)) L := by
    intro N j hj h0 hN h
    obtain ⟨L, hL, P⟩ := per_star (ord_stn j) (sh_stn j (by omega)) h0 h
    exact ⟨L, by omega, P⟩
  match j, hj with
  | 0, h => exact go 39 5 (by decide) (by decide) (by decide) back5
  | 1, h => exact go 39 6 (by decide) (by decide) (by decide) back6
  | 2, h => exact go 39 7 (by decide) (by decide) (by decide) back7
/-- a promise kept two ways -/
theorem fn_or {P : Program} {w : World} {K : PySem.W.Frag} {mg : Str → Option Value} {base : Heap} {k : Nat} {f : Addr} {fd : FuncData} {ps : List Str} {sp1 sp2 : Sp} (h1 : FnOk P w K mg base CX0 k f fd ps sp1) (h2 : FnOk P w K mg base CX0 k f fd ps sp2) :
    FnOk P w K mg base CX0 k f fd ps fun vs H Q E => sp1 vs H Q E ∨ sp2 vs H Q E :=
  ⟨fun vs H Q E h => h.elim (h1.len vs H Q E) (h2.len vs H Q E), fun A outer s H args us vs Q E a b c d h => h.elim (fun z => h1.run A outer s H args us vs Q E a b c d z) fun z => h2.run A outer s H args us vs Q E a b c d z⟩
theorem Ps.tm {H : Hp} {a : Addr} {as : List Addr} {ts : List (Int × Int)} (h : Ps H a as ts) : TM H a ts := by
  refine ⟨as, h.1, h.2.len, fun z => ?_, fun i b t x y => h.2.at_ x y⟩
  obtain ⟨i, hi, e⟩ := List.getElem_of_mem z
  have hl := h.2.len
  have q := h.2.at_ (List.getElem?_eq_getElem hi) (List.getElem?_eq_getElem (show i < ts.length by omega))
  unfold At2 at q
  rw [e, h.1] at q
  injection q with q
  injection q with q
  cases as with
  | nil => cases q
  | cons y as => cases q
section
variable {K : PySem.W.Frag} {σ : L2.St} {H : Hp} {te tl : TE}
theorem ed_lcX {cs : List Int} {j : Nat} {vs : List Nat} (h : EvL tl σ H (cs.map V.int)) (hl : cs.length ≤ 100) (hw : ∀ x, wipe ((wipe σ vs).set j (some x)) vs = wipe σ vs) (hj : ∀ x, ((wipe σ vs).set j (some x))[j]? = some (some x)) :
    EvD (tLc (iList K tl) (gName j) tYes (tCall sp_l_drawsX [] E0 (tCons (tVar j) tNil)) vs) σ H := by
  intro H0 e Q q
  refine h H0 e _ fun a H1 na e1 hx => ⟨a, rfl, ⟨_, .inl (.inl hx)⟩, fun Dl hD => ?_⟩
  refine lc_list (xs := cs.map V.int) (DW H1 Dl) ⟨hD, Ex.new hD, [], upd_same, rfl, (by simp), fun d hd => (by simp at hd)⟩
    (fun i H' _ p => .inl (.inl (p.2.1 _ _ hx))) (fun i x H' hi p => ⟨hw x, ?_⟩) fun H' p => ?_
  · obtain ⟨c, hc, rfl⟩ := map_at hi
    obtain ⟨p1, p2, ds, h1, h2, h3, h4⟩ := p
    have hlt := (List.getElem?_eq_some_iff.mp hc).1
    show tCall sp_l_drawsX [] E0 (tCons (tVar j) tNil) _ H' fun y H4 => ∃ acc, H4 Dl = some (.lst acc) ∧ acc.length < sizeLine ∧ DW H1 Dl (i + 1) (upd H4 Dl (.lst (acc ++ [y])))
    refine ⟨_, hj _, c, rfl, fun p H2 np e2 hp => ⟨ds.map V.ref, e2 _ _ h1, sz_lt (by rw [List.length_map]; omega), p1, Ex.mut (p2.trans e2) p1, ds ++ [p], ?_, ?_, ?_, ?_⟩⟩
    · rw [upd_same, List.map_append]
      rfl
    · rw [List.length_append, h2]
      rfl
    · intro z
      rcases List.mem_append.mp z with z | z
      · exact h3 z
      · rw [List.mem_singleton.mp z, np] at h1
        cases h1
    · intro d hd
      rcases List.mem_append.mp hd with z | z
      · obtain ⟨xx, bb, hh⟩ := h4 d z
        refine ⟨xx, bb, ?_⟩
        rw [upd_ne (show d ≠ Dl from fun y => h3 (y ▸ z))]
        exact e2 _ _ hh
      · rw [List.mem_singleton.mp z]
        refine ⟨cellX c, decide (10 ^ 18 ≤ c), ?_⟩
        rw [upd_ne (show p ≠ Dl from fun y => by rw [y, h1] at np; cases np)]
        exact hp
  · obtain ⟨p1, p2, ds, h1, h2, h3, h4⟩ := p
    exact q Dl ds H' (e1.trans p2) h1 h3 h4 (by rw [h2, List.length_map]; exact hl)
end
/-! ### lists of lists of whole numbers, written down -/
section
variable {K : PySem.W.Frag} {σ : L2.St} {H : Hp} {te ta tb tt ts to tm : TE} {tr : TA}
def At1 (H : Hp) (a : Addr) (l : List Int) : Prop := H a = some (.lst (l.map V.int))
def EaO (tr : TA) (σ : L2.St) (H : Hp) (ls : List (List Int)) : Prop := ∀ H1, Ex H H1 → ∀ Q : List V → Hp → Prop, (∀ (as : List Addr) H2, Ex H1 H2 → F2 (At1 H2) as ls → Q (as.map V.ref) H2) → tr σ H1 Q
theorem eo_nil' : EaO tNil σ H [] := fun H1 _ _ q => q [] H1 (Ex.refl H1) .nil
theorem eo_var {i : Nat} {a : Addr} {l : List Int} {ls : List (List Int)} (h : σ[i]? = some (some (.ref a))) (ha : At1 H a l) (k : EaO tr σ H ls) : EaO (tCons (tVar i) tr) σ H (l :: ls) := fun H1 e _ q =>
  ⟨_, h, k H1 e _ fun as H2 e2 hF => q (a :: as) H2 e2 (.cons (e2 _ _ (e _ _ ha)) hF)⟩
theorem eo_new {l : List Int} {ls : List (List Int)} (h : EvL te σ H (l.map V.int)) (k : EaO tr σ H ls) : EaO (tCons te tr) σ H (l :: ls) := fun H1 e _ q =>
  h H1 e _ fun p H2 np e2 hp => k H2 (e.trans e2) _ fun as H3 e3 hF => q (p :: as) H3 (e2.trans e3) (.cons (e3 _ _ hp) hF)
theorem el_cat {a b : List V} (h : EvL ta σ H a) (k : EvL tb σ H b) (hl : a.length + b.length ≤ 100000) : EvL (tOp rCat ta tb) σ H (a ++ b) := fun H1 e Q q =>
  h H1 e _ fun p H2 np e2 hp => k H2 (e.trans e2) _ fun p2 H3 np2 e3 hp2 => ⟨p, p2, _, _, rfl, rfl, e3 _ _ hp, hp2, sz_of hl, fun p3 np3 => q p3 _ (fresh_back (e2.trans e3) np3) ((e2.trans e3).trans (Ex.new np3)) upd_same⟩
theorem el_rev {i : Nat} {a : Addr} {xs : List V} (h : σ[i]? = some (some (.ref a))) (hx : H a = some (.lst xs)) : EvL (tRevL K (tVar i)) σ H xs.reverse := fun H1 e Q q =>
  ⟨_, h, a, xs, rfl, .inl (.inl (e _ _ hx)), fun p np => q p _ np (Ex.new np) upd_same⟩
theorem el_revN {xs : List V} (h : EvL te σ H xs) : EvL (tRevL K te) σ H xs.reverse := fun H1 e Q q =>
  h H1 e _ fun a H2 na e2 ha => ⟨a, xs, rfl, .inl (.inl ha), fun p np => q p _ (fresh_back e2 np) (e2.trans (Ex.new np)) upd_same⟩
/-- a list of whole numbers, new or not -/
def EvR (K : PySem.W.Frag) (te : TE) (σ : L2.St) (H : Hp) (l : List Int) : Prop := ∀ H1, Ex H H1 → ∀ Q : VK, (∀ a H2, Ex H1 H2 → SqL K H2 a (l.map V.int) → Q (.ref a) H2) → te σ H1 Q
theorem er_v {i : Nat} {a : Addr} {l : List Int} (h : σ[i]? = some (some (.ref a))) (ha : At1 H a l) : EvR K (tVar i) σ H l := fun H1 e _ q => ⟨_, h, q a H1 (Ex.refl H1) (.inl (.inl (e _ _ ha)))⟩
theorem er_l {l : List Int} (h : EvL te σ H (l.map V.int)) : EvR K te σ H l := fun H1 e _ q => h H1 e _ fun p H2 _ e2 hp => q p H2 e2 (.inl (.inl hp))
theorem er_after {tsl : List (Int × Int)} {st ord : List Int} {n : Nat} {m : Int} (hT : EvTs K tt σ H tsl) (hS : EvR K ts σ H st) (hO : EvR K to σ H ord) (hm : Ev tm σ H (.int m)) (N : netB (n : Int) tsl = true) (S : MR.Stn n st) (O : MR.Stn n ord) :
    EvR K (tCall (sp_after_rounds K) [] E0 (tCons (tC (.int (n : Int))) (tCons tt (tCons ts (tCons to (tCons tm tNil)))))) σ H (MR.stOf (roundsZ (MR.tdF tsl) n ord m (MR.plOf st))) := fun H1 e Q q =>
  hT H1 e _ fun a H2 e2 ha => hS H2 (e.trans e2) _ fun s H3 e3 hs => hO H3 ((e.trans e2).trans e3) _ fun o H4 e4 ho => hm H4 (((e.trans e2).trans e3).trans e4) _ fun H5 e5 =>
    ⟨a, s, o, tsl, st, ord, n, m, rfl, ha.mono ((e3.trans e4).trans e5), netB_ok N, ex_l (e4.trans e5) hs, S, ex_l e5 ho, O, fun p H6 np e6 hp => q p H6 ((((e2.trans e3).trans e4).trans e5).trans e6) (.inl (.inl hp))⟩
theorem er_after1 {tsl : List (Int × Int)} {st ord : List Int} {n : Nat} (hT : EvTs K tt σ H tsl) (hS : EvR K ts σ H st) (hO : EvR K to σ H ord) (N : netB (n : Int) tsl = true) (S : MR.Stn n st) (O : MR.Stn n ord) :
    EvR K (tCall (sp_after_rounds K) [.int 1] E0 (tCons (tC (.int (n : Int))) (tCons tt (tCons ts (tCons to tNil))))) σ H (MR.stOf (roundsZ (MR.tdF tsl) n ord 1 (MR.plOf st))) := fun H1 e Q q =>
  hT H1 e _ fun a H2 e2 ha => hS H2 (e.trans e2) _ fun s H3 e3 hs => hO H3 ((e.trans e2).trans e3) _ fun o H4 e4 ho =>
    ⟨a, s, o, tsl, st, ord, n, 1, rfl, ha.mono (e3.trans e4), netB_ok N, ex_l e4 hs, S, ho, O, fun p H6 np e6 hp => q p H6 (((e2.trans e3).trans e4).trans e6) (.inl (.inl hp))⟩
theorem er_called {tsl : List (Int × Int)} {st cs : List Int} {n : Nat} (hT : EvTs K tt σ H tsl) (hS : EvR K ts σ H st) (hO : EvR K to σ H cs) (N : netB (n : Int) tsl = true) (S : MR.Stn n st) (hc : ∀ x ∈ cs, 1 ≤ x ∧ x ≤ (n : Int)) (hl : cs.length ≤ 10000) :
    EvR K (tCall (sp_called K) [] E0 (tCons (tC (.int (n : Int))) (tCons tt (tCons ts (tCons to tNil))))) σ H (MR.stOf (MR.runP (MR.tdF tsl) (MR.plOf st) (MR.pairsF n cs))) := fun H1 e Q q =>
  hT H1 e _ fun a H2 e2 ha => hS H2 (e.trans e2) _ fun s H3 e3 hs => hO H3 ((e.trans e2).trans e3) _ fun o H4 e4 ho =>
    ⟨a, s, o, tsl, st, cs, n, rfl, ha.mono (e3.trans e4), netB_ok N, ex_l e4 hs, S, ho, hc, hl, fun p H6 np e6 hp => q p H6 (((e2.trans e3).trans e4).trans e6) (.inl (.inl hp))⟩
theorem ev_neR {a b : List Int} (h : EvR K ta σ H a) (k : EvR K tb σ H b) : Ev (tOp (rNeD K) ta tb) σ H (.bl (!decide (a = b))) := fun H1 e Q q =>
  h H1 e _ fun p H2 e2 hp => k H2 (e.trans e2) _ fun r H3 e3 hr => ne_ints (ex_l e3 hp) hr (q H3 (e2.trans e3))
theorem ev_eqR {a b : List Int} (h : EvR K ta σ H a) (k : EvR K tb σ H b) : Ev (tOp (rEqD K) ta tb) σ H (.bl (decide (a = b))) := fun H1 e Q q =>
  h H1 e _ fun p H2 e2 hp => k H2 (e.trans e2) _ fun r H3 e3 hr => eq_ints (ex_l e3 hp) hr (q H3 (e2.trans e3))
theorem er_is {a b : List Int} (h : EvR K te σ H a) (e : a = b) : EvR K te σ H b := by rw [← e]; exact h
theorem ev_neR' {a b : List Int} (h : EvR K ta σ H a) (k : EvR K tb σ H b) (e : a = b) : Ev (tOp (rNeD K) ta tb) σ H (.bl false) := ev_is (ev_neR h k) (by rw [decide_eq_true e]; rfl)
theorem ev_eqR' {a b : List Int} (h : EvR K ta σ H a) (k : EvR K tb σ H b) (e : a = b) : Ev (tOp (rEqD K) ta tb) σ H (.bl true) := ev_is (ev_eqR h k) (by rw [decide_eq_true e])
theorem el_is {xs ys : List V} (h : EvL te σ H xs) (e : xs = ys) : EvL te σ H ys := by rw [← e]; exact h
/-- for l in [..], the draws at d going on -/
theorem q_forO {tu tz : TS} {D : Ends} {j : Nat} {ls : List (List Int)} {d : Addr} {k : Int} (h : EaO tr σ H ls) (hl : ls.length ≤ 1000) (hd : Dr H d k) (Pv : Nat → L2.St → Hp → Prop) (h0 : ∀ H1, Ex H H1 → Pv 0 σ H1)
    (hs : ∀ i a l σ' H' (N : L2.St → Hp → Prop), Pv i σ' H' → ls[i]? = some l → At1 H' a l → (∀ σ2 H3, Pv (i + 1) σ2 H3 → ExA d H' H3 → N σ2 H3) → tu { D with nx := N, ct := N, bk := tz D } (σ'.set j (some (.ref a))) H')
    (he : ∀ σ' H', Pv ls.length σ' H' → tz D σ' H') : tSeq (tFor (iList K (tLst tr)) (gName j) tu) tz D σ H :=
  h H (Ex.refl H) _ fun as H1 e1 hF => ⟨sz_of (by rw [List.length_map, hF.len]; omega), fun p np => by
    have e2 : Ex H1 (upd H1 p (.lst (as.map V.ref))) := Ex.new np
    have hp : (upd H1 p (.lst (as.map V.ref))) p = some (.lst (as.map V.ref)) := upd_same
    have hd1 := (hd.on e1).on e2
    have npd : p ≠ d := fun z => by
      obtain ⟨x, b, hx⟩ := hd.on e1
      rw [← z, np] at hx
      cases hx
    refine ⟨p, rfl, ⟨_, .inl (.inl hp)⟩, for_list (xs := as.map V.ref) (D := { D with nx := tz D }) (fun i σ' H' => Pv i σ' H' ∧ ExA d (upd H1 p (.lst (as.map V.ref))) H') ⟨h0 _ (e1.trans e2), ExA.of (Ex.refl _)⟩ (fun i σ' H' _ z => .inl (.inl (z.2 _ _ npd hp))) (fun i x σ' H' hx z => ?_) fun σ' H' z => ?_⟩
    · obtain ⟨a, ha, rfl⟩ := map_at hx
      have hi : i < ls.length := by rw [← hF.len]; exact (List.getElem?_eq_some_iff.mp ha).1
      have hl := List.getElem?_eq_getElem hi
      have h1 := e2 _ _ (hF.at_ ha hl)
      exact hs i a _ σ' H' _ z.1 hl (z.2 _ _ (ne_draws h1 hd1) h1) fun σ2 H3 w e => ⟨w, z.2.trans e⟩
    · have z1 := z.1
      rw [List.length_map, hF.len] at z1
      exact he σ' H' z1⟩
end
end K20

namespace K20
open PySem PySem.Spec PyProof.Rows L2 Vf Evl
section
variable {P : Program} {w : World} {K : PySem.W.Frag} {mg : Str → Option Value} {base : Heap} {A : Ad}
def sp_law (K : PySem.W.Frag) : Sp := fun vs H Q _ => ∃ (a : Addr) (ns : List Int), vs = [.ref a] ∧ SqL K H a (ns.map V.int) ∧ ns.length ≤ 63 ∧ ∀ H2, Q (.bl true) H2
def sp_sh (K : PySem.W.Frag) : Sp := fun vs H Q E => sp_l_shuffled K vs H Q E ∨ sp_l_shuffled0 K vs H Q E
theorem ok_law (T : Txt K mg A) : FnG P w K mg base CX0 8 A.f_law A.d_law ["_law_script"] (sp_law K) := by
  have G_l_draws : FnOk P w K mg base CX0 1 A.f_l_draws A.d_l_draws ["_law_cell"] sp_l_drawsX := ok_l_drawsX T
  have G_l_order : FnOk P w K mg base CX0 3 A.f_l_order A.d_l_order ["_law_draws_here", "_law_most"] sp_l_order := ok_l_order T
  have G_l_net : FnOk P w K mg base CX0 3 A.f_l_net A.d_l_net ["_law_draws_here", "_law_figure"] sp_l_net := ok_l_net T
  have G_l_shuffled : FnOk P w K mg base CX0 2 A.f_l_shuffled A.d_l_shuffled ["_law_draws_here", "_law_things"] (sp_sh K) := fn_or (ok_l_shuffled T) (ok_l_shuffled0 T)
  have G_l_called_right : FnG P w K mg base CX0 7 A.f_l_called_right A.d_l_called_right ["_law_draws_here", "_law_figure", "_law_pairs", "_law_now"] sp_l_called_right := ok_l_called_right T
  have G_l_rounds_right : FnG P w K mg base CX0 7 A.f_l_rounds_right A.d_l_rounds_right ["_law_draws_here", "_law_figure", "_law_pairs", "_law_now", "_law_row"] sp_l_rounds_right := ok_l_rounds_right T
  have G_l_great_right : FnG P w K mg base CX0 7 A.f_l_great_right A.d_l_great_right ["_law_draws_here", "_law_figure", "_law_pairs", "_law_now", "_law_row"] sp_l_great_right := ok_l_great_right T
  have G_called : FnOk P w K mg base CX0 6 A.f_called A.d_called ["seats", "ties", "standing", "calls"] (sp_called K) := ok_called T
  have G_after_rounds : FnOk P w K mg base CX0 6 A.f_after_rounds A.d_after_rounds ["seats", "ties", "standing", "order", "many"] (sp_after_rounds K) := ok_after_rounds T
  obtain ⟨ds_ar, rd_after_rounds, hb_after_rounds⟩ := T.bd_after_rounds
  refine okG T.F_law sc_law (fun vs H Q E h => ?_) (fun cdv A' outer s H vs Q E hgd hr h => ?_)
  · obtain ⟨a, ns, rfl, _⟩ := h
    rfl
  · obtain ⟨a, ns, rfl, hS, hl, q⟩ := h
    refine ⟨_, (pss_cons (ps_for PassesOwn.never rfl (pi_listK (K := K) rfl (pe_lc (own := [("_law_cell", 9)]) rfl sc_law.nd (pi_listK (K := K) rfl (pe_op op_cat (pe_slice (sl_listK (K := K) rfl) (pv 0) po_none (po_some pe_int)) (pe_lst (pa_cons pe_int pa_nil)))) (blkOk_by (by kernel_rfl)) (fun _ _ _ _ _ => (pg_name (i := 9) sc_law.nd rfl (by first | exact .inl rfl | exact .inr rfl))) (fun _ _ _ _ _ => pts_nil) (fun _ _ _ _ _ => (pe_call G_l_draws (hr.mono (by decide)) (by rfl) T.g_l_draws T.F_l_draws.kp T.b_l_draws .nil pass0 (pa_cons (pv 9) pa_nil))))) (pg_name (i := 1) sc_law.nd rfl (by first | exact .inl rfl | exact .inr rfl)) (pss_one (ps_for PassesOwn.never rfl (pi_listK (K := K) rfl (pe_lst (pa_cons pe_int (pa_cons pe_int (pa_cons pe_int pa_nil))))) (pg_name (i := 2) sc_law.nd rfl (by first | exact .inl rfl | exact .inr rfl)) (pss_cons (ps_set (i := 3) sc_law.nd rfl (by first | exact .inl rfl | exact .inr rfl) (pe_call G_l_order (hr.mono (by decide)) (by rfl) T.g_l_order T.F_l_order.kp T.b_l_order .nil pass0 (pa_cons (pv 1) (pa_cons (pv 2) pa_nil))))
      (pss_cons (ps_set (i := 4) sc_law.nd rfl (by first | exact .inl rfl | exact .inr rfl) (pe_call G_l_net (hr.mono (by decide)) (by rfl) T.g_l_net T.F_l_net.kp T.b_l_net .nil pass0 (pa_cons (pv 1) (pa_cons (pe_callB (call_lenK (K := K) rfl) (by rfl) T.z_len PySem.boot_len (pa_cons (pv 3) pa_nil)) pa_nil))))
      (pss_cons (ps_set (i := 5) sc_law.nd rfl (by first | exact .inl rfl | exact .inr rfl) (pe_call G_l_shuffled (hr.mono (by decide)) (by rfl) T.g_l_shuffled T.F_l_shuffled.kp T.b_l_shuffled .nil pass0 (pa_cons (pv 1) (pa_cons (pv 3) pa_nil))))
      (pss_cons (ps_if (pt_not (pt_val (pe_callG G_l_called_right hgd (hr.mono (by decide)) (by rfl) T.g_l_called_right T.F_l_called_right.kp T.b_l_called_right (pa_cons (pv 1) (pa_cons (pe_callB (call_lenK (K := K) rfl) (by rfl) T.z_len PySem.boot_len (pa_cons (pv 3) pa_nil)) (pa_cons (pv 4) (pa_cons (pv 5) pa_nil))))))) (pss_one (ps_ret pe_bl)) pss_nil)
      (pss_cons (ps_if (pt_not (pt_val (pe_callG G_l_rounds_right hgd (hr.mono (by decide)) (by rfl) T.g_l_rounds_right T.F_l_rounds_right.kp T.b_l_rounds_right (pa_cons (pv 1) (pa_cons (pe_callB (call_lenK (K := K) rfl) (by rfl) T.z_len PySem.boot_len (pa_cons (pv 3) pa_nil)) (pa_cons (pv 4) (pa_cons (pv 5) (pa_cons (pv 3) pa_nil)))))))) (pss_one (ps_ret pe_bl)) pss_nil)
      (pss_one (ps_if (PW.pt (pw_and (pt_cmpR op_eq (pv 2) pe_int (nomark _)) (pw_and1 (pt_not (pt_val (pe_callG G_l_great_right hgd (hr.mono (by decide)) (by rfl) T.g_l_great_right T.F_l_great_right.kp T.b_l_great_right (pa_cons (pv 1) (pa_cons (pe_callB (call_lenK (K := K) rfl) (by rfl) T.z_len PySem.boot_len (pa_cons (pv 3) pa_nil)) (pa_cons (pv 4) (pa_cons (pv 5) (pa_cons (pv 3) pa_nil))))))))))) (pss_one (ps_ret pe_bl)) pss_nil))))))))))
      (pss_cons (ps_set (i := 1) sc_law.nd rfl (by first | exact .inl rfl | exact .inr rfl) (pe_call G_l_draws (hr.mono (by decide)) (by rfl) T.g_l_draws T.F_l_draws.kp T.b_l_draws .nil pass0 (pa_cons pe_int pa_nil)))
      (pss_cons (ps_set (i := 3) sc_law.nd rfl (by first | exact .inl rfl | exact .inr rfl) (pe_listRg rfl (by rfl) T.z_list (prg_2 (by rfl) T.z_range pe_int pe_int)))
      (pss_cons (ps_setLc (i := 6) (own := [("_law_seat", 10)]) rfl sc_law.nd rfl rfl (sw_true rfl rfl rfl (by decide +kernel)) (pi_range2 (by rfl) T.z_range (pa_cons pe_int (pa_cons pe_int pa_nil))) (blkOk_by (by kernel_rfl)) (fun _ _ _ _ _ => (pg_name (i := 10) sc_law.nd rfl (by first | exact .inl rfl | exact .inr rfl))) (fun _ _ _ _ _ => pts_nil) (fun _ _ _ _ _ => (pe_lst (pa_cons (pv 10) (pa_cons (pe_op op_add (pv 10) pe_int) pa_nil)))))
      (pss_cons (ps_for PassesOwn.never rfl (pi_listK (K := K) rfl (pe_lst (pa_cons (pv 3) (pa_cons (pe_op op_cat (pe_slice (sl_listK (K := K) rfl) (pv 3) (po_some pe_int) po_none) (pe_slice (sl_listK (K := K) rfl) (pv 3) po_none (po_some pe_int))) (pa_cons (pe_revK (K := K) rfl (pv 3)) (pa_cons (pe_op op_cat (pe_slice3 (K := K) rfl (pv 3) po_none po_none (po_some pe_int)) (pe_slice3 (K := K) rfl (pv 3) (po_some pe_int) po_none (po_some pe_int))) (pa_cons (pe_op op_cat (pe_slice (sl_listK (K := K) rfl) (pv 3) (po_some pe_int) po_none) (pe_revK (K := K) rfl (pe_slice (sl_listK (K := K) rfl) (pv 3) po_none (po_some pe_int)))) pa_nil))))))) (pg_name (i := 7) sc_law.nd rfl (by first | exact .inl rfl | exact .inr rfl)) (pss_one (ps_if (pt_not (pt_val (pe_callG G_l_great_right hgd (hr.mono (by decide)) (by rfl) T.g_l_great_right T.F_l_great_right.kp T.b_l_great_right (pa_cons (pv 1) (pa_cons pe_int (pa_cons (pv 6) (pa_cons (pe_call G_l_shuffled (hr.mono (by decide)) (by rfl) T.g_l_shuffled T.F_l_shuffled.kp T.b_l_shuffled .nil pass0 (pa_cons (pv 1) (pa_cons (pv 3) pa_nil))) (pa_cons (pv 7) pa_nil)))))))) (pss_one (ps_ret pe_bl)) pss_nil)))
      (pss_cons (ps_setLc (i := 8) (own := [("_law_seat", 10)]) rfl sc_law.nd rfl rfl (sw_true rfl rfl rfl (by decide +kernel)) (pi_range2 (by rfl) T.z_range (pa_cons pe_int (pa_cons pe_int pa_nil))) (blkOk_by (by kernel_rfl)) (fun _ _ _ _ _ => (pg_name (i := 10) sc_law.nd rfl (by first | exact .inl rfl | exact .inr rfl))) (fun _ _ _ _ _ => (pts_one (pt_cmpR op_ne (pv 10) pe_int (nomark _)))) (fun _ _ _ _ _ => (pe_lst (pa_cons pe_int (pa_cons (pv 10) pa_nil)))))
      (pss_cons (ps_for PassesOwn.never rfl (pi_listK (K := K) rfl (pe_lst (pa_cons (pv 3) (pa_cons (pe_revK (K := K) rfl (pv 3)) (pa_cons (pe_op op_cat (pe_slice (sl_listK (K := K) rfl) (pv 3) (po_some pe_int) po_none) (pe_slice (sl_listK (K := K) rfl) (pv 3) po_none (po_some pe_int))) pa_nil))))) (pg_name (i := 7) sc_law.nd rfl (by first | exact .inl rfl | exact .inr rfl)) (pss_one (ps_if (pt_not (pt_val (pe_callG G_l_great_right hgd (hr.mono (by decide)) (by rfl) T.g_l_great_right T.F_l_great_right.kp T.b_l_great_right (pa_cons (pv 1) (pa_cons pe_int (pa_cons (pv 8) (pa_cons (pe_call G_l_shuffled (hr.mono (by decide)) (by rfl) T.g_l_shuffled T.F_l_shuffled.kp T.b_l_shuffled .nil pass0 (pa_cons (pv 1) (pa_cons (pv 3) pa_nil))) (pa_cons (pv 7) pa_nil)))))))) (pss_one (ps_ret pe_bl)) pss_nil)))
      (pss_cons (ps_set (i := 5) sc_law.nd rfl (by first | exact .inl rfl | exact .inr rfl) (pe_lst (pa_cons pe_int (pa_cons pe_int (pa_cons pe_int (pa_cons pe_int pa_nil))))))
      (pss_cons (ps_if (PW.pt (pw_or (pt_cmpR (op_neD hr.units) (pe_call G_after_rounds (hr.mono (by decide)) (by rfl) T.g_after_rounds T.F_after_rounds.kp T.b_after_rounds .nil pass0 (pa_cons pe_int (pa_cons (pe_slice (sl_listK (K := K) rfl) (pv 6) po_none (po_some pe_int)) (pa_cons (pv 5) (pa_cons (pe_lst (pa_cons pe_int (pa_cons pe_int (pa_cons pe_int (pa_cons pe_int pa_nil))))) (pa_cons pe_int pa_nil)))))) (pe_lst (pa_cons pe_int (pa_cons pe_int (pa_cons pe_int (pa_cons pe_int pa_nil))))) (nomark _)) (pw_or1 (pt_cmpR (op_neD hr.units) (pe_call G_called (hr.mono (by decide)) (by rfl) T.g_called T.F_called.kp T.b_called .nil pass0 (pa_cons pe_int (pa_cons (pe_slice (sl_listK (K := K) rfl) (pv 6) po_none (po_some pe_int)) (pa_cons (pv 5) (pa_cons (pe_lst (pa_cons pe_int pa_nil)) pa_nil))))) (pe_lst (pa_cons pe_int (pa_cons pe_int (pa_cons pe_int (pa_cons pe_int pa_nil))))) (nomark _))))) (pss_one (ps_ret pe_bl)) pss_nil)
      (pss_cons (ps_if (pt_cmpR (op_neD hr.units) (pe_call G_after_rounds (hr.mono (by decide)) (by rfl) T.g_after_rounds T.F_after_rounds.kp T.b_after_rounds .nil pass0 (pa_cons pe_int (pa_cons (pe_slice (sl_listK (K := K) rfl) (pv 6) po_none (po_some pe_int)) (pa_cons (pv 5) (pa_cons (pe_lst (pa_cons pe_int (pa_cons pe_int (pa_cons pe_int (pa_cons pe_int pa_nil))))) (pa_cons (pe_op op_add (pe_op op_powW pe_int pe_int) pe_int) pa_nil)))))) (pe_lst (pa_cons pe_int (pa_cons pe_int (pa_cons pe_int (pa_cons pe_int pa_nil))))) (nomark _)) (pss_one (ps_ret pe_bl)) pss_nil)
      (pss_one (ps_ret (pe_and (pe_cmpR (op_eqD hr.units) (pe_call G_after_rounds (hr.mono (by decide)) (by rfl) T.g_after_rounds T.F_after_rounds.kp hb_after_rounds rd_after_rounds pass0 (pa_cons pe_int (pa_cons (pe_lst pa_nil) (pa_cons (pe_lst (pa_cons pe_int (pa_cons pe_int (pa_cons pe_int pa_nil)))) (pa_cons (pe_lst (pa_cons pe_int (pa_cons pe_int (pa_cons pe_int pa_nil)))) pa_nil))))) (pe_lst (pa_cons pe_int (pa_cons pe_int (pa_cons pe_int pa_nil)))) (nomark _)) (pe_one (pe_cmpR (op_eqD hr.units) (pe_call G_called (hr.mono (by decide)) (by rfl) T.g_called T.F_called.kp T.b_called .nil pass0 (pa_cons pe_int (pa_cons (pe_lst pa_nil) (pa_cons (pe_lst (pa_cons pe_int (pa_cons pe_int (pa_cons pe_int pa_nil)))) (pa_cons (pe_lst (pa_cons pe_int pa_nil)) pa_nil))))) (pe_lst (pa_cons pe_int (pa_cons pe_int (pa_cons pe_int pa_nil)))) (nomark _)))))))))))))))), ?_⟩
    -- for draws in [_law_draws(cell) for cell in script[:5] + [0]]
    have lead : EvL (tOp rCat (tSl (rSlL K) (tVar 0) tNoPart (tPart (tC (.int 5)))) (tLst (tCons (tC (.int 0)) tNil))) [some (.ref a), none, none, none, none, none, none, none, none, none, none] H ((ns.take 5 ++ [0]).map V.int) := by
      intro H1 e1 Q q
      refine el_sl (ev_var rfl) eo_none (eo_some ev_c) hS H1 e1 _ fun p H2 np e2 hp => ?_
      rw [show (5 : Int) = ((5 : Nat) : Int) from rfl, cut_to, ← List.map_take] at hp
      refine el_lst (ea_cons (x := .int 0) ev_c ea_nil) (by show 1 ≤ 100000; decide) H2 (Ex.refl H2) _ fun p2 H3 np2 e3 hp2 => ?_
      refine ⟨p, p2, _, _, rfl, rfl, e3 _ _ hp, hp2, ?_, fun p3 np3 => ?_⟩
      · rw [List.length_map, List.length_take]
        exact sz_of (by show min 5 ns.length + 1 ≤ 100000; omega)
      · exact q p3 _ (fresh_back (e2.trans e3) np3) ((e2.trans e3).trans (Ex.new np3)) (by rw [upd_same, List.map_append]; rfl)
    refine q_forD (K := K) (ed_lcX (K := K) (vs := [9]) (j := 9) lead (by rw [List.length_append, List.length_take]; show min 5 ns.length + 1 ≤ 100; omega) (fun x => rfl) (fun x => rfl)) (fun R ds i σ' H' => (∃ y1 y2 y3 y4 y5, σ' = [some (.ref a), y1, y2, y3, y4, y5, none, none, none, none, none]) ∧ H' R = some (.lst (ds.map V.ref)) ∧ R ∉ ds ∧ ds.length ≤ 100 ∧ Drs H' ds (100000 * i))
      (fun R ds H1 e1 hR nR hds dl => ⟨⟨none, none, none, none, none, rfl⟩, hR, nR, dl, fun d hd => ⟨0, hds d hd, by omega, by omega⟩⟩) (fun R ds i σ' H' z => z.2.1) ?_ ?_
    · rintro R ds i d σ' H2 hd ⟨⟨y1, y2, y3, y4, y5, rfl⟩, hR2, nR, dl, hD2⟩
      have dmem := List.mem_of_getElem? hd
      have il : i < 100 := by have := (List.getElem?_eq_some_iff.mp hd).1; omega
      have nRd : R ≠ d := fun z => nR (z ▸ dmem)
      -- for most in [40, 12, 6]
      refine s_forNL (xs := [.int 40, .int 12, .int 6]) (el_lst (ea_cons ev_c (ea_cons ev_c (ea_cons ev_c ea_nil))) (by show 3 ≤ 100000; decide)) (fun p j σ' H' => (∃ y2 y3 y4 y5, σ' = [some (.ref a), some (.ref d), y2, y3, y4, y5, none, none, none, none, none]) ∧
          H' p = some (.lst [.int 40, .int 12, .int 6]) ∧ p ≠ d ∧ H' R = some (.lst (ds.map V.ref)) ∧ Drs H' ds (100000 * i + 20000 * j)) ?_ (fun p j σ' H' _ z => .inl (.inl z.2.1)) ?_ ?_
      · intro p H3 np e3 hp
        refine ⟨⟨_, _, _, _, rfl⟩, hp, fun z => ?_, e3 _ _ hR2, hD2.on e3 (by omega)⟩
        obtain ⟨k, ⟨xx, bb, hh⟩, _⟩ := hD2 d dmem
        rw [← z, np] at hh
        cases hh
      · rintro p j x σ' H3 hx ⟨⟨y2, y3, y4, y5, rfl⟩, hp, npd, hR3, hD3⟩
        obtain ⟨m, rfl, hm1, hm2, hj⟩ : ∃ m : Int, x = .int m ∧ 6 ≤ m ∧ m ≤ 40 ∧ j < 3 := by
          match j, hx with
          | 0, hx => exact ⟨40, (Option.some.inj hx).symm, by decide, by decide, by decide⟩
          | 1, hx => exact ⟨12, (Option.some.inj hx).symm, by decide, by decide, by decide⟩
          | 2, hx => exact ⟨6, (Option.some.inj hx).symm, by decide, by decide, by decide⟩
        obtain ⟨k, hdk, k0, k1⟩ := hD3 d dmem
        -- row = order(draws, most)
        refine ⟨_, rfl, _, rfl, d, k, m, rfl, hdk, ⟨k0, by omega⟩, ⟨by omega, hm2⟩, fun n ord pr k4 H4 n3 nm O npr e4 hd4 hk4 hpr => ?_⟩
        have hl4 : ((ord.map V.int).length : Int) = (n : Int) := by rw [List.length_map, O.len]
        -- pairs = net(draws, len(row))
        refine ⟨_, rfl, _, rfl, pr, _, rfl, .inl (.inl (.inl hpr)), d, k4, (n : Int), by rw [hl4]; rfl, hd4, ⟨by omega, by omega⟩, ⟨by omega, by omega⟩, fun ts pa k5 H5 N npa e5 hd5 hk5 hT5 => ?_⟩
        have hpr5 := e5 _ _ (ne_draws hpr hd4) hpr
        -- now = shuffled(draws, row)
        refine ⟨_, rfl, _, rfl, .inl ⟨d, pr, k5, ord.map V.int, rfl, hd5, ⟨by omega, by rw [List.length_map, O.len]; omega⟩, .inl (.inl hpr5), by rw [List.length_map, O.len]; omega, fun H' _ x hx => ?_, fun ys ps H6 pm nps e6 hd6 hps => ?_⟩⟩
        · obtain ⟨z, _, rfl⟩ := List.mem_map.mp hx
          exact Sh.int z
        obtain ⟨st, rfl, pm2⟩ := map_perm pm
        have S := stn_perm O pm2
        have hpr6 := e6 _ _ (ne_draws hpr5 hd5) hpr5
        have hT6 := hT5.exA hd5 e6
        rw [List.length_map, O.len] at hd6
        obtain ⟨k6, hk6⟩ : ∃ k6, k5 + (n : Int) = k6 := ⟨_, rfl⟩
        rw [hk6] at hd6
        have eA6 := (e4.trans e5).trans e6
        -- if not called_right(..)
        refine ⟨_, rfl, _, rfl, pr, _, rfl, .inl (.inl (.inl hpr6)), _, rfl, _, rfl, d, pa, ps, ts, st, n, k6, by rw [hl4]; rfl, hd6, ⟨by omega, by omega⟩, hT6, N, hps, S, fun k7 H7 e7 hd7 hk7 => ⟨true, rfl, iteF ?_⟩⟩
        have hpr7 := e7 _ _ (ne_draws hpr6 hd6) hpr6
        have hps7 := e7 _ _ (ne_draws hps hd6) hps
        have hT7 := hT6.exA hd6 e7
        -- if not rounds_right(..)
        refine ⟨_, rfl, _, rfl, pr, _, rfl, .inl (.inl (.inl hpr7)), _, rfl, _, rfl, _, rfl, d, pa, ps, pr, ts, st, ord, n, k7, by rw [hl4]; rfl, hd7, ⟨by omega, by omega⟩, hT7, N, hps7, S, hpr7, O, fun k8 H8 e8 hd8 hk8 => ⟨true, rfl, iteF ?_⟩⟩
        have eA8 := (eA6.trans e7).trans e8
        have fin : ∀ (H9 : Hp) (k9 : Int), ExA d H8 H9 → Dr H9 d k9 → 0 ≤ k9 → k9 ≤ k8 + 10 → (∃ y2 y3 y4 y5, ([some (.ref a), some (.ref d), some (.int m), some (.ref pr), some (.ref pa), some (.ref ps), none, none, none, none, none] : L2.St) = [some (.ref a), some (.ref d), y2, y3, y4, y5, none, none, none, none, none]) ∧
          H9 p = some (.lst [.int 40, .int 12, .int 6]) ∧ p ≠ d ∧ H9 R = some (.lst (ds.map V.ref)) ∧ Drs H9 ds (100000 * i + 20000 * (j + 1 : Nat)) := by
          intro H9 k9 e9 hd9 h0 h1
          have eA9 := eA8.trans e9
          exact ⟨⟨_, _, _, _, rfl⟩, eA9 _ _ npd hp, npd, eA9 _ _ nRd hR3, hD3.step eA9 hd9 h0 (by omega) (by omega)⟩
        -- if most == 6 and not great_right(..)
        refine ⟨_, rfl, rfl, _, rfl, ?_⟩
        rw [dec_vi]
        by_cases c6 : m = 6
        · rw [decide_eq_true c6]
          have hpr8 := e8 _ _ (ne_draws hpr7 hd7) hpr7
          have hps8 := e8 _ _ (ne_draws hps7 hd7) hps7
          have hT8 := hT7.exA hd7 e8
          obtain ⟨x8, b8, hx8⟩ := id hd8
          obtain ⟨L, hL, per⟩ := MR.back_soon (td := MR.tdF ts) (n := n) (cs := MR.pairsF n ord) (MR.tdF_sym ts) (MR.pairs_ok (by omega) O.lo) S.plc
          have hL2 : L ≤ 1000000 := by
            refine Nat.le_trans hL (Nat.le_trans (Nat.pow_le_pow_left (show n + 1 ≤ 7 by omega) _) (Nat.le_trans (Nat.pow_le_pow_right (by decide) (show n + 1 ≤ 7 by omega)) (by decide)))
          refine iteT ⟨_, rfl, _, rfl, pr, _, rfl, .inl (.inl (.inl hpr8)), _, rfl, _, rfl, _, rfl, d, pa, ps, pr, ts, st, ord, n, L, x8, k8, b8, by rw [hl4]; rfl, hx8, ⟨by omega, by omega⟩, hT8, N, hps8, S, hpr8, O, per, hL2, fun H9 e9 hd9 => ⟨true, rfl, iteF ?_⟩⟩
          exact fin H9 _ e9 hd9.dr (by omega) (by omega)
        · rw [decide_eq_false c6]
          exact iteF (iteF (fin H8 _ (ExA.of (Ex.refl H8)) hd8 (by omega) (by omega)))
      · rintro p σ' H3 ⟨⟨y2, y3, y4, y5, rfl⟩, hp, npd, hR3, hD3⟩
        exact ⟨⟨_, _, _, _, _, rfl⟩, hR3, nR, dl, hD3.on (Ex.refl H3) (by show 100000 * (i : Int) + 20000 * 3 ≤ 100000 * ((i + 1 : Nat) : Int); omega)⟩
    · rintro R ds i σ' H2 ⟨⟨y1, y2, y3, y4, y5, rfl⟩, _⟩
      -- draws = _law_draws(0)
      refine ⟨0, rfl, fun d H3 nd e3 hd3 => ?_⟩
      have hd3 : DrX H3 d 0 0 false := by
        have e0 : cellX 0 = 0 := by decide +kernel
        have e1 : decide ((10 : Int) ^ 18 ≤ 0) = false := by decide +kernel
        rw [e0, e1] at hd3
        exact hd3
      -- row = list(range(1, 41))
      refine ⟨_, _, rfl, rfl, ⟨by decide, by decide, by decide, by decide, by decide⟩, fun r nr => ?_⟩
      have e4 : Ex H3 (upd H3 r (.lst (rgV 1 41))) := Ex.new nr
      have hr4 : At1 (upd H3 r (.lst (rgV 1 41))) r row40 := by
        show _ = _
        rw [upd_same]
        unfold rgV row40
        rw [List.map_map]
        rfl
      have hd4 := hd3.on e4
      generalize upd H3 r (.lst (rgV 1 41)) = H4 at e4 hr4 hd4
      -- line = [..]
      dsimp only [gName]
      show tSeq (tAsg _ (gName 6)) _ _ [some (.ref a), some (.ref d), y2, some (.ref r), y4, y5, none, none, none, none, none] H4
      refine q_asgP (i := 6) (ts := line40) (ep_of (ell_lcR2 (lo := 1) (n := 40) (fun _ => true) (fun i => [.int (1 + (i : Int)), .int (1 + (i : Int) + 1)]) (ea_cons ev_c (ea_cons ev_c ea_nil)) (by decide) (fun x => rfl) (fun _ _ _ _ => et_yes)
        (fun i H1 e1 hi _ => el_lst (ea_cons (ev_var rfl) (ea_cons (ev_op (ev_var rfl) ev_c rv_I0) ea_nil)) (by show 2 ≤ 100000; decide))) ?_) fun la las H5 nl e5 hPl => ?_
      · unfold line40
        rw [List.map_map]
        rfl
      have hr5 : At1 H5 r row40 := e5 _ _ hr4
      have hd5 := hd4.on e5
      have hT5 := hPl.tm
      have N40 : NetOk ((40 : Nat) : Int) line40 := netB_ok (by decide +kernel)
      have N40s : NetOk ((40 : Nat) : Int) star40 := netB_ok (by decide +kernel)
      have hrS : SqL K H5 r (row40.map V.int) := .inl (.inl hr5)
      -- for some in [..]
      refine q_forO (K := K) (d := d) (ls := [ordJ 0, ordJ 1, ordJ 2, ordJ 3, ordJ 4]) (eo_var rfl hr5 (eo_new (el_is (el_cat (el_sl (ev_var rfl) (eo_some ev_c) eo_none hrS) (el_sl (ev_var rfl) eo_none (eo_some ev_c) hrS) (by decide +kernel)) (by decide +kernel))
        (eo_new (el_is (el_rev (K := K) rfl hr5) (by decide +kernel)) (eo_new (el_is (el_cat (el_sl3 (K := K) (ev_var rfl) eo_none eo_none (eo_some ev_c) hrS (by decide)) (el_sl3 (K := K) (ev_var rfl) (eo_some ev_c) eo_none (eo_some ev_c) hrS (by decide)) (by decide +kernel)) (by decide +kernel))
        (eo_new (el_is (el_cat (el_sl (ev_var rfl) (eo_some ev_c) eo_none hrS) (el_revN (K := K) (el_sl (ev_var rfl) eo_none (eo_some ev_c) hrS)) (by decide +kernel)) (by decide +kernel)) eo_nil'))))) (by decide) hd5.dr
        (fun j σ' H' => (∃ y7, σ' = [some (.ref a), some (.ref d), y2, some (.ref r), y4, y5, some (.ref la), y7, none, none, none]) ∧ ExA d H5 H' ∧ DrX H' d 0 (42 * (j : Int)) false) (fun H1 e1 => ⟨⟨_, rfl⟩, ExA.of e1, by rw [show 42 * ((0 : Nat) : Int) = 0 by decide]; exact hd5.on e1⟩) ?_ ?_
      · rintro j o l σ' H' Nx ⟨⟨y7, rfl⟩, eA, hdx⟩ hj ho hN
        have jl : j < 5 := (List.getElem?_eq_some_iff.mp hj).1
        have el : l = ordJ j := by
          match j, jl, hj with
          | 0, _, hj => exact (Option.some.inj hj).symm
          | 1, _, hj => exact (Option.some.inj hj).symm
          | 2, _, hj => exact (Option.some.inj hj).symm
          | 3, _, hj => exact (Option.some.inj hj).symm
          | 4, _, hj => exact (Option.some.inj hj).symm
        subst el
        have hr' : At1 H' r row40 := eA _ _ (ne_draws hr5 hd5.dr) hr5
        have hT' := hT5.exA hd5.dr eA
        obtain ⟨L, hL, per⟩ := per_l j jl
        refine ⟨_, rfl, _, rfl, _, rfl, _, rfl, .inr ⟨d, r, _, row40, rfl, hdx, ⟨by omega, by show 42 * (j : Int) + ((40 : Nat) : Int) < 2 ^ 40; omega⟩, .inl (.inl hr'), by decide, fun p H7 np e7 hd7 hp7 => ?_⟩⟩
        refine ⟨_, rfl, d, la, p, o, line40, shufF (42 * (j : Int)) row40, ordJ j, 40, L, 0, 42 * (j : Int) + ((40 : Nat) : Int), false, rfl, hd7, ⟨by omega, by omega⟩, hT'.exA hdx.dr e7, N40, hp7, sh_stn j (by omega), e7 _ _ (ne_draws ho hdx.dr) ho, ord_stn j, per, hL, fun H8 e8 hd8 => ⟨true, rfl, iteF (hN _ _ ⟨⟨_, rfl⟩, (eA.trans e7).trans e8, ?_⟩ (e7.trans e8))⟩⟩
        have hd8 : DrX H8 d 0 (42 * (j : Int) + ((40 : Nat) : Int) + 2) false := hd8
        rw [show 42 * (j : Int) + ((40 : Nat) : Int) + 2 = 42 * ((j + 1 : Nat) : Int) by omega] at hd8
        exact hd8
      · rintro σ' H6 ⟨⟨y7, rfl⟩, eA6, hd6⟩
        have hr6 : At1 H6 r row40 := eA6 _ _ (ne_draws hr5 hd5.dr) hr5
        have hT6 := hT5.exA hd5.dr eA6
        -- star = [..]
        refine q_asgP (i := 8) (ts := star40) (ep_of (ell_lcR2 (lo := 1) (n := 41) (fun i => !decide (1 + (i : Int) = 17)) (fun i => [.int 17, .int (1 + (i : Int))]) (ea_cons ev_c (ea_cons ev_c ea_nil)) (by decide) (fun x => rfl) (fun i H1 e1 hi => ?_)
          (fun i H1 e1 hi _ => el_lst (ea_cons ev_c (ea_cons (ev_var rfl) ea_nil)) (by show 2 ≤ 100000; decide))) ?_) fun sa sas H7 ns7 e7 hPs => ?_
        · rw [← dec_vi]
          exact et_test (ev_op (ev_var rfl) ev_c (rv_ne rfl))
        · unfold star40
          rw [List.map_map]
          rfl
        have hr7 : At1 H7 r row40 := e7 _ _ hr6
        have hd7 := hd6.on e7
        have hT7 := hPs.tm
        have hTl := hT6.on e7
        have hrS7 : SqL K H7 r (row40.map V.int) := .inl (.inl hr7)
        refine q_forO (K := K) (d := d) (ls := [ordJ 5, ordJ 6, ordJ 7]) (eo_var rfl hr7 (eo_new (el_is (el_rev (K := K) rfl hr7) (by decide +kernel)) (eo_new (el_is (el_cat (el_sl (ev_var rfl) (eo_some ev_c) eo_none hrS7) (el_sl (ev_var rfl) eo_none (eo_some ev_c) hrS7) (by decide +kernel)) (by decide +kernel)) eo_nil'))) (by decide) hd7.dr
          (fun j σ' H' => (∃ y7, σ' = [some (.ref a), some (.ref d), y2, some (.ref r), y4, y5, some (.ref la), y7, some (.ref sa), none, none]) ∧ ExA d H7 H' ∧ DrX H' d 0 (42 * ((5 + j : Nat) : Int)) false) (fun H1 e1 => ⟨⟨_, rfl⟩, ExA.of e1, hd7.on e1⟩) ?_ ?_
        · rintro j o l σ' H' Nx ⟨⟨y7, rfl⟩, eA, hdx⟩ hj ho hN
          have jl : j < 3 := (List.getElem?_eq_some_iff.mp hj).1
          have el : l = ordJ (5 + j) := by
            match j, jl, hj with
            | 0, _, hj => exact (Option.some.inj hj).symm
            | 1, _, hj => exact (Option.some.inj hj).symm
            | 2, _, hj => exact (Option.some.inj hj).symm
          subst el
          have hr' : At1 H' r row40 := eA _ _ (ne_draws hr7 hd7.dr) hr7
          have hT' := hT7.exA hd7.dr eA
          obtain ⟨L, hL, per⟩ := per_s j jl
          refine ⟨_, rfl, _, rfl, _, rfl, _, rfl, .inr ⟨d, r, _, row40, rfl, hdx, ⟨by omega, by show 42 * ((5 + j : Nat) : Int) + ((40 : Nat) : Int) < 2 ^ 40; omega⟩, .inl (.inl hr'), by decide, fun p H8 np e8 hd8 hp8 => ?_⟩⟩
          refine ⟨_, rfl, d, sa, p, o, star40, shufF (42 * ((5 + j : Nat) : Int)) row40, ordJ (5 + j), 40, L, 0, 42 * ((5 + j : Nat) : Int) + ((40 : Nat) : Int), false, rfl, hd8, ⟨by omega, by omega⟩, hT'.exA hdx.dr e8, N40s, hp8, sh_stn (5 + j) (by omega), e8 _ _ (ne_draws ho hdx.dr) ho, ord_stn (5 + j), per, hL, fun H9 e9 hd9 => ⟨true, rfl, iteF (hN _ _ ⟨⟨_, rfl⟩, (eA.trans e8).trans e9, ?_⟩ (e8.trans e9))⟩⟩
          have hd9 : DrX H9 d 0 (42 * ((5 + j : Nat) : Int) + ((40 : Nat) : Int) + 2) false := hd9
          rw [show 42 * ((5 + j : Nat) : Int) + ((40 : Nat) : Int) + 2 = 42 * ((5 + (j + 1) : Nat) : Int) by omega] at hd9
          exact hd9
        · rintro σ' H8 ⟨⟨y7, rfl⟩, eA8, hd8⟩
          obtain ⟨lbs, hPl8, _⟩ := (hTl.exA hd7.dr eA8).ps
          -- now = [1, 2, 3, 4]
          refine q_asgL (i := 5) (xs := [1, 2, 3, 4].map V.int) (el_lst (ea_cons ev_c (ea_cons ev_c (ea_cons ev_c (ea_cons ev_c ea_nil)))) (by show 4 ≤ 100000; decide)) fun nw H9 nnw e9 hnw => ?_
          have hnw : At1 H9 nw [1, 2, 3, 4] := hnw
          have hPl9 := hPl8.on e9
          have S4 : MR.Stn 4 [1, 2, 3, 4] := ⟨rfl, by decide, by decide⟩
          have O4 : MR.Stn 4 [1, 3, 2, 4] := ⟨rfl, by decide, by decide⟩
          have S3 : MR.Stn 3 [1, 2, 3] := ⟨rfl, by decide, by decide⟩
          have l4 : ∀ {w x y z : Int} {H' : Hp} {σ' : L2.St}, EvL (tLst (tCons (tC (.int w)) (tCons (tC (.int x)) (tCons (tC (.int y)) (tCons (tC (.int z)) tNil))))) σ' H' ([w, x, y, z].map V.int) := el_lst (ea_cons ev_c (ea_cons ev_c (ea_cons ev_c (ea_cons ev_c ea_nil)))) (by show 4 ≤ 100000; decide)
          have l3 : ∀ {x y z : Int} {H' : Hp} {σ' : L2.St}, EvL (tLst (tCons (tC (.int x)) (tCons (tC (.int y)) (tCons (tC (.int z)) tNil)))) σ' H' ([x, y, z].map V.int) := el_lst (ea_cons ev_c (ea_cons ev_c (ea_cons ev_c ea_nil))) (by show 3 ≤ 100000; decide)
          have l1 : ∀ {x : Int} {H' : Hp} {σ' : L2.St}, EvL (tLst (tCons (tC (.int x)) tNil)) σ' H' ([x].map V.int) := el_lst (ea_cons ev_c ea_nil) (by show 1 ≤ 100000; decide)
          refine q_when (b := false) (et_or (a := false) (b := false) (et_test (ev_neR' (K := K) (er_after (n := 4) (et_cut (n := 3) rfl hPl9) (er_v rfl hnw) (er_l l4) ev_c (by decide +kernel) S4 O4) (er_l l4) (by decide +kernel))) fun _ =>
            et_test (ev_neR' (K := K) (er_called (n := 4) (et_cut (n := 3) rfl hPl9) (er_v rfl hnw) (er_l l1) (by decide +kernel) S4 (by decide) (by decide)) (er_l l4) (by decide +kernel))) (fun z => nomatch z) fun _ H10 e10 => ?_
          have big : MR.stOf (roundsZ (MR.tdF (line40.take 3)) ((4 : Nat) : Int) [1, 3, 2, 4] ((10 : Int) ^ (30 : Int).toNat + 2) (MR.plOf [1, 2, 3, 4])) = [2, 1, 4, 3] := by
            have h4 : MR.it (MR.roundP (MR.tdF (line40.take 3)) (MR.pairsF ((4 : Nat) : Int) [1, 3, 2, 4])) 4 (MR.plOf [1, 2, 3, 4]) = MR.plOf [1, 2, 3, 4] := by decide +kernel
            have hk : ((10 : Int) ^ (30 : Int).toNat + 2).toNat % 4 = 2 := by decide +kernel
            unfold roundsZ
            rw [if_pos (by decide +kernel), ← MR.it_mod _ h4, hk]
            decide +kernel
          have hnw10 : At1 H10 nw [1, 2, 3, 4] := e10 _ _ hnw
          refine q_when (b := false) (et_test (ev_neR' (K := K) (er_after (n := 4) (et_cut (n := 3) rfl (hPl9.on e10)) (er_v rfl hnw10) (er_l l4) (ev_op (ev_op ev_c ev_c (rv_I ⟨by decide, by decide +kernel⟩)) ev_c rv_I0) (by decide +kernel) S4 O4) (er_l l4) big)) (fun z => nomatch z) fun _ H11 e11 => ?_
          refine s_ret (v := .bl true) ?_ fun H12 e12 => q H12
          exact ev_andV (a := true) (b := true) (ev_eqR' (K := K) (er_after1 (n := 3) (EvP.t (ep_lst ep_nil (by decide))) (er_l l3) (er_l l3) (by decide +kernel) S3 S3) (er_l l3) (by decide +kernel)) fun _ =>
            ev_eqR' (K := K) (er_called (n := 3) (EvP.t (ep_lst ep_nil (by decide))) (er_l l3) (er_l l1) (by decide +kernel) S3 (by decide) (by decide)) (er_l l3) (by decide +kernel)
theorem all_mk {P : Program} {w : World} {K : PySem.W.Frag} {h : Heap} {mg : Str → Option Value} {fa : Addr} (X : K.In h) (G : h.Ns mainGlobals mg) (hfa : mg "law" = some (.ref fa))
    {f_is_whole : Addr} {od_is_whole an_is_whole : Option Addr} {sl_is_whole : Array (Option Value)} {oc_is_whole kV_is_whole dc_is_whole pm_is_whole cd_is_whole ct_is_whole : Value}
    (a_is_whole : PySem.W.nsIn K mainGlobals "is_whole" = some (some (.ref f_is_whole)))
    (l_is_whole : K.lookup f_is_whole = some ⟨oc_is_whole, od_is_whole, .func (PySem.W.fnOf "is_whole" "is_whole" (defArgs s_is_whole) (defBody s_is_whole) (defScope s_is_whole) .none kV_is_whole dc_is_whole pm_is_whole an_is_whole cd_is_whole ct_is_whole), sl_is_whole⟩)
    (c_is_whole : PySem.W.codeIn K cd_is_whole "is_whole" = true) (k_is_whole : PySem.W.keepIn K (.ref f_is_whole) = true)
    {f_is_from_one : Addr} {od_is_from_one an_is_from_one : Option Addr} {sl_is_from_one : Array (Option Value)} {oc_is_from_one kV_is_from_one dc_is_from_one pm_is_from_one cd_is_from_one ct_is_from_one : Value}
    (a_is_from_one : PySem.W.nsIn K mainGlobals "is_from_one" = some (some (.ref f_is_from_one)))
    (l_is_from_one : K.lookup f_is_from_one = some ⟨oc_is_from_one, od_is_from_one, .func (PySem.W.fnOf "is_from_one" "is_from_one" (defArgs s_is_from_one) (defBody s_is_from_one) (defScope s_is_from_one) .none kV_is_from_one dc_is_from_one pm_is_from_one an_is_from_one cd_is_from_one ct_is_from_one), sl_is_from_one⟩)
    (c_is_from_one : PySem.W.codeIn K cd_is_from_one "is_from_one" = true) (k_is_from_one : PySem.W.keepIn K (.ref f_is_from_one) = true)
    {f_first_wrong : Addr} {od_first_wrong an_first_wrong : Option Addr} {sl_first_wrong : Array (Option Value)} {oc_first_wrong kV_first_wrong dc_first_wrong pm_first_wrong cd_first_wrong ct_first_wrong : Value}
    (a_first_wrong : PySem.W.nsIn K mainGlobals "first_wrong" = some (some (.ref f_first_wrong)))
    (l_first_wrong : K.lookup f_first_wrong = some ⟨oc_first_wrong, od_first_wrong, .func (PySem.W.fnOf "first_wrong" "first_wrong" (defArgs s_first_wrong) (defBody s_first_wrong) (defScope s_first_wrong) .none kV_first_wrong dc_first_wrong pm_first_wrong an_first_wrong cd_first_wrong ct_first_wrong), sl_first_wrong⟩)
    (c_first_wrong : PySem.W.codeIn K cd_first_wrong "first_wrong" = true) (k_first_wrong : PySem.W.keepIn K (.ref f_first_wrong) = true)
    {f_check_count : Addr} {od_check_count an_check_count : Option Addr} {sl_check_count : Array (Option Value)} {oc_check_count kV_check_count dc_check_count pm_check_count cd_check_count ct_check_count : Value}
    (a_check_count : PySem.W.nsIn K mainGlobals "check_count" = some (some (.ref f_check_count)))
    (l_check_count : K.lookup f_check_count = some ⟨oc_check_count, od_check_count, .func (PySem.W.fnOf "check_count" "check_count" (defArgs s_check_count) (defBody s_check_count) (defScope s_check_count) .none kV_check_count dc_check_count pm_check_count an_check_count cd_check_count ct_check_count), sl_check_count⟩)
    (c_check_count : PySem.W.codeIn K cd_check_count "check_count" = true) (k_check_count : PySem.W.keepIn K (.ref f_check_count) = true)
    {f_is_tie : Addr} {od_is_tie an_is_tie : Option Addr} {sl_is_tie : Array (Option Value)} {oc_is_tie kV_is_tie dc_is_tie pm_is_tie cd_is_tie ct_is_tie : Value}
    (a_is_tie : PySem.W.nsIn K mainGlobals "is_tie" = some (some (.ref f_is_tie)))
    (l_is_tie : K.lookup f_is_tie = some ⟨oc_is_tie, od_is_tie, .func (PySem.W.fnOf "is_tie" "is_tie" (defArgs s_is_tie) (defBody s_is_tie) (defScope s_is_tie) .none kV_is_tie dc_is_tie pm_is_tie an_is_tie cd_is_tie ct_is_tie), sl_is_tie⟩)
    (c_is_tie : PySem.W.codeIn K cd_is_tie "is_tie" = true) (k_is_tie : PySem.W.keepIn K (.ref f_is_tie) = true)
    {f_check_ties : Addr} {od_check_ties an_check_ties : Option Addr} {sl_check_ties : Array (Option Value)} {oc_check_ties kV_check_ties dc_check_ties pm_check_ties cd_check_ties ct_check_ties : Value}
    (a_check_ties : PySem.W.nsIn K mainGlobals "check_ties" = some (some (.ref f_check_ties)))
    (l_check_ties : K.lookup f_check_ties = some ⟨oc_check_ties, od_check_ties, .func (PySem.W.fnOf "check_ties" "check_ties" (defArgs s_check_ties) (defBody s_check_ties) (defScope s_check_ties) .none kV_check_ties dc_check_ties pm_check_ties an_check_ties cd_check_ties ct_check_ties), sl_check_ties⟩)
    (c_check_ties : PySem.W.codeIn K cd_check_ties "check_ties" = true) (k_check_ties : PySem.W.keepIn K (.ref f_check_ties) = true)
    {f_check_net : Addr} {od_check_net an_check_net : Option Addr} {sl_check_net : Array (Option Value)} {oc_check_net kV_check_net dc_check_net pm_check_net cd_check_net ct_check_net : Value}
    (a_check_net : PySem.W.nsIn K mainGlobals "check_net" = some (some (.ref f_check_net)))
    (l_check_net : K.lookup f_check_net = some ⟨oc_check_net, od_check_net, .func (PySem.W.fnOf "check_net" "check_net" (defArgs s_check_net) (defBody s_check_net) (defScope s_check_net) .none kV_check_net dc_check_net pm_check_net an_check_net cd_check_net ct_check_net), sl_check_net⟩)
    (c_check_net : PySem.W.codeIn K cd_check_net "check_net" = true) (k_check_net : PySem.W.keepIn K (.ref f_check_net) = true)
    {f_check_standing : Addr} {od_check_standing an_check_standing : Option Addr} {sl_check_standing : Array (Option Value)} {oc_check_standing kV_check_standing dc_check_standing pm_check_standing cd_check_standing ct_check_standing : Value}
    (a_check_standing : PySem.W.nsIn K mainGlobals "check_standing" = some (some (.ref f_check_standing)))
    (l_check_standing : K.lookup f_check_standing = some ⟨oc_check_standing, od_check_standing, .func (PySem.W.fnOf "check_standing" "check_standing" (defArgs s_check_standing) (defBody s_check_standing) (defScope s_check_standing) .none kV_check_standing dc_check_standing pm_check_standing an_check_standing cd_check_standing ct_check_standing), sl_check_standing⟩)
    (c_check_standing : PySem.W.codeIn K cd_check_standing "check_standing" = true) (k_check_standing : PySem.W.keepIn K (.ref f_check_standing) = true)
    {f_check_order_of : Addr} {od_check_order_of an_check_order_of : Option Addr} {sl_check_order_of : Array (Option Value)} {oc_check_order_of kV_check_order_of dc_check_order_of pm_check_order_of cd_check_order_of ct_check_order_of : Value}
    (a_check_order_of : PySem.W.nsIn K mainGlobals "check_order_of" = some (some (.ref f_check_order_of)))
    (l_check_order_of : K.lookup f_check_order_of = some ⟨oc_check_order_of, od_check_order_of, .func (PySem.W.fnOf "check_order_of" "check_order_of" (defArgs s_check_order_of) (defBody s_check_order_of) (defScope s_check_order_of) .none kV_check_order_of dc_check_order_of pm_check_order_of an_check_order_of cd_check_order_of ct_check_order_of), sl_check_order_of⟩)
    (c_check_order_of : PySem.W.codeIn K cd_check_order_of "check_order_of" = true) (k_check_order_of : PySem.W.keepIn K (.ref f_check_order_of) = true)
    {f_check_calls : Addr} {od_check_calls an_check_calls : Option Addr} {sl_check_calls : Array (Option Value)} {oc_check_calls kV_check_calls dc_check_calls pm_check_calls cd_check_calls ct_check_calls : Value}
    (a_check_calls : PySem.W.nsIn K mainGlobals "check_calls" = some (some (.ref f_check_calls)))
    (l_check_calls : K.lookup f_check_calls = some ⟨oc_check_calls, od_check_calls, .func (PySem.W.fnOf "check_calls" "check_calls" (defArgs s_check_calls) (defBody s_check_calls) (defScope s_check_calls) .none kV_check_calls dc_check_calls pm_check_calls an_check_calls cd_check_calls ct_check_calls), sl_check_calls⟩)
    (c_check_calls : PySem.W.codeIn K cd_check_calls "check_calls" = true) (k_check_calls : PySem.W.keepIn K (.ref f_check_calls) = true)
    {f_check_many : Addr} {od_check_many an_check_many : Option Addr} {sl_check_many : Array (Option Value)} {oc_check_many kV_check_many dc_check_many pm_check_many cd_check_many ct_check_many : Value}
    (a_check_many : PySem.W.nsIn K mainGlobals "check_many" = some (some (.ref f_check_many)))
    (l_check_many : K.lookup f_check_many = some ⟨oc_check_many, od_check_many, .func (PySem.W.fnOf "check_many" "check_many" (defArgs s_check_many) (defBody s_check_many) (defScope s_check_many) .none kV_check_many dc_check_many pm_check_many an_check_many cd_check_many ct_check_many), sl_check_many⟩)
    (c_check_many : PySem.W.codeIn K cd_check_many "check_many" = true) (k_check_many : PySem.W.keepIn K (.ref f_check_many) = true)
    {f_next_call : Addr} {od_next_call an_next_call : Option Addr} {sl_next_call : Array (Option Value)} {oc_next_call kV_next_call dc_next_call pm_next_call cd_next_call ct_next_call : Value}
    (a_next_call : PySem.W.nsIn K mainGlobals "next_call" = some (some (.ref f_next_call)))
    (l_next_call : K.lookup f_next_call = some ⟨oc_next_call, od_next_call, .func (PySem.W.fnOf "next_call" "next_call" (defArgs s_next_call) (defBody s_next_call) (defScope s_next_call) .none kV_next_call dc_next_call pm_next_call an_next_call cd_next_call ct_next_call), sl_next_call⟩)
    (c_next_call : PySem.W.codeIn K cd_next_call "next_call" = true) (k_next_call : PySem.W.keepIn K (.ref f_next_call) = true)
    {f_places_of : Addr} {od_places_of an_places_of : Option Addr} {sl_places_of : Array (Option Value)} {oc_places_of kV_places_of dc_places_of pm_places_of cd_places_of ct_places_of : Value}
    (a_places_of : PySem.W.nsIn K mainGlobals "places_of" = some (some (.ref f_places_of)))
    (l_places_of : K.lookup f_places_of = some ⟨oc_places_of, od_places_of, .func (PySem.W.fnOf "places_of" "places_of" (defArgs s_places_of) (defBody s_places_of) (defScope s_places_of) .none kV_places_of dc_places_of pm_places_of an_places_of cd_places_of ct_places_of), sl_places_of⟩)
    (c_places_of : PySem.W.codeIn K cd_places_of "places_of" = true) (k_places_of : PySem.W.keepIn K (.ref f_places_of) = true)
    {f_standing_of : Addr} {od_standing_of an_standing_of : Option Addr} {sl_standing_of : Array (Option Value)} {oc_standing_of kV_standing_of dc_standing_of pm_standing_of cd_standing_of ct_standing_of : Value}
    (a_standing_of : PySem.W.nsIn K mainGlobals "standing_of" = some (some (.ref f_standing_of)))
    (l_standing_of : K.lookup f_standing_of = some ⟨oc_standing_of, od_standing_of, .func (PySem.W.fnOf "standing_of" "standing_of" (defArgs s_standing_of) (defBody s_standing_of) (defScope s_standing_of) .none kV_standing_of dc_standing_of pm_standing_of an_standing_of cd_standing_of ct_standing_of), sl_standing_of⟩)
    (c_standing_of : PySem.W.codeIn K cd_standing_of "standing_of" = true) (k_standing_of : PySem.W.keepIn K (.ref f_standing_of) = true)
    {f_turned_about : Addr} {od_turned_about an_turned_about : Option Addr} {sl_turned_about : Array (Option Value)} {oc_turned_about kV_turned_about dc_turned_about pm_turned_about cd_turned_about ct_turned_about : Value}
    (a_turned_about : PySem.W.nsIn K mainGlobals "turned_about" = some (some (.ref f_turned_about)))
    (l_turned_about : K.lookup f_turned_about = some ⟨oc_turned_about, od_turned_about, .func (PySem.W.fnOf "turned_about" "turned_about" (defArgs s_turned_about) (defBody s_turned_about) (defScope s_turned_about) .none kV_turned_about dc_turned_about pm_turned_about an_turned_about cd_turned_about ct_turned_about), sl_turned_about⟩)
    (c_turned_about : PySem.W.codeIn K cd_turned_about "turned_about" = true) (k_turned_about : PySem.W.keepIn K (.ref f_turned_about) = true)
    {f_tied_seats : Addr} {od_tied_seats an_tied_seats : Option Addr} {sl_tied_seats : Array (Option Value)} {oc_tied_seats kV_tied_seats dc_tied_seats pm_tied_seats cd_tied_seats ct_tied_seats : Value}
    (a_tied_seats : PySem.W.nsIn K mainGlobals "tied_seats" = some (some (.ref f_tied_seats)))
    (l_tied_seats : K.lookup f_tied_seats = some ⟨oc_tied_seats, od_tied_seats, .func (PySem.W.fnOf "tied_seats" "tied_seats" (defArgs s_tied_seats) (defBody s_tied_seats) (defScope s_tied_seats) .none kV_tied_seats dc_tied_seats pm_tied_seats an_tied_seats cd_tied_seats ct_tied_seats), sl_tied_seats⟩)
    (c_tied_seats : PySem.W.codeIn K cd_tied_seats "tied_seats" = true) (k_tied_seats : PySem.W.keepIn K (.ref f_tied_seats) = true)
    {f_people_called : Addr} {od_people_called an_people_called : Option Addr} {sl_people_called : Array (Option Value)} {oc_people_called kV_people_called dc_people_called pm_people_called cd_people_called ct_people_called : Value}
    (a_people_called : PySem.W.nsIn K mainGlobals "people_called" = some (some (.ref f_people_called)))
    (l_people_called : K.lookup f_people_called = some ⟨oc_people_called, od_people_called, .func (PySem.W.fnOf "people_called" "people_called" (defArgs s_people_called) (defBody s_people_called) (defScope s_people_called) .none kV_people_called dc_people_called pm_people_called an_people_called cd_people_called ct_people_called), sl_people_called⟩)
    (c_people_called : PySem.W.codeIn K cd_people_called "people_called" = true) (k_people_called : PySem.W.keepIn K (.ref f_people_called) = true)
    {f_places_after : Addr} {od_places_after an_places_after : Option Addr} {sl_places_after : Array (Option Value)} {oc_places_after kV_places_after dc_places_after pm_places_after cd_places_after ct_places_after : Value}
    (a_places_after : PySem.W.nsIn K mainGlobals "places_after" = some (some (.ref f_places_after)))
    (l_places_after : K.lookup f_places_after = some ⟨oc_places_after, od_places_after, .func (PySem.W.fnOf "places_after" "places_after" (defArgs s_places_after) (defBody s_places_after) (defScope s_places_after) .none kV_places_after dc_places_after pm_places_after an_places_after cd_places_after ct_places_after), sl_places_after⟩)
    (c_places_after : PySem.W.codeIn K cd_places_after "places_after" = true) (k_places_after : PySem.W.keepIn K (.ref f_places_after) = true)
    {f_called : Addr} {od_called an_called : Option Addr} {sl_called : Array (Option Value)} {oc_called kV_called dc_called pm_called cd_called ct_called : Value}
    (a_called : PySem.W.nsIn K mainGlobals "called" = some (some (.ref f_called)))
    (l_called : K.lookup f_called = some ⟨oc_called, od_called, .func (PySem.W.fnOf "called" "called" (defArgs s_called) (defBody s_called) (defScope s_called) .none kV_called dc_called pm_called an_called cd_called ct_called), sl_called⟩)
    (c_called : PySem.W.codeIn K cd_called "called" = true) (k_called : PySem.W.keepIn K (.ref f_called) = true)
    {f_after_rounds : Addr} {od_after_rounds an_after_rounds : Option Addr} {sl_after_rounds : Array (Option Value)} {oc_after_rounds kV_after_rounds dc_after_rounds pm_after_rounds cd_after_rounds ct_after_rounds : Value}
    (a_after_rounds : PySem.W.nsIn K mainGlobals "after_rounds" = some (some (.ref f_after_rounds)))
    {D_after_rounds : Addr} {Dc_after_rounds : Value} {Dd_after_rounds : Option Addr} {Dn_after_rounds : Nat} {Dt_after_rounds : Tok} {Ds_after_rounds : Array (Option Value)} (y_after_rounds : K.lookup D_after_rounds = some ⟨Dc_after_rounds, Dd_after_rounds, .seq #[.int 1 Dt_after_rounds] Dn_after_rounds, Ds_after_rounds⟩)
    (l_after_rounds : K.lookup f_after_rounds = some ⟨oc_after_rounds, od_after_rounds, .func (PySem.W.fnOf "after_rounds" "after_rounds" (defArgs s_after_rounds) (defBody s_after_rounds) (defScope s_after_rounds) (.ref D_after_rounds) kV_after_rounds dc_after_rounds pm_after_rounds an_after_rounds cd_after_rounds ct_after_rounds), sl_after_rounds⟩)
    (c_after_rounds : PySem.W.codeIn K cd_after_rounds "after_rounds" = true) (k_after_rounds : PySem.W.keepIn K (.ref f_after_rounds) = true)
    {f_places_after_rounds : Addr} {od_places_after_rounds an_places_after_rounds : Option Addr} {sl_places_after_rounds : Array (Option Value)} {oc_places_after_rounds kV_places_after_rounds dc_places_after_rounds pm_places_after_rounds cd_places_after_rounds ct_places_after_rounds : Value}
    (a_places_after_rounds : PySem.W.nsIn K mainGlobals "places_after_rounds" = some (some (.ref f_places_after_rounds)))
    (l_places_after_rounds : K.lookup f_places_after_rounds = some ⟨oc_places_after_rounds, od_places_after_rounds, .func (PySem.W.fnOf "places_after_rounds" "places_after_rounds" (defArgs s_places_after_rounds) (defBody s_places_after_rounds) (defScope s_places_after_rounds) .none kV_places_after_rounds dc_places_after_rounds pm_places_after_rounds an_places_after_rounds cd_places_after_rounds ct_places_after_rounds), sl_places_after_rounds⟩)
    (c_places_after_rounds : PySem.W.codeIn K cd_places_after_rounds "places_after_rounds" = true) (k_places_after_rounds : PySem.W.keepIn K (.ref f_places_after_rounds) = true)
    {f_l_draws : Addr} {od_l_draws an_l_draws : Option Addr} {sl_l_draws : Array (Option Value)} {oc_l_draws kV_l_draws dc_l_draws pm_l_draws cd_l_draws ct_l_draws : Value}
    (a_l_draws : PySem.W.nsIn K mainGlobals "_law_draws" = some (some (.ref f_l_draws)))
    (l_l_draws : K.lookup f_l_draws = some ⟨oc_l_draws, od_l_draws, .func (PySem.W.fnOf "_law_draws" "_law_draws" (defArgs s_l_draws) (defBody s_l_draws) (defScope s_l_draws) .none kV_l_draws dc_l_draws pm_l_draws an_l_draws cd_l_draws ct_l_draws), sl_l_draws⟩)
    (c_l_draws : PySem.W.codeIn K cd_l_draws "_law_draws" = true) (k_l_draws : PySem.W.keepIn K (.ref f_l_draws) = true)
    {f_l_next : Addr} {od_l_next an_l_next : Option Addr} {sl_l_next : Array (Option Value)} {oc_l_next kV_l_next dc_l_next pm_l_next cd_l_next ct_l_next : Value}
    (a_l_next : PySem.W.nsIn K mainGlobals "_law_next" = some (some (.ref f_l_next)))
    (l_l_next : K.lookup f_l_next = some ⟨oc_l_next, od_l_next, .func (PySem.W.fnOf "_law_next" "_law_next" (defArgs s_l_next) (defBody s_l_next) (defScope s_l_next) .none kV_l_next dc_l_next pm_l_next an_l_next cd_l_next ct_l_next), sl_l_next⟩)
    (c_l_next : PySem.W.codeIn K cd_l_next "_law_next" = true) (k_l_next : PySem.W.keepIn K (.ref f_l_next) = true)
    {f_l_shuffled : Addr} {od_l_shuffled an_l_shuffled : Option Addr} {sl_l_shuffled : Array (Option Value)} {oc_l_shuffled kV_l_shuffled dc_l_shuffled pm_l_shuffled cd_l_shuffled ct_l_shuffled : Value}
    (a_l_shuffled : PySem.W.nsIn K mainGlobals "_law_shuffled" = some (some (.ref f_l_shuffled)))
    (l_l_shuffled : K.lookup f_l_shuffled = some ⟨oc_l_shuffled, od_l_shuffled, .func (PySem.W.fnOf "_law_shuffled" "_law_shuffled" (defArgs s_l_shuffled) (defBody s_l_shuffled) (defScope s_l_shuffled) .none kV_l_shuffled dc_l_shuffled pm_l_shuffled an_l_shuffled cd_l_shuffled ct_l_shuffled), sl_l_shuffled⟩)
    (c_l_shuffled : PySem.W.codeIn K cd_l_shuffled "_law_shuffled" = true) (k_l_shuffled : PySem.W.keepIn K (.ref f_l_shuffled) = true)
    {f_l_order : Addr} {od_l_order an_l_order : Option Addr} {sl_l_order : Array (Option Value)} {oc_l_order kV_l_order dc_l_order pm_l_order cd_l_order ct_l_order : Value}
    (a_l_order : PySem.W.nsIn K mainGlobals "_law_order" = some (some (.ref f_l_order)))
    (l_l_order : K.lookup f_l_order = some ⟨oc_l_order, od_l_order, .func (PySem.W.fnOf "_law_order" "_law_order" (defArgs s_l_order) (defBody s_l_order) (defScope s_l_order) .none kV_l_order dc_l_order pm_l_order an_l_order cd_l_order ct_l_order), sl_l_order⟩)
    (c_l_order : PySem.W.codeIn K cd_l_order "_law_order" = true) (k_l_order : PySem.W.keepIn K (.ref f_l_order) = true)
    {f_l_net : Addr} {od_l_net an_l_net : Option Addr} {sl_l_net : Array (Option Value)} {oc_l_net kV_l_net dc_l_net pm_l_net cd_l_net ct_l_net : Value}
    (a_l_net : PySem.W.nsIn K mainGlobals "_law_net" = some (some (.ref f_l_net)))
    (l_l_net : K.lookup f_l_net = some ⟨oc_l_net, od_l_net, .func (PySem.W.fnOf "_law_net" "_law_net" (defArgs s_l_net) (defBody s_l_net) (defScope s_l_net) .none kV_l_net dc_l_net pm_l_net an_l_net cd_l_net ct_l_net), sl_l_net⟩)
    (c_l_net : PySem.W.codeIn K cd_l_net "_law_net" = true) (k_l_net : PySem.W.keepIn K (.ref f_l_net) = true)
    {f_l_near : Addr} {od_l_near an_l_near : Option Addr} {sl_l_near : Array (Option Value)} {oc_l_near kV_l_near dc_l_near pm_l_near cd_l_near ct_l_near : Value}
    (a_l_near : PySem.W.nsIn K mainGlobals "_law_near" = some (some (.ref f_l_near)))
    (l_l_near : K.lookup f_l_near = some ⟨oc_l_near, od_l_near, .func (PySem.W.fnOf "_law_near" "_law_near" (defArgs s_l_near) (defBody s_l_near) (defScope s_l_near) .none kV_l_near dc_l_near pm_l_near an_l_near cd_l_near ct_l_near), sl_l_near⟩)
    (c_l_near : PySem.W.codeIn K cd_l_near "_law_near" = true) (k_l_near : PySem.W.keepIn K (.ref f_l_near) = true)
    {f_l_moved : Addr} {od_l_moved an_l_moved : Option Addr} {sl_l_moved : Array (Option Value)} {oc_l_moved kV_l_moved dc_l_moved pm_l_moved cd_l_moved ct_l_moved : Value}
    (a_l_moved : PySem.W.nsIn K mainGlobals "_law_moved" = some (some (.ref f_l_moved)))
    (l_l_moved : K.lookup f_l_moved = some ⟨oc_l_moved, od_l_moved, .func (PySem.W.fnOf "_law_moved" "_law_moved" (defArgs s_l_moved) (defBody s_l_moved) (defScope s_l_moved) .none kV_l_moved dc_l_moved pm_l_moved an_l_moved cd_l_moved ct_l_moved), sl_l_moved⟩)
    (c_l_moved : PySem.W.codeIn K cd_l_moved "_law_moved" = true) (k_l_moved : PySem.W.keepIn K (.ref f_l_moved) = true)
    {f_l_called_right : Addr} {od_l_called_right an_l_called_right : Option Addr} {sl_l_called_right : Array (Option Value)} {oc_l_called_right kV_l_called_right dc_l_called_right pm_l_called_right cd_l_called_right ct_l_called_right : Value}
    (a_l_called_right : PySem.W.nsIn K mainGlobals "_law_called_right" = some (some (.ref f_l_called_right)))
    (l_l_called_right : K.lookup f_l_called_right = some ⟨oc_l_called_right, od_l_called_right, .func (PySem.W.fnOf "_law_called_right" "_law_called_right" (defArgs s_l_called_right) (defBody s_l_called_right) (defScope s_l_called_right) .none kV_l_called_right dc_l_called_right pm_l_called_right an_l_called_right cd_l_called_right ct_l_called_right), sl_l_called_right⟩)
    (c_l_called_right : PySem.W.codeIn K cd_l_called_right "_law_called_right" = true) (k_l_called_right : PySem.W.keepIn K (.ref f_l_called_right) = true)
    {f_l_rounds_right : Addr} {od_l_rounds_right an_l_rounds_right : Option Addr} {sl_l_rounds_right : Array (Option Value)} {oc_l_rounds_right kV_l_rounds_right dc_l_rounds_right pm_l_rounds_right cd_l_rounds_right ct_l_rounds_right : Value}
    (a_l_rounds_right : PySem.W.nsIn K mainGlobals "_law_rounds_right" = some (some (.ref f_l_rounds_right)))
    (l_l_rounds_right : K.lookup f_l_rounds_right = some ⟨oc_l_rounds_right, od_l_rounds_right, .func (PySem.W.fnOf "_law_rounds_right" "_law_rounds_right" (defArgs s_l_rounds_right) (defBody s_l_rounds_right) (defScope s_l_rounds_right) .none kV_l_rounds_right dc_l_rounds_right pm_l_rounds_right an_l_rounds_right cd_l_rounds_right ct_l_rounds_right), sl_l_rounds_right⟩)
    (c_l_rounds_right : PySem.W.codeIn K cd_l_rounds_right "_law_rounds_right" = true) (k_l_rounds_right : PySem.W.keepIn K (.ref f_l_rounds_right) = true)
    {f_l_great_right : Addr} {od_l_great_right an_l_great_right : Option Addr} {sl_l_great_right : Array (Option Value)} {oc_l_great_right kV_l_great_right dc_l_great_right pm_l_great_right cd_l_great_right ct_l_great_right : Value}
    (a_l_great_right : PySem.W.nsIn K mainGlobals "_law_great_right" = some (some (.ref f_l_great_right)))
    (l_l_great_right : K.lookup f_l_great_right = some ⟨oc_l_great_right, od_l_great_right, .func (PySem.W.fnOf "_law_great_right" "_law_great_right" (defArgs s_l_great_right) (defBody s_l_great_right) (defScope s_l_great_right) .none kV_l_great_right dc_l_great_right pm_l_great_right an_l_great_right cd_l_great_right ct_l_great_right), sl_l_great_right⟩)
    (c_l_great_right : PySem.W.codeIn K cd_l_great_right "_law_great_right" = true) (k_l_great_right : PySem.W.keepIn K (.ref f_l_great_right) = true)
    {f_law : Addr} {od_law an_law : Option Addr} {sl_law : Array (Option Value)} {oc_law kV_law dc_law pm_law cd_law ct_law : Value}
    (a_law : PySem.W.nsIn K mainGlobals "law" = some (some (.ref f_law)))
    (l_law : K.lookup f_law = some ⟨oc_law, od_law, .func (PySem.W.fnOf "law" "law" (defArgs s_law) (defBody s_law) (defScope s_law) .none kV_law dc_law pm_law an_law cd_law ct_law), sl_law⟩)
    (c_law : PySem.W.codeIn K cd_law "law" = true) (k_law : PySem.W.keepIn K (.ref f_law) = true)
    {t_LEAST_COUNT : Tok} (q_LEAST_COUNT : PySem.W.nsIn K mainGlobals "LEAST_COUNT" = some (some (.int 3 t_LEAST_COUNT)))
    {t_MOST_COUNT : Tok} (q_MOST_COUNT : PySem.W.nsIn K mainGlobals "MOST_COUNT" = some (some (.int 40 t_MOST_COUNT)))
    (z_isinstance : PySem.W.nsIn K mainGlobals "isinstance" = some none)
    (z_int : PySem.W.nsIn K mainGlobals "int" = some none)
    (z_bool : PySem.W.nsIn K mainGlobals "bool" = some none)
    (z_set : PySem.W.nsIn K mainGlobals "set" = some none)
    (z_enumerate : PySem.W.nsIn K mainGlobals "enumerate" = some none)
    (z_list : PySem.W.nsIn K mainGlobals "list" = some none)
    (z_len : PySem.W.nsIn K mainGlobals "len" = some none)
    (z_tuple : PySem.W.nsIn K mainGlobals "tuple" = some none)
    (z_sorted : PySem.W.nsIn K mainGlobals "sorted" = some none)
    (z_range : PySem.W.nsIn K mainGlobals "range" = some none)
    (z_abs : PySem.W.nsIn K mainGlobals "abs" = some none)
    (z_min : PySem.W.nsIn K mainGlobals "min" = some none)
    (z_repr : PySem.W.nsIn K mainGlobals "repr" = some none)
    : ∃ fd : FuncData, (∀ (s : Shared) (u : Value), BindsTo s fd ⟨[u], []⟩ [("_law_script", u)]) ∧ ∀ base : Heap, K.In base → base.Ns mainGlobals mg → FnG P w K mg base CX0 8 fa fd ["_law_script"] (sp_law K) := by
  have e := hfa.symm.trans (PySem.W.mg_of X G a_law)
  cases e
  have F_is_whole := fun_mk (st := s_is_whole) l_is_whole c_is_whole k_is_whole
  have F_is_from_one := fun_mk (st := s_is_from_one) l_is_from_one c_is_from_one k_is_from_one
  have F_first_wrong := fun_mk (st := s_first_wrong) l_first_wrong c_first_wrong k_first_wrong
  have F_check_count := fun_mk (st := s_check_count) l_check_count c_check_count k_check_count
  have F_is_tie := fun_mk (st := s_is_tie) l_is_tie c_is_tie k_is_tie
  have F_check_ties := fun_mk (st := s_check_ties) l_check_ties c_check_ties k_check_ties
  have F_check_net := fun_mk (st := s_check_net) l_check_net c_check_net k_check_net
  have F_check_standing := fun_mk (st := s_check_standing) l_check_standing c_check_standing k_check_standing
  have F_check_order_of := fun_mk (st := s_check_order_of) l_check_order_of c_check_order_of k_check_order_of
  have F_check_calls := fun_mk (st := s_check_calls) l_check_calls c_check_calls k_check_calls
  have F_check_many := fun_mk (st := s_check_many) l_check_many c_check_many k_check_many
  have F_next_call := fun_mk (st := s_next_call) l_next_call c_next_call k_next_call
  have F_places_of := fun_mk (st := s_places_of) l_places_of c_places_of k_places_of
  have F_standing_of := fun_mk (st := s_standing_of) l_standing_of c_standing_of k_standing_of
  have F_turned_about := fun_mk (st := s_turned_about) l_turned_about c_turned_about k_turned_about
  have F_tied_seats := fun_mk (st := s_tied_seats) l_tied_seats c_tied_seats k_tied_seats
  have F_people_called := fun_mk (st := s_people_called) l_people_called c_people_called k_people_called
  have F_places_after := fun_mk (st := s_places_after) l_places_after c_places_after k_places_after
  have F_called := fun_mk (st := s_called) l_called c_called k_called
  have F_after_rounds : FunD K "after_rounds" "after_rounds" (defArgs s_after_rounds) (defBody s_after_rounds) (defScope s_after_rounds) [.int 1] [] f_after_rounds (PySem.W.fnOf "after_rounds" "after_rounds" (defArgs s_after_rounds) (defBody s_after_rounds) (defScope s_after_rounds) (.ref D_after_rounds) kV_after_rounds dc_after_rounds pm_after_rounds an_after_rounds cd_after_rounds ct_after_rounds) := ⟨⟨_, _, _, _, _, _, _, _, _, _, rfl, l_after_rounds, c_after_rounds, .inr ⟨by simp, D_after_rounds, _, [.int 1 Dt_after_rounds], _, rfl, y_after_rounds, rfl, .cons ⟨_, rfl⟩ .nil⟩, .inl rfl⟩, k_after_rounds⟩
  have F_places_after_rounds := fun_mk (st := s_places_after_rounds) l_places_after_rounds c_places_after_rounds k_places_after_rounds
  have F_l_draws := fun_mk (st := s_l_draws) l_l_draws c_l_draws k_l_draws
  have F_l_next := fun_mk (st := s_l_next) l_l_next c_l_next k_l_next
  have F_l_shuffled := fun_mk (st := s_l_shuffled) l_l_shuffled c_l_shuffled k_l_shuffled
  have F_l_order := fun_mk (st := s_l_order) l_l_order c_l_order k_l_order
  have F_l_net := fun_mk (st := s_l_net) l_l_net c_l_net k_l_net
  have F_l_near := fun_mk (st := s_l_near) l_l_near c_l_near k_l_near
  have F_l_moved := fun_mk (st := s_l_moved) l_l_moved c_l_moved k_l_moved
  have F_l_called_right := fun_mk (st := s_l_called_right) l_l_called_right c_l_called_right k_l_called_right
  have F_l_rounds_right := fun_mk (st := s_l_rounds_right) l_l_rounds_right c_l_rounds_right k_l_rounds_right
  have F_l_great_right := fun_mk (st := s_l_great_right) l_l_great_right c_l_great_right k_l_great_right
  have F_law := fun_mk (st := s_law) l_law c_law k_law
  let A : Ad := ⟨f_is_whole, f_is_from_one, f_first_wrong, f_check_count, f_is_tie, f_check_ties, f_check_net, f_check_standing, f_check_order_of, f_check_calls, f_check_many, f_next_call, f_places_of, f_standing_of, f_turned_about, f_tied_seats, f_people_called, f_places_after, f_called, f_after_rounds, f_places_after_rounds, f_l_draws, f_l_next, f_l_shuffled, f_l_order, f_l_net, f_l_near, f_l_moved, f_l_called_right, f_l_rounds_right, f_l_great_right, fa,
    (PySem.W.fnOf "is_whole" "is_whole" (defArgs s_is_whole) (defBody s_is_whole) (defScope s_is_whole) .none kV_is_whole dc_is_whole pm_is_whole an_is_whole cd_is_whole ct_is_whole),
    (PySem.W.fnOf "is_from_one" "is_from_one" (defArgs s_is_from_one) (defBody s_is_from_one) (defScope s_is_from_one) .none kV_is_from_one dc_is_from_one pm_is_from_one an_is_from_one cd_is_from_one ct_is_from_one),
    (PySem.W.fnOf "first_wrong" "first_wrong" (defArgs s_first_wrong) (defBody s_first_wrong) (defScope s_first_wrong) .none kV_first_wrong dc_first_wrong pm_first_wrong an_first_wrong cd_first_wrong ct_first_wrong),
    (PySem.W.fnOf "check_count" "check_count" (defArgs s_check_count) (defBody s_check_count) (defScope s_check_count) .none kV_check_count dc_check_count pm_check_count an_check_count cd_check_count ct_check_count),
    (PySem.W.fnOf "is_tie" "is_tie" (defArgs s_is_tie) (defBody s_is_tie) (defScope s_is_tie) .none kV_is_tie dc_is_tie pm_is_tie an_is_tie cd_is_tie ct_is_tie),
    (PySem.W.fnOf "check_ties" "check_ties" (defArgs s_check_ties) (defBody s_check_ties) (defScope s_check_ties) .none kV_check_ties dc_check_ties pm_check_ties an_check_ties cd_check_ties ct_check_ties),
    (PySem.W.fnOf "check_net" "check_net" (defArgs s_check_net) (defBody s_check_net) (defScope s_check_net) .none kV_check_net dc_check_net pm_check_net an_check_net cd_check_net ct_check_net),
    (PySem.W.fnOf "check_standing" "check_standing" (defArgs s_check_standing) (defBody s_check_standing) (defScope s_check_standing) .none kV_check_standing dc_check_standing pm_check_standing an_check_standing cd_check_standing ct_check_standing),
    (PySem.W.fnOf "check_order_of" "check_order_of" (defArgs s_check_order_of) (defBody s_check_order_of) (defScope s_check_order_of) .none kV_check_order_of dc_check_order_of pm_check_order_of an_check_order_of cd_check_order_of ct_check_order_of),
    (PySem.W.fnOf "check_calls" "check_calls" (defArgs s_check_calls) (defBody s_check_calls) (defScope s_check_calls) .none kV_check_calls dc_check_calls pm_check_calls an_check_calls cd_check_calls ct_check_calls),
    (PySem.W.fnOf "check_many" "check_many" (defArgs s_check_many) (defBody s_check_many) (defScope s_check_many) .none kV_check_many dc_check_many pm_check_many an_check_many cd_check_many ct_check_many),
    (PySem.W.fnOf "next_call" "next_call" (defArgs s_next_call) (defBody s_next_call) (defScope s_next_call) .none kV_next_call dc_next_call pm_next_call an_next_call cd_next_call ct_next_call),
    (PySem.W.fnOf "places_of" "places_of" (defArgs s_places_of) (defBody s_places_of) (defScope s_places_of) .none kV_places_of dc_places_of pm_places_of an_places_of cd_places_of ct_places_of),
    (PySem.W.fnOf "standing_of" "standing_of" (defArgs s_standing_of) (defBody s_standing_of) (defScope s_standing_of) .none kV_standing_of dc_standing_of pm_standing_of an_standing_of cd_standing_of ct_standing_of),
    (PySem.W.fnOf "turned_about" "turned_about" (defArgs s_turned_about) (defBody s_turned_about) (defScope s_turned_about) .none kV_turned_about dc_turned_about pm_turned_about an_turned_about cd_turned_about ct_turned_about),
    (PySem.W.fnOf "tied_seats" "tied_seats" (defArgs s_tied_seats) (defBody s_tied_seats) (defScope s_tied_seats) .none kV_tied_seats dc_tied_seats pm_tied_seats an_tied_seats cd_tied_seats ct_tied_seats),
    (PySem.W.fnOf "people_called" "people_called" (defArgs s_people_called) (defBody s_people_called) (defScope s_people_called) .none kV_people_called dc_people_called pm_people_called an_people_called cd_people_called ct_people_called),
    (PySem.W.fnOf "places_after" "places_after" (defArgs s_places_after) (defBody s_places_after) (defScope s_places_after) .none kV_places_after dc_places_after pm_places_after an_places_after cd_places_after ct_places_after),
    (PySem.W.fnOf "called" "called" (defArgs s_called) (defBody s_called) (defScope s_called) .none kV_called dc_called pm_called an_called cd_called ct_called),
    (PySem.W.fnOf "after_rounds" "after_rounds" (defArgs s_after_rounds) (defBody s_after_rounds) (defScope s_after_rounds) (.ref D_after_rounds) kV_after_rounds dc_after_rounds pm_after_rounds an_after_rounds cd_after_rounds ct_after_rounds),
    (PySem.W.fnOf "places_after_rounds" "places_after_rounds" (defArgs s_places_after_rounds) (defBody s_places_after_rounds) (defScope s_places_after_rounds) .none kV_places_after_rounds dc_places_after_rounds pm_places_after_rounds an_places_after_rounds cd_places_after_rounds ct_places_after_rounds),
    (PySem.W.fnOf "_law_draws" "_law_draws" (defArgs s_l_draws) (defBody s_l_draws) (defScope s_l_draws) .none kV_l_draws dc_l_draws pm_l_draws an_l_draws cd_l_draws ct_l_draws),
    (PySem.W.fnOf "_law_next" "_law_next" (defArgs s_l_next) (defBody s_l_next) (defScope s_l_next) .none kV_l_next dc_l_next pm_l_next an_l_next cd_l_next ct_l_next),
    (PySem.W.fnOf "_law_shuffled" "_law_shuffled" (defArgs s_l_shuffled) (defBody s_l_shuffled) (defScope s_l_shuffled) .none kV_l_shuffled dc_l_shuffled pm_l_shuffled an_l_shuffled cd_l_shuffled ct_l_shuffled),
    (PySem.W.fnOf "_law_order" "_law_order" (defArgs s_l_order) (defBody s_l_order) (defScope s_l_order) .none kV_l_order dc_l_order pm_l_order an_l_order cd_l_order ct_l_order),
    (PySem.W.fnOf "_law_net" "_law_net" (defArgs s_l_net) (defBody s_l_net) (defScope s_l_net) .none kV_l_net dc_l_net pm_l_net an_l_net cd_l_net ct_l_net),
    (PySem.W.fnOf "_law_near" "_law_near" (defArgs s_l_near) (defBody s_l_near) (defScope s_l_near) .none kV_l_near dc_l_near pm_l_near an_l_near cd_l_near ct_l_near),
    (PySem.W.fnOf "_law_moved" "_law_moved" (defArgs s_l_moved) (defBody s_l_moved) (defScope s_l_moved) .none kV_l_moved dc_l_moved pm_l_moved an_l_moved cd_l_moved ct_l_moved),
    (PySem.W.fnOf "_law_called_right" "_law_called_right" (defArgs s_l_called_right) (defBody s_l_called_right) (defScope s_l_called_right) .none kV_l_called_right dc_l_called_right pm_l_called_right an_l_called_right cd_l_called_right ct_l_called_right),
    (PySem.W.fnOf "_law_rounds_right" "_law_rounds_right" (defArgs s_l_rounds_right) (defBody s_l_rounds_right) (defScope s_l_rounds_right) .none kV_l_rounds_right dc_l_rounds_right pm_l_rounds_right an_l_rounds_right cd_l_rounds_right ct_l_rounds_right),
    (PySem.W.fnOf "_law_great_right" "_law_great_right" (defArgs s_l_great_right) (defBody s_l_great_right) (defScope s_l_great_right) .none kV_l_great_right dc_l_great_right pm_l_great_right an_l_great_right cd_l_great_right ct_l_great_right),
    (PySem.W.fnOf "law" "law" (defArgs s_law) (defBody s_law) (defScope s_law) .none kV_law dc_law pm_law an_law cd_law ct_law),t_LEAST_COUNT, t_MOST_COUNT⟩
  have T : Txt K mg A :=
    { F_is_whole := F_is_whole
      g_is_whole := PySem.W.mg_of X G a_is_whole
      b_is_whole := F_is_whole.binds (ps := ["thing"]) fun _ _ _ _ _ _ us hl => match us, hl with | [_], _ => rfl
      F_is_from_one := F_is_from_one
      g_is_from_one := PySem.W.mg_of X G a_is_from_one
      b_is_from_one := F_is_from_one.binds (ps := ["thing", "most"]) fun _ _ _ _ _ _ us hl => match us, hl with | [_, _], _ => rfl
      F_first_wrong := F_first_wrong
      g_first_wrong := PySem.W.mg_of X G a_first_wrong
      b_first_wrong := F_first_wrong.binds (ps := ["things", "most"]) fun _ _ _ _ _ _ us hl => match us, hl with | [_, _], _ => rfl
      F_check_count := F_check_count
      g_check_count := PySem.W.mg_of X G a_check_count
      b_check_count := F_check_count.binds (ps := ["number"]) fun _ _ _ _ _ _ us hl => match us, hl with | [_], _ => rfl
      F_is_tie := F_is_tie
      g_is_tie := PySem.W.mg_of X G a_is_tie
      b_is_tie := F_is_tie.binds (ps := ["thing", "seats"]) fun _ _ _ _ _ _ us hl => match us, hl with | [_, _], _ => rfl
      F_check_ties := F_check_ties
      g_check_ties := PySem.W.mg_of X G a_check_ties
      b_check_ties := F_check_ties.binds (ps := ["ties", "seats"]) fun _ _ _ _ _ _ us hl => match us, hl with | [_, _], _ => rfl
      F_check_net := F_check_net
      g_check_net := PySem.W.mg_of X G a_check_net
      b_check_net := F_check_net.binds (ps := ["seats", "ties"]) fun _ _ _ _ _ _ us hl => match us, hl with | [_, _], _ => rfl
      F_check_standing := F_check_standing
      g_check_standing := PySem.W.mg_of X G a_check_standing
      b_check_standing := F_check_standing.binds (ps := ["standing", "seats"]) fun _ _ _ _ _ _ us hl => match us, hl with | [_, _], _ => rfl
      F_check_order_of := F_check_order_of
      g_check_order_of := PySem.W.mg_of X G a_check_order_of
      b_check_order_of := F_check_order_of.binds (ps := ["order", "count"]) fun _ _ _ _ _ _ us hl => match us, hl with | [_, _], _ => rfl
      F_check_calls := F_check_calls
      g_check_calls := PySem.W.mg_of X G a_check_calls
      b_check_calls := F_check_calls.binds (ps := ["calls", "count"]) fun _ _ _ _ _ _ us hl => match us, hl with | [_, _], _ => rfl
      F_check_many := F_check_many
      g_check_many := PySem.W.mg_of X G a_check_many
      b_check_many := F_check_many.binds (ps := ["many"]) fun _ _ _ _ _ _ us hl => match us, hl with | [_], _ => rfl
      F_next_call := F_next_call
      g_next_call := PySem.W.mg_of X G a_next_call
      b_next_call := F_next_call.binds (ps := ["call", "count"]) fun _ _ _ _ _ _ us hl => match us, hl with | [_, _], _ => rfl
      F_places_of := F_places_of
      g_places_of := PySem.W.mg_of X G a_places_of
      b_places_of := F_places_of.binds (ps := ["standing"]) fun _ _ _ _ _ _ us hl => match us, hl with | [_], _ => rfl
      F_standing_of := F_standing_of
      g_standing_of := PySem.W.mg_of X G a_standing_of
      b_standing_of := F_standing_of.binds (ps := ["places"]) fun _ _ _ _ _ _ us hl => match us, hl with | [_], _ => rfl
      F_turned_about := F_turned_about
      g_turned_about := PySem.W.mg_of X G a_turned_about
      b_turned_about := F_turned_about.binds (ps := ["row"]) fun _ _ _ _ _ _ us hl => match us, hl with | [_], _ => rfl
      F_tied_seats := F_tied_seats
      g_tied_seats := PySem.W.mg_of X G a_tied_seats
      b_tied_seats := F_tied_seats.binds (ps := ["seats", "ties"]) fun _ _ _ _ _ _ us hl => match us, hl with | [_, _], _ => rfl
      F_people_called := F_people_called
      g_people_called := PySem.W.mg_of X G a_people_called
      b_people_called := F_people_called.binds (ps := ["calls", "count"]) fun _ _ _ _ _ _ us hl => match us, hl with | [_, _], _ => rfl
      F_places_after := F_places_after
      g_places_after := PySem.W.mg_of X G a_places_after
      b_places_after := F_places_after.binds (ps := ["places", "pairs", "tied"]) fun _ _ _ _ _ _ us hl => match us, hl with | [_, _, _], _ => rfl
      F_called := F_called
      g_called := PySem.W.mg_of X G a_called
      b_called := F_called.binds (ps := ["seats", "ties", "standing", "calls"]) fun _ _ _ _ _ _ us hl => match us, hl with | [_, _, _, _], _ => rfl
      kb_called := rev4_binds fun _ _ _ _  => rfl
      F_after_rounds := F_after_rounds
      g_after_rounds := PySem.W.mg_of X G a_after_rounds
      b_after_rounds := bindsD0 (ps := ["seats", "ties", "standing", "order", "many"]) F_after_rounds (by simp) fun _ _ _ _ _ _ _ us its hl h2 => match us, hl, its, h2 with | [_, _, _, _, _], _, [_], _ => ⟨_, rfl, rfl⟩
      bd_after_rounds := F_after_rounds.binds1 (ps := ["seats", "ties", "standing", "order", "many"]) 4 0 (by simp) rfl fun _ _ _ _ _ _ _ us its hl h2 => match us, hl, its, h2 with | [_, _, _, _], _, [_], _ => ⟨_, rfl, rfl⟩
      kb_after_rounds := rev5_bindsD F_after_rounds (by simp) fun _ _ _ _ _ _ _ a b c d e its h2 => match its, h2 with | [_], _ => ⟨_, rfl, rfl⟩
      F_places_after_rounds := F_places_after_rounds
      g_places_after_rounds := PySem.W.mg_of X G a_places_after_rounds
      b_places_after_rounds := F_places_after_rounds.binds (ps := ["start", "pairs", "tied", "many"]) fun _ _ _ _ _ _ us hl => match us, hl with | [_, _, _, _], _ => rfl
      F_l_draws := F_l_draws
      g_l_draws := PySem.W.mg_of X G a_l_draws
      b_l_draws := F_l_draws.binds (ps := ["_law_cell"]) fun _ _ _ _ _ _ us hl => match us, hl with | [_], _ => rfl
      F_l_next := F_l_next
      g_l_next := PySem.W.mg_of X G a_l_next
      b_l_next := F_l_next.binds (ps := ["_law_draws_here"]) fun _ _ _ _ _ _ us hl => match us, hl with | [_], _ => rfl
      F_l_shuffled := F_l_shuffled
      g_l_shuffled := PySem.W.mg_of X G a_l_shuffled
      b_l_shuffled := F_l_shuffled.binds (ps := ["_law_draws_here", "_law_things"]) fun _ _ _ _ _ _ us hl => match us, hl with | [_, _], _ => rfl
      F_l_order := F_l_order
      g_l_order := PySem.W.mg_of X G a_l_order
      b_l_order := F_l_order.binds (ps := ["_law_draws_here", "_law_most"]) fun _ _ _ _ _ _ us hl => match us, hl with | [_, _], _ => rfl
      F_l_net := F_l_net
      g_l_net := PySem.W.mg_of X G a_l_net
      b_l_net := F_l_net.binds (ps := ["_law_draws_here", "_law_figure"]) fun _ _ _ _ _ _ us hl => match us, hl with | [_, _], _ => rfl
      F_l_near := F_l_near
      g_l_near := PySem.W.mg_of X G a_l_near
      b_l_near := F_l_near.binds (ps := ["_law_pairs"]) fun _ _ _ _ _ _ us hl => match us, hl with | [_], _ => rfl
      F_l_moved := F_l_moved
      g_l_moved := PySem.W.mg_of X G a_l_moved
      b_l_moved := F_l_moved.binds (ps := ["_law_near_here", "_law_row", "_law_rows"]) fun _ _ _ _ _ _ us hl => match us, hl with | [_, _, _], _ => rfl
      F_l_called_right := F_l_called_right
      g_l_called_right := PySem.W.mg_of X G a_l_called_right
      b_l_called_right := F_l_called_right.binds (ps := ["_law_draws_here", "_law_figure", "_law_pairs", "_law_now"]) fun _ _ _ _ _ _ us hl => match us, hl with | [_, _, _, _], _ => rfl
      F_l_rounds_right := F_l_rounds_right
      g_l_rounds_right := PySem.W.mg_of X G a_l_rounds_right
      b_l_rounds_right := F_l_rounds_right.binds (ps := ["_law_draws_here", "_law_figure", "_law_pairs", "_law_now", "_law_row"]) fun _ _ _ _ _ _ us hl => match us, hl with | [_, _, _, _, _], _ => rfl
      F_l_great_right := F_l_great_right
      g_l_great_right := PySem.W.mg_of X G a_l_great_right
      b_l_great_right := F_l_great_right.binds (ps := ["_law_draws_here", "_law_figure", "_law_pairs", "_law_now", "_law_row"]) fun _ _ _ _ _ _ us hl => match us, hl with | [_, _, _, _, _], _ => rfl
      F_law := F_law
      g_law := PySem.W.mg_of X G a_law
      b_law := F_law.binds (ps := ["_law_script"]) fun _ _ _ _ _ _ us hl => match us, hl with | [_], _ => rfl
      g_LEAST_COUNT := PySem.W.mg_of X G q_LEAST_COUNT
      g_MOST_COUNT := PySem.W.mg_of X G q_MOST_COUNT
      z_isinstance := PySem.W.mg_none_of X G z_isinstance
      z_int := PySem.W.mg_none_of X G z_int
      z_bool := PySem.W.mg_none_of X G z_bool
      z_set := PySem.W.mg_none_of X G z_set
      z_enumerate := PySem.W.mg_none_of X G z_enumerate
      z_list := PySem.W.mg_none_of X G z_list
      z_len := PySem.W.mg_none_of X G z_len
      z_tuple := PySem.W.mg_none_of X G z_tuple
      z_sorted := PySem.W.mg_none_of X G z_sorted
      z_range := PySem.W.mg_none_of X G z_range
      z_abs := PySem.W.mg_none_of X G z_abs
      z_min := PySem.W.mg_none_of X G z_min
      z_repr := PySem.W.mg_none_of X G z_repr }
  exact ⟨_, fun s u => .of_eq rfl, fun base _ _ => ok_law (A := A) T⟩
end
end K20

open PySem PySem.W PyProof.Rows
theorem PySem.Challenge.cw_apartcalls_k20_whole_calls_and_rounds_holds : PySem.Challenge.rw_apartcalls_k20_whole_calls_and_rounds.Holds := by
  w_on
  o_law
  k_head
  (case hw => w_witness2)
  k_fill
  refine Vf.walkG_of (l := PySem.Challenge.rw_apartcalls_k20_whole_calls_and_rounds) (n := 63) (k := 8) (x := "_law_script") (sp := K20.sp_law) rfl (by decide) rfl ⟨rfl, by decide, by decide⟩ (fun w h Y => PySem.W.kIn_of Y) ?F (fun K H a ns hl _ hS => ⟨a, ns, rfl, hS, hl, fun _ => rfl⟩)
  case F =>
    intro w mg fa h KX G hmg
    refine' K20.all_mk KX G hmg ?a_is_whole ?l_is_whole ?c_is_whole ?k_is_whole ?a_is_from_one ?l_is_from_one ?c_is_from_one ?k_is_from_one ?a_first_wrong ?l_first_wrong ?c_first_wrong ?k_first_wrong ?a_check_count ?l_check_count ?c_check_count ?k_check_count ?a_is_tie ?l_is_tie ?c_is_tie ?k_is_tie ?a_check_ties ?l_check_ties ?c_check_ties ?k_check_ties ?a_check_net ?l_check_net ?c_check_net ?k_check_net ?a_check_standing ?l_check_standing ?c_check_standing ?k_check_standing ?a_check_order_of ?l_check_order_of ?c_check_order_of ?k_check_order_of ?a_check_calls ?l_check_calls ?c_check_calls ?k_check_calls ?a_check_many ?l_check_many ?c_check_many ?k_check_many ?a_next_call ?l_next_call ?c_next_call ?k_next_call ?a_places_of ?l_places_of ?c_places_of ?k_places_of ?a_standing_of ?l_standing_of ?c_standing_of ?k_standing_of ?a_turned_about ?l_turned_about ?c_turned_about ?k_turned_about ?a_tied_seats ?l_tied_seats ?c_tied_seats ?k_tied_seats ?a_people_called ?l_people_called ?c_people_called ?k_people_called ?a_places_after ?l_places_after ?c_places_after ?k_places_after ?a_called ?l_called ?c_called ?k_called ?a_after_rounds ?y_after_rounds ?l_after_rounds ?c_after_rounds ?k_after_rounds ?a_places_after_rounds ?l_places_after_rounds ?c_places_after_rounds ?k_places_after_rounds ?a_l_draws ?l_l_draws ?c_l_draws ?k_l_draws ?a_l_next ?l_l_next ?c_l_next ?k_l_next ?a_l_shuffled ?l_l_shuffled ?c_l_shuffled ?k_l_shuffled ?a_l_order ?l_l_order ?c_l_order ?k_l_order ?a_l_net ?l_l_net ?c_l_net ?k_l_net ?a_l_near ?l_l_near ?c_l_near ?k_l_near ?a_l_moved ?l_l_moved ?c_l_moved ?k_l_moved ?a_l_called_right ?l_l_called_right ?c_l_called_right ?k_l_called_right ?a_l_rounds_right ?l_l_rounds_right ?c_l_rounds_right ?k_l_rounds_right ?a_l_great_right ?l_l_great_right ?c_l_great_right ?k_l_great_right ?a_law ?l_law ?c_law ?k_law ?q_LEAST_COUNT ?q_MOST_COUNT ?z_isinstance ?z_int ?z_bool ?z_set ?z_enumerate ?z_list ?z_len ?z_tuple ?z_sorted ?z_range ?z_abs ?z_min ?z_repr
    (case a_is_whole => k_is)
    (case l_is_whole => k_is)
    (case c_is_whole => k_is)
    (case k_is_whole => k_is)
    (case a_is_from_one => k_is)
    (case l_is_from_one => k_is)
    (case c_is_from_one => k_is)
    (case k_is_from_one => k_is)
    (case a_first_wrong => k_is)
    (case l_first_wrong => k_is)
    (case c_first_wrong => k_is)
    (case k_first_wrong => k_is)
    (case a_check_count => k_is)
    (case l_check_count => k_is)
    (case c_check_count => k_is)
    (case k_check_count => k_is)
    (case a_is_tie => k_is)
    (case l_is_tie => k_is)
    (case c_is_tie => k_is)
    (case k_is_tie => k_is)
    (case a_check_ties => k_is)
    (case l_check_ties => k_is)
    (case c_check_ties => k_is)
    (case k_check_ties => k_is)
    (case a_check_net => k_is)
    (case l_check_net => k_is)
    (case c_check_net => k_is)
    (case k_check_net => k_is)
    (case a_check_standing => k_is)
    (case l_check_standing => k_is)
    (case c_check_standing => k_is)
    (case k_check_standing => k_is)
    (case a_check_order_of => k_is)
    (case l_check_order_of => k_is)
    (case c_check_order_of => k_is)
    (case k_check_order_of => k_is)
    (case a_check_calls => k_is)
    (case l_check_calls => k_is)
    (case c_check_calls => k_is)
    (case k_check_calls => k_is)
    (case a_check_many => k_is)
    (case l_check_many => k_is)
    (case c_check_many => k_is)
    (case k_check_many => k_is)
    (case a_next_call => k_is)
    (case l_next_call => k_is)
    (case c_next_call => k_is)
    (case k_next_call => k_is)
    (case a_places_of => k_is)
    (case l_places_of => k_is)
    (case c_places_of => k_is)
    (case k_places_of => k_is)
    (case a_standing_of => k_is)
    (case l_standing_of => k_is)
    (case c_standing_of => k_is)
    (case k_standing_of => k_is)
    (case a_turned_about => k_is)
    (case l_turned_about => k_is)
    (case c_turned_about => k_is)
    (case k_turned_about => k_is)
    (case a_tied_seats => k_is)
    (case l_tied_seats => k_is)
    (case c_tied_seats => k_is)
    (case k_tied_seats => k_is)
    (case a_people_called => k_is)
    (case l_people_called => k_is)
    (case c_people_called => k_is)
    (case k_people_called => k_is)
    (case a_places_after => k_is)
    (case l_places_after => k_is)
    (case c_places_after => k_is)
    (case k_places_after => k_is)
    (case a_called => k_is)
    (case l_called => k_is)
    (case c_called => k_is)
    (case k_called => k_is)
    (case a_after_rounds => k_is)
    (case l_after_rounds => k_is)
    (case c_after_rounds => k_is)
    (case k_after_rounds => k_is)
    (case a_places_after_rounds => k_is)
    (case l_places_after_rounds => k_is)
    (case c_places_after_rounds => k_is)
    (case k_places_after_rounds => k_is)
    (case a_l_draws => k_is)
    (case l_l_draws => k_is)
    (case c_l_draws => k_is)
    (case k_l_draws => k_is)
    (case a_l_next => k_is)
    (case l_l_next => k_is)
    (case c_l_next => k_is)
    (case k_l_next => k_is)
    (case a_l_shuffled => k_is)
    (case l_l_shuffled => k_is)
    (case c_l_shuffled => k_is)
    (case k_l_shuffled => k_is)
    (case a_l_order => k_is)
    (case l_l_order => k_is)
    (case c_l_order => k_is)
    (case k_l_order => k_is)
    (case a_l_net => k_is)
    (case l_l_net => k_is)
    (case c_l_net => k_is)
    (case k_l_net => k_is)
    (case a_l_near => k_is)
    (case l_l_near => k_is)
    (case c_l_near => k_is)
    (case k_l_near => k_is)
    (case a_l_moved => k_is)
    (case l_l_moved => k_is)
    (case c_l_moved => k_is)
    (case k_l_moved => k_is)
    (case a_l_called_right => k_is)
    (case l_l_called_right => k_is)
    (case c_l_called_right => k_is)
    (case k_l_called_right => k_is)
    (case a_l_rounds_right => k_is)
    (case l_l_rounds_right => k_is)
    (case c_l_rounds_right => k_is)
    (case k_l_rounds_right => k_is)
    (case a_l_great_right => k_is)
    (case l_l_great_right => k_is)
    (case c_l_great_right => k_is)
    (case k_l_great_right => k_is)
    (case a_law => k_is)
    (case l_law => k_is)
    (case c_law => k_is)
    (case k_law => k_is)
    (case q_LEAST_COUNT => k_is)
    (case q_MOST_COUNT => k_is)
    (case z_isinstance => k_is)
    (case z_int => k_is)
    (case z_bool => k_is)
    (case z_set => k_is)
    (case z_enumerate => k_is)
    (case z_list => k_is)
    (case z_len => k_is)
    (case z_tuple => k_is)
    (case z_sorted => k_is)
    (case z_range => k_is)
    (case z_abs => k_is)
    (case z_min => k_is)
    (case z_repr => k_is)
    (case y_after_rounds => k_is)

